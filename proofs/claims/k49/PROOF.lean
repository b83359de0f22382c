import PyProof.Rows.All
import Wide.All
import OpenK.AllK
import Wide.FinOn
import PyProof.EqAt
import PyProof.EqKinds
import PyProof.TupleCall
import KE.BitLaws
import KE.KSortKeySt
import KE.KLam
import PyProof.ListRange
import KE.KSortTupG
import PyProof.Rows.SetFrom
import KE.KRevSl
import KE.KSuper
import PyProof.Draws
import PyProof.ListMulRoad
import PyProof.IsiNone
import PyProof.WalkInts
import PyProof.StrOps2
import KE.KStar
import PyProof.ListNew
import KE.KEqDict
import PyProof.InstStoreFacts
import PySem.Challenge.RW_chartscribe_k49_stretches_told
set_option Elab.async false
set_option linter.all false
set_option maxRecDepth 100000
namespace L2
open PySem PySem.Spec PyProof.Rows
abbrev Key := Sum Int Str
def keyIs : Key → Value → Bool
  | .inl k, v => Value.isInt k v
  | .inr x, v => Value.isStrOf x v
def keyH (w : World) : Key → Int
  | .inl k => hashInt k
  | .inr x => hashStr w x
theorem keyIs_shape : ∀ {k : Key} {v : Value}, keyIs k v = true → (∃ i t, k = Sum.inl i ∧ v = Value.int i t) ∨ (∃ x t, k = Sum.inr x ∧ v = Value.str x t)
  | .inl i, v, h => by
    obtain ⟨t, e⟩ := Value.isInt_shape (k := i) (v := v) h
    exact .inl ⟨i, t, rfl, e⟩
  | .inr x, v, h => by
    obtain ⟨t, e⟩ := Value.isStrOf_shape (x := x) (v := v) h
    exact .inr ⟨x, t, rfl, e⟩
theorem key_ll (a b : Int) : decide ((Sum.inl a : Key) = Sum.inl b) = (a == b) := by
  by_cases e : a = b
  · subst e; simp
  · have h : ¬ (Sum.inl a : Key) = Sum.inl b := fun q => e (Sum.inl.inj q)
    rw [decide_eq_false h]
    exact (beq_eq_false_iff_ne.mpr e).symm
theorem key_rr (a b : Str) : decide ((Sum.inr a : Key) = Sum.inr b) = decide (a = b) := by
  by_cases e : a = b
  · subst e; simp
  · have h : ¬ (Sum.inr a : Key) = Sum.inr b := fun q => e (Sum.inr.inj q)
    rw [decide_eq_false h, decide_eq_false e]
theorem key_lr (a : Int) (b : Str) : decide ((Sum.inl a : Key) = Sum.inr b) = false := decide_eq_false (fun q => nomatch q)
theorem key_rl (a : Str) (b : Int) : decide ((Sum.inr a : Key) = Sum.inl b) = false := decide_eq_false (fun q => nomatch q)
def mixKind (prog : Program) (w : World) : PySem.KeyKind prog w Key where
  is := keyIs
  hash := keyH w
  inj := fun v a b ha hb => by
    rcases keyIs_shape ha with ⟨i, t, rfl, rfl⟩ | ⟨x, t, rfl, rfl⟩
    · rcases keyIs_shape hb with ⟨j, u, rfl, e⟩ | ⟨y, u, rfl, e⟩
      · injection e with e1 _; rw [e1]
      · exact nomatch e
    · rcases keyIs_shape hb with ⟨j, u, rfl, e⟩ | ⟨y, u, rfl, e⟩
      · exact nomatch e
      · injection e with e1 _; rw [e1]
  byValue := fun k v h => by
    rcases keyIs_shape h with ⟨i, t, rfl, rfl⟩ | ⟨x, t, rfl, rfl⟩ <;> rfl
  pyHash := fun hv h => by
    rcases keyIs_shape hv with ⟨i, t, rfl, rfl⟩ | ⟨x, t, rfl, rfl⟩
    · exact wpAny_pyHash_int h
    · exact wpAny_pyHash_str h
  eqBool := fun hu hv h => by
    rcases keyIs_shape hu with ⟨i, t, rfl, rfl⟩ | ⟨x, t, rfl, rfl⟩
    · rcases keyIs_shape hv with ⟨j, u, rfl, rfl⟩ | ⟨y, u, rfl, rfl⟩
      · rw [key_ll] at h; exact wpAny_eqBool_int h
      · rw [key_lr] at h; exact SeqAt.EqAt.int_str i t y u _ _ _ _ h
    · rcases keyIs_shape hv with ⟨j, u, rfl, rfl⟩ | ⟨y, u, rfl, rfl⟩
      · rw [key_rl] at h; exact SeqAt.EqAt.str_int x t j u _ _ _ _ h
      · rw [key_rr] at h; exact wpAny_eqBool_str h
  «strs» := fun k x t v h => by
    rcases keyIs_shape h with ⟨i, u, rfl, e⟩ | ⟨y, u, rfl, e⟩
    · exact nomatch e
    · injection e with e1 _
      subst e1
      cases v <;> rfl
end L2
namespace L2
open PySem PySem.Spec PyProof.Rows
inductive V where
  | non | bl (b : Bool) | int (i : Int) | str (x : Str) | byt (b : Array UInt8) | flt (b : UInt64) | ref (a : Addr) | ty (n : String)
  deriving DecidableEq
def RelV : V → Value → Prop
  | .non, u => u = Value.none
  | .bl b, u => u = Value.bool b
  | .int i, u => ∃ t, u = Value.int i t
  | .str x, u => ∃ t, u = Value.str x t
  | .byt b, u => ∃ t, u = Value.bytes b t
  | .flt b, u => ∃ t, u = Value.float b t
  | .ref a, u => u = Value.ref a
  | .ty n, u => u = Value.type n
abbrev Vals : List V → List Value → Prop := Paired RelV
theorem Vals.length {xs : List V} {us : List Value} (r : Vals xs us) : xs.length = us.length := Paired.length r
theorem Vals.get : ∀ {xs : List V} {us : List Value} {i : Nat} {x : V}, Vals xs us → xs[i]? = some x → ∃ u, us[i]? = some u ∧ RelV x u
  | _, _, _, _, .nil, e => by simp at e
  | _, _, 0, _, .cons r _, e => by simp at e; subst e; exact ⟨_, rfl, r⟩
  | _, _, i + 1, x, .cons _ t, e => by
    obtain ⟨u, h1, h2⟩ := Vals.get (i := i) (x := x) t (by simpa using e)
    exact ⟨u, by simpa using h1, h2⟩
theorem Vals.set {x : V} {u : Value} (r : RelV x u) : ∀ {xs : List V} {us : List Value} (i : Nat), Vals xs us → Vals (xs.set i x) (us.set i u)
  | _, _, _, .nil => .nil
  | _, _, 0, .cons _ t => .cons r t
  | _, _, i + 1, .cons q t => .cons q (Vals.set r i t)
theorem Vals.append : ∀ {xs ys : List V} {us ws : List Value}, Vals xs us → Vals ys ws → Vals (xs ++ ys) (us ++ ws)
  | _, _, _, _, .nil, s => s
  | _, _, _, _, .cons r t, s => .cons r (Vals.append t s)
theorem Vals.take : ∀ {xs : List V} {us : List Value} (n : Nat), Vals xs us → Vals (xs.take n) (us.take n)
  | _, _, 0, _ => .nil
  | _, _, _ + 1, .nil => .nil
  | _, _, n + 1, .cons r t => .cons r (Vals.take n t)
theorem Vals.drop : ∀ {xs : List V} {us : List Value} (n : Nat), Vals xs us → Vals (xs.drop n) (us.drop n)
  | _, _, 0, r => r
  | _, _, _ + 1, .nil => .nil
  | _, _, n + 1, .cons _ t => Vals.drop n t
def RelO : Option V → Option Value → Prop
  | some v, some u => RelV v u
  | none, none => True
  | _, _ => False
def KV {κ : Type} : List (κ × V) → List (κ × Value) → Prop := Paired fun (p : κ × V) (q : κ × Value) => p.1 = q.1 ∧ RelV p.2 q.2
def kV : Key → V
  | .inl i => .int i
  | .inr x => .str x
inductive HO where
  | lst (xs : List V)
  | tup (xs : List V)
  | dK (kvs : List (Key × V)) | dT (kvs : List (List Key × V))
  | set (S : Int → Bool) (n : Nat)
  | ins (C dx : Addr) (fs : List (Str × V))
  | own (x : Addr)
  | xd (fs : List (Str × V))
  | met (f x : Addr)
  | rng (lo hi : Int)
  | frz (o : Obj) (u : HO)
  | tbl (ps : Array Value)
  | ext (φ : Heap → Prop)
abbrev Hp := Addr → Option HO
def upd (H : Hp) (a : Addr) (o : HO) : Hp := fun b => if b = a then some o else H b
theorem upd_same {H : Hp} {a : Addr} {o : HO} : upd H a o a = some o := by unfold upd; rw [if_pos rfl]
theorem upd_ne {H : Hp} {a b : Addr} {o : HO} (h : b ≠ a) : upd H a o b = H b := by unfold upd; rw [if_neg h]
theorem ne_of {H : Hp} {a b : Addr} {o u : HO} (h : H a = some o) (h' : H b = some u) (d : o ≠ u) : a ≠ b := by
  intro e; subst e; rw [h] at h'; exact d (Option.some.inj h')
theorem ne_of_none {H : Hp} {a b : Addr} {o : HO} (h : H a = some o) (h' : H b = none) : a ≠ b := by
  intro e; subst e; rw [h] at h'; cases h'
section
variable (P : Program) (w : World)
def ObjOk (H : Hp) (h : Heap) (a : Addr) : HO → Prop
  | .lst xs => xs.length ≤ sizeLine ∧ ∃ (its : List Value) (n : Nat), Vals xs its ∧ h.get? a = some { cls := .type "list", data := .seq its.toArray n }
  | .tup xs => xs.length ≤ sizeLine ∧ ∃ its : List Value, Vals xs its ∧ IsTup h a its.toArray
  | .dK kvs => kvs.length ≤ sizeLine ∧ (a == sysModules) = false ∧ ∃ vs, KV kvs vs ∧ h.DictOf (mixKind P w) a vs
  | .dT kvs => kvs.length ≤ sizeLine ∧ (a == sysModules) = false ∧ ∃ xs : List (List Key × Addr × Value),
      Paired (fun (p : List Key × V) (q : List Key × Addr × Value) => p.1 = q.1 ∧ H q.2.1 = some (.tup (p.1.map kV)) ∧ RelV p.2 q.2.2) kvs xs ∧
      ∃ o es ep, h.get? a = some o ∧ o.ExactDict ∧ o.data = .dict es ep ∧ es.toList = xs.map (entryOfKey (tupleKind (mixKind P w))) ∧ (xs.map (·.1)).Nodup
  | .set S n => h.SetOf (intKind P w) a S n
  | .ins C dx fs => H dx = some (.own a) ∧ fs.length ≤ 1000 ∧ dx ≠ a ∧ h.get? a = some (PySem.W.instObj C dx) ∧
      ∃ mA, h.Ns1 dx mA ∧ (∀ f, RelO (fs.lookup f) (mA f)) ∧ PySem.Within mA (fs.map (·.1))
  | .own _ => ∃ o, h.get? a = some o
  | .xd fs => ∃ mA, h.Ns1 a mA ∧ ∀ f, RelO (fs.lookup f) (mA f)
  | .rng lo hi => ∃ t u v, h.get? a = some { cls := .type "range", data := .fields #[.int lo t, .int hi u, .int 1 v] }
  | .frz o u => h.get? a = some o ∧ ObjOk H h a u
  | .tbl ps => h.get? a = some { cls := .none, data := .fields ps }
  | .met f x => h.get? a = some (PySem.W.methodObj (.ref f) (.ref x))
  | .ext φ => φ h ∧ (∃ o, h.get? a = some o) ∧ ∀ h1 h2 : Heap, φ h1 → (∀ o, h1.get? a = some o → h2.get? a = some o) → φ h2
def HOk (H : Hp) (h : Heap) : Prop := ∀ a o, H a = some o → ObjOk P w H h a o
end
section
variable {P : Program} {w : World} {H H' : Hp} {h h' : Heap} {a : Addr} {o : HO}
theorem ObjOk.lt (x : ObjOk P w H h a o) : a < h.objs.size := by
  cases o with
  | lst xs => obtain ⟨_, _, _, _, e⟩ := x; exact Heap.lt_size e
  | tup xs => obtain ⟨_, _, _, p⟩ := x; exact p.lt
  | dK kvs => obtain ⟨_, _, _, _, o, _, _, e, _⟩ := x; exact Heap.lt_size e
  | dT kvs => obtain ⟨_, _, _, _, o, _, _, e, _⟩ := x; exact Heap.lt_size e
  | set S n => obtain ⟨o, _, _, _, e, _⟩ := x; exact Heap.lt_size e
  | ins C dx fs => obtain ⟨_, _, _, e, _⟩ := x; exact Heap.lt_size e
  | own y => obtain ⟨_, e⟩ := x; exact Heap.lt_size e
  | xd fs => obtain ⟨_, ⟨_, _, _, e, _⟩, _⟩ := x; exact Heap.lt_size e
  | rng lo hi => obtain ⟨_, _, _, e⟩ := x; exact Heap.lt_size e
  | frz ob u => obtain ⟨e, _⟩ := x; exact Heap.lt_size e
  | tbl ps => exact Heap.lt_size (show h.get? a = some _ from x)
  | met f y => exact Heap.lt_size (show h.get? a = some _ from x)
  | ext φ => obtain ⟨_, ⟨_, e⟩, _⟩ := x; exact Heap.lt_size e
theorem Paired.mapP {α β : Type} {F G : α → β → Prop} : ∀ {l₁ : List α} {l₂ : List β}, Paired F l₁ l₂ → (∀ a b, F a b → G a b) → Paired G l₁ l₂
  | _, _, .nil, _ => .nil
  | _, _, .cons r t, f => .cons (f _ _ r) (Paired.mapP t f)
theorem ObjOk.stay (x : ObjOk P w H h a o) (k : ∀ b u, (b = a ∨ H b = some (.own a)) → h.get? b = some u → h'.get? b = some u)
    (ho : ∀ b, H b = some (.own a) → H' b = some (.own a)) (ht : ∀ b xs, H b = some (.tup xs) → H' b = some (.tup xs)) : ObjOk P w H' h' a o := by
  induction o with
  | lst xs => obtain ⟨z, its, n, r, e⟩ := x; exact ⟨z, its, n, r, k _ _ (.inl rfl) e⟩
  | tup xs => obtain ⟨z, its, r, ob, e, c⟩ := x; exact ⟨z, its, r, ob, k _ _ (.inl rfl) e, c⟩
  | dK kvs => obtain ⟨z, y, vs, r, ob, es, ep, e, c⟩ := x; exact ⟨z, y, vs, r, ob, es, ep, k _ _ (.inl rfl) e, c⟩
  | dT kvs =>
    obtain ⟨z, y, xs, r, ob, es, ep, e, c⟩ := x
    exact ⟨z, y, xs, Paired.mapP r fun p q z => ⟨z.1, ht _ _ z.2.1, z.2.2⟩, ob, es, ep, k _ _ (.inl rfl) e, c⟩
  | set S n => obtain ⟨ob, es, ep, t, e, c⟩ := x; exact ⟨ob, es, ep, t, k _ _ (.inl rfl) e, c⟩
  | ins C dx fs =>
    obtain ⟨d, z, ne, e, mA, ⟨od, es, ep, e2, c⟩, r⟩ := x
    exact ⟨ho _ d, z, ne, k _ _ (.inl rfl) e, mA, ⟨od, es, ep, k _ _ (.inr d) e2, c⟩, r⟩
  | own y => obtain ⟨ob, e⟩ := x; exact ⟨ob, k _ _ (.inl rfl) e⟩
  | xd fs => obtain ⟨mA, ⟨od, es, ep, e, c⟩, r⟩ := x; exact ⟨mA, ⟨od, es, ep, k _ _ (.inl rfl) e, c⟩, r⟩
  | rng lo hi => obtain ⟨t, u, v, e⟩ := x; exact ⟨t, u, v, k _ _ (.inl rfl) e⟩
  | frz ob u ih => obtain ⟨e, q⟩ := x; exact ⟨k _ _ (.inl rfl) e, ih q⟩
  | tbl ps =>
    have e : h.get? a = some { cls := .none, data := .fields ps } := x
    show h'.get? a = some { cls := .none, data := .fields ps }
    exact k a _ (.inl rfl) e
  | met f y =>
    have e : h.get? a = some (PySem.W.methodObj (.ref f) (.ref y)) := x
    show h'.get? a = some (PySem.W.methodObj (.ref f) (.ref y))
    exact k a _ (.inl rfl) e
  | ext φ => obtain ⟨p, ⟨o, e⟩, st⟩ := x; exact ⟨st _ _ p fun o q => k _ _ (.inl rfl) q, ⟨o, k _ _ (.inl rfl) e⟩, st⟩
theorem HOk.lt (x : HOk P w H h) (e : H a = some o) : a < h.objs.size := (x a o e).lt
theorem HOk.fresh (x : HOk P w H h) (e : h.objs.size ≤ a) : H a = none := by
  cases q : H a with
  | none => rfl
  | some u => exact absurd (Nat.lt_of_lt_of_le (x.lt q) e) (Nat.lt_irrefl _)
theorem HOk.kept (x : HOk P w H h) (k : ∀ b u, h.get? b = some u → h'.get? b = some u) : HOk P w H h' := fun a o e =>
  (x a o e).stay (fun b u _ q => k b u q) (fun _ q => q) fun _ _ q => q
theorem HOk.laid (x : HOk P w H h) (k : ∀ b u, h.get? b = some u → h'.get? b = some u) (hp : h.objs.size ≤ a) (new : ObjOk P w (upd H a o) h' a o) : HOk P w (upd H a o) h' := fun b u e => by
  have hn := x.fresh hp
  by_cases hb : b = a
  · subst hb; rw [upd_same] at e; cases e; exact new
  · rw [upd_ne hb] at e
    exact (x b u e).stay (fun c v _ q => k c v q) (fun c q => by rw [upd_ne (ne_of_none q hn)]; exact q) fun c xs q => by rw [upd_ne (ne_of_none q hn)]; exact q
end
def Rd (H : Hp) (a : Addr) (u : HO) : Prop := H a = some u ∨ ∃ o, H a = some (.frz o u)
theorem Rd.ok {P : Program} {w : World} {H : Hp} {h : Heap} {a : Addr} {u : HO} (r : Rd H a u) (x : HOk P w H h) : ObjOk P w H h a u := by
  rcases r with r | ⟨o, r⟩
  · exact x a u r
  · obtain ⟨_, q⟩ := x a _ r
    exact q
def Mut : Option HO → Prop
  | some (.lst _) => True
  | some (.dK _) => True
  | some (.dT _) => True
  | some (.set _ _) => True
  | some (.ins _ _ _) => True
  | some (.ext _) => True
  | _ => False
section
variable {P : Program} {w : World} {H : Hp} {h h' : Heap} {x e : Addr} {o' : HO}
theorem HOk.write (ok : HOk P w H h) (mu : Mut (H x)) (he : e = x ∨ H e = some (.own x)) (k : ∀ b u, b ≠ e → h.get? b = some u → h'.get? b = some u) (heo : ∃ u, h'.get? e = some u)
    (new : ObjOk P w (upd H x o') h' x o') : HOk P w (upd H x o') h' := fun b u q => by
  have nown : ∀ c y, H c = some (.own y) → c ≠ x := fun c y r z => by subst z; rw [r] at mu; exact mu
  have ntup : ∀ c xs, H c = some (.tup xs) → c ≠ x := fun c xs r z => by subst z; rw [r] at mu; exact mu
  by_cases hb : b = x
  · subst hb; rw [upd_same] at q; cases q; exact new
  · rw [upd_ne hb] at q
    by_cases hbe : b = e
    · have q' : H b = some (.own x) := by
        rcases he with z | z
        · exact absurd (hbe.trans z) hb
        · rw [hbe]; exact z
      rw [q] at q'; cases q'
      obtain ⟨v, hv⟩ := heo
      exact ⟨v, by rw [hbe]; exact hv⟩
    · refine (ok b u q).stay (fun c v hc r => k c v ?_ r) (fun c r => by rw [upd_ne (nown c b r)]; exact r) fun c xs r => by rw [upd_ne (ntup c xs r)]; exact r
      rcases hc with rfl | hc
      · exact hbe
      · rintro rfl
        rcases he with z | z
        · exact nown c b hc z
        · rw [hc] at z; cases z; exact hb rfl
end
structure Un (fs ex : List Addr) (H H' : Hp) (h h' : Heap) : Prop where
  keep : ∀ b o, h.get? b = some o → H b = none → b ∉ fs → b ∉ ex → h'.get? b = some o
  slot : ∀ b o, h.get? b = some o → H b = none → b ∈ fs → b ∉ ex → ∃ sl, h'.get? b = some { o with slots := sl }
  free : ∀ b o, h.get? b = some o → H b = none → b ∉ ex → H' b = none
  there : ∀ b o, h.get? b = some o → b ∉ ex → ∃ o', h'.get? b = some o'
  tups : ∀ b xs, H b = some (.tup xs) → H' b = some (.tup xs)
  frzs : ∀ b o u, H b = some (.frz o u) → H' b = some (.frz o u)
  tbls : ∀ b ps, H b = some (.tbl ps) → ∃ more, H' b = some (.tbl (ps ++ more))
section
variable {fs fs' ex ex' : List Addr} {H H1 H2 : Hp} {h h1 h2 h' : Heap} {a x e : Addr} {o : HO}
theorem Un.any (u : Un fs ex H H1 h h1) {b : Addr} {ob : Obj} (q : h.get? b = some ob) (n : H b = none) (hx : b ∉ ex) : ∃ sl, h1.get? b = some { ob with slots := sl } := by
  by_cases hb : b ∈ fs
  · exact u.slot b ob q n hb hx
  · exact ⟨ob.slots, u.keep b ob q n hb hx⟩
theorem Un.trans (a : Un fs ex H H1 h h1) (b : Un fs ex H1 H2 h1 h2) : Un fs ex H H2 h h2 where
  keep := fun c ob q n hc hx => b.keep c ob (a.keep c ob q n hc hx) (a.free c ob q n hx) hc hx
  slot := fun c ob q n hc hx => by
    obtain ⟨sl, e1⟩ := a.slot c ob q n hc hx
    obtain ⟨sl', e2⟩ := b.slot c _ e1 (a.free c ob q n hx) hc hx
    exact ⟨sl', e2⟩
  free := fun c ob q n hx => by
    obtain ⟨o', e1⟩ := a.there c ob q hx
    exact b.free c o' e1 (a.free c ob q n hx) hx
  there := fun c ob q hx => by
    obtain ⟨o', e1⟩ := a.there c ob q hx
    exact b.there c o' e1 hx
  tups := fun c xs q => b.tups c xs (a.tups c xs q)
  frzs := fun c ob xs q => b.frzs c ob xs (a.frzs c ob xs q)
  tbls := fun c ps q => by
    obtain ⟨m1, e1⟩ := a.tbls c ps q
    obtain ⟨m2, e2⟩ := b.tbls c _ e1
    exact ⟨m1 ++ m2, by rw [e2, Array.append_assoc]⟩
theorem Un.kept (k : ∀ b u, h.get? b = some u → h'.get? b = some u) : Un fs ex H H h h' :=
  ⟨fun b ob q _ _ _ => k b ob q, fun b ob q _ _ _ => ⟨ob.slots, k b ob q⟩, fun _ _ _ n _ => n, fun b ob q _ => ⟨ob, k b ob q⟩, fun _ _ q => q, fun _ _ _ q => q, fun _ ps q => ⟨#[], by rw [q]; simp⟩⟩
theorem Un.refl : Un fs ex H H h h := Un.kept fun _ _ q => q
theorem Un.laid (k : ∀ b u, h.get? b = some u → h'.get? b = some u) (hp : h.objs.size ≤ a) (hn : H a = none) : Un fs ex H (upd H a o) h h' where
  keep := fun b u q _ _ _ => k b u q
  slot := fun b u q _ _ _ => ⟨u.slots, k b u q⟩
  free := fun b u q n _ => by rw [upd_ne (Nat.ne_of_lt (Nat.lt_of_lt_of_le (Heap.lt_size q) hp))]; exact n
  there := fun b u q _ => ⟨u, k b u q⟩
  tups := fun b xs q => by rw [upd_ne (ne_of_none q hn)]; exact q
  frzs := fun b u xs q => by rw [upd_ne (ne_of_none q hn)]; exact q
  tbls := fun b ps q => ⟨#[], by rw [upd_ne (ne_of_none q hn), q]; simp⟩
theorem Un.write (mu : Mut (H x)) (he : e = x ∨ H e = some (.own x)) (k : ∀ b u, b ≠ e → h.get? b = some u → h'.get? b = some u) (heo : ∃ u, h'.get? e = some u) : Un fs ex H (upd H x o) h h' := by
  have hx : ∀ b, H b = none → b ≠ x := fun b n z => by subst z; rw [n] at mu; exact mu
  have hb : ∀ b, H b = none → b ≠ e := fun b n z => by
    subst z
    rcases he with r | r
    · exact hx b n r
    · rw [n] at r; cases r
  have hm : ∀ b u, H b = some u → ¬ Mut (some u) → b ≠ x := fun b u q nm z => by subst z; rw [q] at mu; exact nm mu
  refine ⟨fun b u q n _ _ => k b u (hb b n) q, fun b u q n _ _ => ⟨u.slots, k b u (hb b n) q⟩, fun b u q n _ => by rw [upd_ne (hx b n)]; exact n, fun b u q _ => ?_,
    fun b xs q => by rw [upd_ne (hm b _ q fun z => z)]; exact q, fun b u xs q => by rw [upd_ne (hm b _ q fun z => z)]; exact q, fun b ps q => ⟨#[], by rw [upd_ne (hm b _ q fun z => z), q]; simp⟩⟩
  by_cases hbe : b = e
  · subst hbe; exact heo
  · exact ⟨u, k b u hbe q⟩
end
def trk (h : Heap) (H : Hp) : List Addr := (List.range h.objs.size).filter fun a => (H a).isSome
def hidT (h : Heap) (H : Hp) : Heap := PySem.W.hideAll h (trk h H)
theorem hidT_size (h : Heap) (H : Hp) : (hidT h H).objs.size = h.objs.size := PySem.W.hideAll_size _ _
theorem hidT_get {h : Heap} {H : Hp} {b : Addr} {o : Obj} (e : h.get? b = some o) (n : H b = none) : (hidT h H).get? b = some o :=
  PySem.W.hideAll_get _ e fun hm => by
    have q : (H b).isSome = true := (List.mem_filter.mp hm).2
    rw [n] at q; simp at q
theorem of_hidT {h : Heap} {H : Hp} {b : Addr} {o : Obj} (e : (hidT h H).get? b = some o) : h.get? b = some o ∧ H b = none := by
  have e' : h.get? b = some o := PySem.W.of_hideAll (trk h H) e
  refine ⟨e', ?_⟩
  cases q : H b with
  | none => rfl
  | some x =>
    have hm : b ∈ trk h H := List.mem_filter.mpr ⟨List.mem_range.mpr (Heap.lt_size e'), by simp [q]⟩
    have z : (hidT h H).get? b = none := PySem.W.hideAll_none (trk h H) hm
    rw [z] at e; cases e
def allNews (g h : Heap) (L : Addr) : List (Addr × Obj) := (List.range h.objs.size).filterMap fun a => if a = L ∨ (g.get? a).isSome = true then none else (h.get? a).map fun o => (a, o)
def rest (g h : Heap) (L d : Addr) : List (Addr × Obj) := (allNews g h L).filter fun p => decide (p.1 ≠ d)
end L2
namespace L2
open PySem PySem.Spec PyProof.Rows
structure Mod (K : PySem.W.Frag) (mg : Str → Option Value) (base : Heap) : Prop where
  kin : K.In base
  glob : base.Ns mainGlobals mg
  blt : ∃ mb, base.Ns builtinsNs mb ∧ ∀ x : Str, x ≠ "__name__" → mb x = bootBuiltins x
  nolimit : base.NoLimit
structure Cx where
  prog : Program
  w : World
  K : PySem.W.Frag
  mg : Str → Option Value
  base : Heap
  A : Around
  N : List Str
  s_0 : Shared
  H_0 : Hp
  env : Env
  outer : List Env
  stack : List Env
  ex : List Addr
  fn : Str → Bool
  calm : Bool
  pn : List (Addr × Obj)
  xe : Value → Shared → Prop
def frs (l : List Env) : List Addr := l.filterMap (·.frame)
abbrev Cx.fs (X : Cx) : List Addr := frs X.outer
def Vis (sc : Scope) (x : Str) : Prop := sc.names.lookup x = some .local ∨ sc.names.lookup x = some .cell ∨ sc.names.lookup x = some .free
def Loc (sc : Scope) (x : Str) : Prop := sc.names.lookup x = some .local ∨ sc.names.lookup x = some .cell
def Look (env : Env) (h : Heap) (m : Str → Option Value) (x : Str) (u : Value) : Prop :=
  (env.kindOf x = some .local ∧ m x = some u) ∨ ((env.kindOf x = some .cell ∨ env.kindOf x = some .free) ∧ ∃ c, env.cells.lookup x = some c ∧ h.IsCell c (some u))
structure Cx.Ok (X : Cx) : Prop where
  mod : Mod X.K X.mg X.base
  kind : X.env.scope.kind = .function
  glob : X.env.globals = mainGlobals
  blt : X.env.builtins = builtinsNs
  above : X.s_0.heap.objs.size ≤ X.env.locals
  inj : ∀ x y c, X.env.cells.lookup x = some c → X.env.cells.lookup y = some c → x = y
  has : ∀ x, (X.env.kindOf x = some .cell ∨ X.env.kindOf x = some .free) → ∃ c, X.env.cells.lookup x = some c
  cab : ∀ x c, X.fn x = true → X.env.cells.lookup x = some c → X.s_0.heap.objs.size ≤ c
  hd : X.calm = true → X.A.handled = none
  frames : X.A.frames = some X.stack
  stk : X.stack = X.outer ∨ (X.stack = X.env :: X.outer ∧ X.env.frame = some X.env.locals)
  exf : ∀ b ∈ X.ex, b ≠ X.env.locals ∧ ∀ x c, X.env.cells.lookup x = some c → c ≠ b
  bs : ∀ b o, X.base.get? b = some o → X.s_0.heap.get? b = some o ∧ X.H_0 b = none
  bsz : X.base.objs.size ≤ X.s_0.heap.objs.size
  noex : ∀ b o, X.base.get? b = some o → b ∉ X.ex
  exfs : ∀ b ∈ X.ex, b ∉ X.fs
  funs : X.s_0.heap.FunFrames X.base X.outer
  frf : ∀ b ∈ X.fs, X.H_0 b = none
structure Inv (X : Cx) (pins : List (Addr × Obj)) (σ : List (Option V)) (H : Hp) (s : Shared) : Prop where
  ok : X.Ok
  os : s.os = X.s_0.os
  bare : AllBare s.gens
  base : Un X.fs X.ex X.H_0 H X.s_0.heap s.heap
  loc : ∃ m, s.heap.Ns X.env.locals m ∧ ∀ (i : Nat) (x : Str) (v : V), X.N[i]? = some x → σ[i]? = some (some v) → Vis X.env.scope x → ∃ u, RelV v u ∧ Look X.env s.heap m x u
  cell : ∀ x c, X.env.cells.lookup x = some c → ∃ v, s.heap.IsCell c v
  free : H X.env.locals = none
  freeC : ∀ x c, X.env.cells.lookup x = some c → H c = none
  pin : ∀ p ∈ X.pn ++ pins, s.heap.get? p.1 = some p.2 ∧ H p.1 = none ∧ p.1 ≠ X.env.locals ∧ p.1 ∉ X.fs ∧ ∀ v, p.2.data ≠ .cell v
  hok : HOk X.prog X.w H s.heap
  len : σ.length = X.N.length
section
variable {X : Cx} {pins : List (Addr × Obj)} {σ : List (Option V)} {H H' : Hp} {s : Shared} {h' : Heap}
theorem Cx.Ok.nofr (ok : X.Ok) {b : Addr} {o : Obj} (e : X.base.get? b = some o) : b ∉ X.fs := fun hb => by
  have := (ok.funs.mem hb).1
  rw [e] at this; cases this
theorem Inv.bs (I : Inv X pins σ H s) : ∀ b o, X.base.get? b = some o → s.heap.get? b = some o ∧ H b = none := fun b o e =>
  ⟨I.base.keep b o (I.ok.bs b o e).1 (I.ok.bs b o e).2 (I.ok.nofr e) (I.ok.noex b o e), I.base.free b o (I.ok.bs b o e).1 (I.ok.bs b o e).2 (I.ok.noex b o e)⟩
theorem Inv.bk (I : Inv X pins σ H s) : ∀ b o, X.base.get? b = some o → s.heap.get? b = some o := fun b o e => (I.bs b o e).1
theorem Inv.mod (I : Inv X pins σ H s) : Mod X.K X.mg X.base := I.ok.mod
theorem Inv.kIn (I : Inv X pins σ H s) : X.K.In s.heap := I.ok.mod.kin.keeps I.bk
theorem Inv.lt (I : Inv X pins σ H s) : X.env.locals < s.heap.objs.size := let ⟨_, hn, _⟩ := I.loc; hn.lt
theorem Inv.sz (I : Inv X pins σ H s) : X.s_0.heap.objs.size ≤ s.heap.objs.size := Nat.le_trans I.ok.above (Nat.le_of_lt I.lt)
theorem Inv.nofs (I : Inv X pins σ H s) {a : Addr} (h : s.heap.objs.size ≤ a) : a ∉ X.fs := fun hb => by
  obtain ⟨_, o, ho, _⟩ := I.ok.funs.mem hb
  exact absurd (Nat.lt_of_lt_of_le (Heap.lt_size ho) (Nat.le_trans I.sz h)) (Nat.lt_irrefl _)
theorem Inv.cne (I : Inv X pins σ H s) : ∀ x c, X.env.cells.lookup x = some c → c ≠ X.env.locals := fun x c e z => by
  obtain ⟨v, o, ho, hd⟩ := I.cell x c e
  obtain ⟨m, ⟨o', es, ep, ho', hd', _⟩, _⟩ := I.loc
  rw [z, ho'] at ho; cases ho; rw [hd'] at hd; cases hd
theorem Inv.funs (I : Inv X pins σ H s) : s.heap.FunFrames X.base X.outer := by
  have all : ∀ (l : List Env), (∀ b ∈ frs l, b ∈ X.fs) → X.s_0.heap.FunFrames X.base l → s.heap.FunFrames X.base l := by
    intro l
    induction l with
    | nil => intro _ _; trivial
    | cons env r ih =>
      intro hs hl
      obtain ⟨hk, ⟨L, o, hf, hn, ho, hd⟩, hr⟩ := hl
      have hL : L ∈ X.fs := hs L (by unfold frs; rw [List.filterMap_cons, hf]; exact List.mem_cons_self)
      obtain ⟨sl, e⟩ := I.base.slot L o ho (I.ok.frf L hL) hL fun z => I.ok.exfs L z hL
      exact ⟨hk, ⟨L, _, hf, hn, e, hd⟩, ih (fun b hb => hs b (by unfold frs; rw [List.filterMap_cons, hf]; exact List.mem_cons_of_mem _ hb)) hr⟩
  exact all X.outer (fun _ hb => hb) I.ok.funs
theorem Inv.stack (I : Inv X pins σ H s) : s.heap.FunFrames X.base X.stack := by
  rcases I.ok.stk with e | ⟨e, hf⟩
  · rw [e]; exact I.funs
  · rw [e]
    obtain ⟨m, hn, _⟩ := I.loc
    refine .cons (by rw [I.ok.kind]; decide) hf hn ?_ I.funs
    exact Heap.get?_none_of_le (Nat.le_trans I.ok.bsz I.ok.above)
theorem Inv.stkSub (I : Inv X pins σ H s) : ∀ b ∈ frs X.stack, b ∈ X.env.locals :: X.fs := fun b hb => by
  rcases I.ok.stk with e | ⟨e, hf⟩
  · rw [e] at hb; exact List.mem_cons_of_mem _ hb
  · rw [e] at hb
    unfold frs at hb
    rw [List.filterMap_cons, hf] at hb
    exact hb
theorem Inv.stkFree (I : Inv X pins σ H s) : ∀ b ∈ frs X.stack, H b = none := fun b hb => by
  rcases List.mem_cons.mp (I.stkSub b hb) with e | hb
  · rw [e]; exact I.free
  · obtain ⟨_, o, ho, _⟩ := I.ok.funs.mem hb
    exact I.base.free b o ho (I.ok.frf b hb) fun z => I.ok.exfs b z hb
theorem Inv.step {g' : Array GenState} {t' : Nat} {d' : Drawn} {ch : List Addr} (I : Inv X pins σ H s)
    (hch : ∀ b ∈ ch, (b ∈ X.ex ∨ X.s_0.heap.objs.size ≤ b) ∧ b ≠ X.env.locals ∧ (∀ x c, X.env.cells.lookup x = some c → c ≠ b) ∧ ∀ p ∈ X.pn ++ pins, p.1 ≠ b)
    (keep : ∀ b o, b ≠ X.env.locals → b ∉ X.fs → b ∉ ch → s.heap.get? b = some o → H b = none → h'.get? b = some o)
    (slot : ∀ b o, b ≠ X.env.locals → b ∈ X.fs → b ∉ ch → s.heap.get? b = some o → H b = none → ∃ sl, h'.get? b = some { o with slots := sl }) (free : ∀ b o, b ∉ ch → s.heap.get? b = some o → H b = none → H' b = none)
    (there : ∀ b o, b ∉ ch → s.heap.get? b = some o → ∃ o', h'.get? b = some o')
    (tups : ∀ b xs, H b = some (.tup xs) → H' b = some (.tup xs)) (frzs : ∀ b o u, H b = some (.frz o u) → H' b = some (.frz o u)) (tbls : ∀ b ps, H b = some (.tbl ps) → ∃ more, H' b = some (.tbl (ps ++ more)))
    (ns : ∀ m, s.heap.Ns X.env.locals m → h'.Ns X.env.locals m) (hok : HOk X.prog X.w H' h') (hg : AllBare g') :
    Inv X pins σ H' { s with heap := h', gens := g', drawn := d', toks := t' } := by
  have neL : ∀ b o, X.s_0.heap.get? b = some o → b ≠ X.env.locals := fun b o e => Nat.ne_of_lt (Nat.lt_of_lt_of_le (Heap.lt_size e) I.ok.above)
  have neC : ∀ b o, X.s_0.heap.get? b = some o → b ∉ X.ex → b ∉ ch := fun b o e hx hb => by
    rcases (hch b hb).1 with z | z
    · exact hx z
    · exact absurd (Nat.lt_of_lt_of_le (Heap.lt_size e) z) (Nat.lt_irrefl _)
  have cellK : ∀ x c, X.env.cells.lookup x = some c → ∀ v, s.heap.IsCell c v → h'.IsCell c v := fun x c e v ⟨o, ho, hd⟩ => by
    have nch : c ∉ ch := fun z => (hch c z).2.2.1 x c e rfl
    by_cases hc : c ∈ X.fs
    · obtain ⟨sl, q⟩ := slot c o (I.cne x c e) hc nch ho (I.freeC x c e)
      exact ⟨_, q, hd⟩
    · exact ⟨o, keep c o (I.cne x c e) hc nch ho (I.freeC x c e), hd⟩
  refine ⟨I.ok, I.os, hg, ⟨fun b o e n hb hx => ?_, fun b o e n hb hx => ?_, fun b o e n hx => ?_, fun b o e hx => ?_, fun b xs e => tups b xs (I.base.tups b xs e), fun b o xs e => frzs b o xs (I.base.frzs b o xs e), fun b ps e => ?_⟩, ?_, fun x c e => ?_, ?_, fun x c e => ?_, fun p hp => ?_, hok, I.len⟩
  · exact keep b o (neL b o e) hb (neC b o e hx) (I.base.keep b o e n hb hx) (I.base.free b o e n hx)
  · obtain ⟨sl, e1⟩ := I.base.slot b o e n hb hx
    obtain ⟨sl', e2⟩ := slot b _ (neL b o e) hb (neC b o e hx) e1 (I.base.free b o e n hx)
    exact ⟨sl', e2⟩
  · obtain ⟨o', e1⟩ := I.base.there b o e hx
    exact free b o' (neC b o e hx) e1 (I.base.free b o e n hx)
  · obtain ⟨o', e1⟩ := I.base.there b o e hx
    exact there b o' (neC b o e hx) e1
  · obtain ⟨m1, e1⟩ := I.base.tbls b ps e
    obtain ⟨m2, e2⟩ := tbls b _ e1
    exact ⟨m1 ++ m2, by rw [e2, Array.append_assoc]⟩
  · obtain ⟨m, hn, hl⟩ := I.loc
    refine ⟨m, ns m hn, fun i x v e1 e2 e3 => ?_⟩
    obtain ⟨u, r, l⟩ := hl i x v e1 e2 e3
    refine ⟨u, r, ?_⟩
    rcases l with l | ⟨k, c, e, z⟩
    · exact .inl l
    · exact .inr ⟨k, c, e, cellK x c e _ z⟩
  · obtain ⟨v, z⟩ := I.cell x c e
    exact ⟨v, cellK x c e v z⟩
  · obtain ⟨m, ⟨o, _, _, ho, _⟩, _⟩ := I.loc
    exact free _ o (fun z => (hch _ z).2.1 rfl) ho I.free
  · obtain ⟨v, o, ho, hd⟩ := I.cell x c e
    exact free c o (fun z => (hch c z).2.2.1 x c e rfl) ho (I.freeC x c e)
  · obtain ⟨e, n, ne, nf, d⟩ := I.pin p hp
    have nch : p.1 ∉ ch := fun z => (hch p.1 z).2.2.2 p hp rfl
    exact ⟨keep p.1 p.2 ne nf nch e n, free p.1 p.2 nch e n, ne, nf, d⟩
theorem Inv.un {t' : Nat} (I : Inv X pins σ H s) (u : Un X.fs [] H H' s.heap h') (hok : HOk X.prog X.w H' h') : Inv X pins σ H' { s with heap := h', toks := t' } := by
  obtain ⟨m, ⟨o, es, ep, ho, r⟩, _⟩ := id I.loc
  obtain ⟨sl, hL⟩ := u.any ho I.free (by simp)
  exact I.step (g' := s.gens) (d' := s.drawn) (ch := []) (fun _ z => nomatch z) (fun b o _ hb _ e n => u.keep b o e n hb (by simp)) (fun b o _ hb _ e n => u.slot b o e n hb (by simp)) (fun b o _ e n => u.free b o e n (by simp)) (fun b o _ e => u.there b o e (by simp)) u.tups u.frzs u.tbls (fun m' hm => by
    obtain ⟨o', es', ep', ho', r'⟩ := hm
    rw [ho] at ho'; cases ho'
    exact ⟨_, es', ep', hL, r'⟩) hok I.bare
theorem Inv.call {g' : Array GenState} {t' : Nat} {d' : Drawn} {ch : List Addr} (I : Inv X pins σ H s) (u : Un (frs X.stack) ch H H' s.heap h') (hok : HOk X.prog X.w H' h') (hg : AllBare g')
    (hch : ∀ b ∈ ch, (b ∈ X.ex ∨ X.s_0.heap.objs.size ≤ b) ∧ b ≠ X.env.locals ∧ (∀ x c, X.env.cells.lookup x = some c → c ≠ b) ∧ ∀ p ∈ X.pn ++ pins, p.1 ≠ b) :
    Inv X pins σ H' { s with heap := h', gens := g', drawn := d', toks := t' } := by
  obtain ⟨m, ⟨o, es, ep, ho, r⟩, _⟩ := id I.loc
  obtain ⟨sl, hL⟩ := u.any ho I.free fun z => (hch _ z).2.1 rfl
  exact I.step (ch := ch) hch (fun b o hL hb hc e n => u.keep b o e n (fun z => (List.mem_cons.mp (I.stkSub b z)).elim hL hb) hc) (fun b o _ _ hc e n => u.any e n hc) (fun b o hc e n => u.free b o e n hc) (fun b o hc e => u.there b o e hc) u.tups u.frzs u.tbls (fun m' hm => by
    obtain ⟨o', es', ep', ho', r'⟩ := hm
    rw [ho] at ho'; cases ho'
    exact ⟨_, es', ep', hL, r'⟩) hok hg
theorem Inv.turned {t' : Nat} {it : Addr} (I : Inv X pins σ H s) (k : ∀ b o, b ≠ it → s.heap.get? b = some o → h'.get? b = some o) (hn : H it = none) (hL : it ≠ X.env.locals)
    (h1 : it ∈ X.ex ∨ X.s_0.heap.objs.size ≤ it) (h2 : ∀ x c, X.env.cells.lookup x = some c → c ≠ it) (h3 : ∀ p ∈ X.pn ++ pins, p.1 ≠ it) : Inv X pins σ H { s with heap := h', toks := t' } := by
  have nit : ∀ b u, H b = some u → b ≠ it := fun b u e z => by rw [z, hn] at e; cases e
  refine I.step (g' := s.gens) (d' := s.drawn) (ch := [it]) (fun b hb => ?_) (fun b o _ _ hc e _ => k b o (fun z => hc (by simp [z])) e) (fun b o _ _ hc e _ => ⟨o.slots, k b o (fun z => hc (by simp [z])) e⟩) (fun _ _ _ _ n => n)
    (fun b o hc e => ⟨o, k b o (fun z => hc (by simp [z])) e⟩) (fun _ _ e => e) (fun _ _ _ e => e) (fun b ps e => ⟨#[], by rw [e]; simp⟩) (fun m hm => ?_) (fun b u e => ?_) I.bare
  · have e : b = it := by simpa using hb
    subst e
    exact ⟨h1, hL, h2, h3⟩
  · obtain ⟨o, es, ep, ho, r⟩ := hm
    exact ⟨o, es, ep, k _ o (Ne.symm hL) ho, r⟩
  · refine (I.hok b u e).stay (fun c v hc q => k c v ?_ q) (fun _ q => q) fun _ _ q => q
    rcases hc with z | z
    · rw [z]; exact nit b u e
    · exact nit c _ z
theorem Inv.tok (I : Inv X pins σ H s) (t : Nat) : Inv X pins σ H { s with toks := t } := I.un (h' := s.heap) (t' := t) Un.refl I.hok
theorem Inv.kept {t' : Nat} (I : Inv X pins σ H s) (k : ∀ b u, s.heap.get? b = some u → h'.get? b = some u) : Inv X pins σ H { s with heap := h', toks := t' } := I.un (Un.kept k) (I.hok.kept k)
theorem Inv.laid {a : Addr} {o : HO} {t' : Nat} (I : Inv X pins σ H s) (k : ∀ b u, s.heap.get? b = some u → h'.get? b = some u) (hp : s.heap.objs.size ≤ a) (new : ObjOk X.prog X.w (upd H a o) h' a o) :
    Inv X pins σ (upd H a o) { s with heap := h', toks := t' } := I.un (Un.laid k hp (I.hok.fresh hp)) (I.hok.laid k hp new)
theorem Inv.write {x e : Addr} {o : HO} {t' : Nat} (I : Inv X pins σ H s) (mu : Mut (H x)) (he : e = x ∨ H e = some (.own x)) (k : ∀ b u, b ≠ e → s.heap.get? b = some u → h'.get? b = some u) (heo : ∃ u, h'.get? e = some u)
    (new : ObjOk X.prog X.w (upd H x o) h' x o) : Inv X pins σ (upd H x o) { s with heap := h', toks := t' } := I.un (Un.write mu he k heo) (I.hok.write mu he k heo new)
theorem Inv.weak {σ' : List (Option V)} (I : Inv X pins σ H s) (hl : σ'.length = σ.length) (w : ∀ (i : Nat) v, σ'[i]? = some (some v) → σ[i]? = some (some v)) : Inv X pins σ' H s :=
  ⟨I.ok, I.os, I.bare, I.base, let ⟨m, hn, hl'⟩ := I.loc; ⟨m, hn, fun i x v e1 e2 e3 => hl' i x v e1 (w i v e2) e3⟩, I.cell, I.free, I.freeC, I.pin, I.hok, hl.trans I.len⟩
theorem Inv.pins_of {pins' : List (Addr × Obj)} (I : Inv X pins σ H s) (h : ∀ p ∈ pins', s.heap.get? p.1 = some p.2 ∧ H p.1 = none ∧ p.1 ≠ X.env.locals ∧ p.1 ∉ X.fs ∧ ∀ v, p.2.data ≠ .cell v) : Inv X pins' σ H s :=
  ⟨I.ok, I.os, I.bare, I.base, I.loc, I.cell, I.free, I.freeC, fun p hp => (List.mem_append.mp hp).elim (fun z => I.pin p (List.mem_append_left _ z)) (h p), I.hok, I.len⟩
theorem nodup_ix {N : List Str} (hN : N.Nodup) {i j : Nat} {x : Str} (a : N[i]? = some x) (b : N[j]? = some x) : i = j := by
  obtain ⟨h1, e1⟩ := List.getElem?_eq_some_iff.mp a
  obtain ⟨h2, e2⟩ := List.getElem?_eq_some_iff.mp b
  exact (List.getElem_inj hN).mp (e1.trans e2.symm)
theorem store_ok2 {M : Model} {A : Around} {E : Value → Shared → Prop} {i : Nat} {x : Str} {v : V} {u : Value} {Q : Unit → Shared → Prop} (I : Inv X pins σ H s) (hN : X.N.Nodup) (hi : X.N[i]? = some x) (hx : Loc X.env.scope x) (r : RelV v u)
    (h : ∀ s', Inv X pins (σ.set i (some v)) H s' → (∃ a, Heap.SameBut a s.heap s'.heap ∧ (a = X.env.locals ∨ X.env.cells.lookup x = some a)) → Q () s') (hf : X.fn x = true ∨ X.env.scope.names.lookup x = some .local := by first | exact .inl rfl | exact .inr rfl | assumption) : wpAny M A (storeName X.env x u) Q E s := by
  obtain ⟨m, hn, hl⟩ := id I.loc
  have hcls : (X.env.scope.kind == .class || (X.env.scope.kind == .module && X.env.locals != X.env.globals)) = false := by rw [I.ok.kind]; rfl
  have hiσ : i < σ.length := by rw [I.len]; exact (List.getElem?_eq_some_iff.mp hi).1
  have cne := I.cne
  have tracked : ∀ {a : Addr} {h' : Heap}, (∃ o, s.heap.get? a = some o ∧ H a = none) → Heap.SameBut a s.heap h' → HOk X.prog X.w H h' := fun {a h'} ha hs b ob e => by
    obtain ⟨_, _, hfree⟩ := ha
    refine (I.hok b ob e).stay (fun c w' hc q => (hs.2 c ?_).trans q) (fun _ q => q) fun _ _ q => q
    rintro rfl
    rcases hc with rfl | hc
    · rw [hfree] at e; cases e
    · rw [hfree] at hc; cases hc
  rcases hx with hk | hk
  · refine wpAny_storeName_local hk hn (fun h' hn' hs => ?_) hcls
    obtain ⟨oL, _, _, hoL, _⟩ := id hn
    refine h _ ⟨I.ok, I.os, I.bare, ⟨fun b o e n hb hx => ?_, fun b o e n hb hx => ?_, I.base.free, fun b o e hx => ?_, I.base.tups, I.base.frzs, I.base.tbls⟩, ⟨_, hn', fun j y v' e1 e2 e3 => ?_⟩, fun y c e => ?_, I.free, I.freeC, fun p hp => ?_, tracked ⟨oL, hoL, I.free⟩ hs, by simpa using I.len⟩ ⟨_, hs, .inl rfl⟩
    · exact (hs.2 b (Nat.ne_of_lt (Nat.lt_of_lt_of_le (Heap.lt_size e) I.ok.above))).trans (I.base.keep b o e n hb hx)
    · obtain ⟨sl, e1⟩ := I.base.slot b o e n hb hx
      exact ⟨sl, (hs.2 b (Nat.ne_of_lt (Nat.lt_of_lt_of_le (Heap.lt_size e) I.ok.above))).trans e1⟩
    · obtain ⟨o', e1⟩ := I.base.there b o e hx
      exact ⟨o', (hs.2 b (Nat.ne_of_lt (Nat.lt_of_lt_of_le (Heap.lt_size e) I.ok.above))).trans e1⟩
    · by_cases hj : j = i
      · subst hj
        rw [hi] at e1; cases e1
        rw [List.getElem?_set_self hiσ] at e2
        cases e2
        exact ⟨u, r, .inl ⟨hk, by simp⟩⟩
      · rw [List.getElem?_set_ne (Ne.symm hj)] at e2
        obtain ⟨u', r', q⟩ := hl j y v' e1 e2 e3
        refine ⟨u', r', ?_⟩
        rcases q with ⟨k, e⟩ | ⟨k, c, e, z⟩
        · refine .inl ⟨k, ?_⟩
          have : y ≠ x := fun e => hj (nodup_ix hN e1 (e ▸ hi))
          simp [this, e]
        · exact .inr ⟨k, c, e, z.sameBut hs (cne y c e)⟩
    · obtain ⟨w', z⟩ := I.cell y c e
      exact ⟨w', z.sameBut hs (cne y c e)⟩
    · obtain ⟨e, n, ne, nf, d⟩ := I.pin p hp
      exact ⟨(hs.2 p.1 ne).trans e, n, ne, nf, d⟩
  · have hfn : X.fn x = true := by
      rcases hf with z | z
      · exact z
      · rw [z] at hk; cases hk
    obtain ⟨c, hc⟩ := I.ok.has x (.inl hk)
    obtain ⟨w', z⟩ := I.cell x c hc
    refine wpAny_storeName_cell I.ok.kind hk hc z (fun h' hc' hs => ?_)
    obtain ⟨oc, hoc, hocd⟩ := id z
    refine h { s with heap := h' } ⟨I.ok, I.os, I.bare, ⟨fun b o e n hb hx => ?_, fun b o e n hb hx => ?_, I.base.free, fun b o e hx => ?_, I.base.tups, I.base.frzs, I.base.tbls⟩, ⟨m, hn.sameBut hs (Ne.symm (cne x c hc)), fun j y v' e1 e2 e3 => ?_⟩, fun y c' e => ?_, I.free, I.freeC, fun p hp => ?_, tracked ⟨oc, hoc, I.freeC x c hc⟩ hs, by simpa using I.len⟩ ⟨c, hs, .inr hc⟩
    · exact (hs.2 b (Nat.ne_of_lt (Nat.lt_of_lt_of_le (Heap.lt_size e) (I.ok.cab x c hfn hc)))).trans (I.base.keep b o e n hb hx)
    · obtain ⟨sl, e1⟩ := I.base.slot b o e n hb hx
      exact ⟨sl, (hs.2 b (Nat.ne_of_lt (Nat.lt_of_lt_of_le (Heap.lt_size e) (I.ok.cab x c hfn hc)))).trans e1⟩
    · obtain ⟨o', e1⟩ := I.base.there b o e hx
      exact ⟨o', (hs.2 b (Nat.ne_of_lt (Nat.lt_of_lt_of_le (Heap.lt_size e) (I.ok.cab x c hfn hc)))).trans e1⟩
    · by_cases hj : j = i
      · subst hj
        rw [hi] at e1; cases e1
        rw [List.getElem?_set_self hiσ] at e2
        cases e2
        exact ⟨u, r, .inr ⟨.inl hk, c, hc, hc'⟩⟩
      · rw [List.getElem?_set_ne (Ne.symm hj)] at e2
        obtain ⟨u', r', q⟩ := hl j y v' e1 e2 e3
        refine ⟨u', r', ?_⟩
        rcases q with q | ⟨k, c', e, z'⟩
        · exact .inl q
        · refine .inr ⟨k, c', e, z'.sameBut hs ?_⟩
          rintro rfl
          exact hj (nodup_ix hN e1 (I.ok.inj _ _ _ e hc ▸ hi))
    · by_cases hcc : c' = c
      · subst hcc; exact ⟨_, hc'⟩
      · obtain ⟨w2, z2⟩ := I.cell y c' e
        exact ⟨w2, z2.sameBut hs hcc⟩
    · obtain ⟨e, n, ne, nf, d⟩ := I.pin p hp
      refine ⟨(hs.2 p.1 ?_).trans e, n, ne, nf, d⟩
      intro q
      rw [q, hoc] at e
      have q' : oc = p.2 := Option.some.inj e
      exact d w' (by rw [← q']; exact hocd)
theorem store_ok {M : Model} {A : Around} {E : Value → Shared → Prop} {i : Nat} {x : Str} {v : V} {u : Value} {Q : Unit → Shared → Prop} (I : Inv X pins σ H s) (hN : X.N.Nodup) (hi : X.N[i]? = some x) (hx : Loc X.env.scope x) (r : RelV v u)
    (h : ∀ s', Inv X pins (σ.set i (some v)) H s' → Q () s') (hf : X.fn x = true ∨ X.env.scope.names.lookup x = some .local := by first | exact .inl rfl | exact .inr rfl | assumption) : wpAny M A (storeName X.env x u) Q E s :=
  store_ok2 I hN hi hx r (fun s' I' _ => h s' I') hf
theorem Inv.call' {s' : Shared} {ch : List Addr} (I : Inv X pins σ H s) (ho : s'.os = s.os) (u : Un (frs X.stack) ch H H' s.heap s'.heap) (hok : HOk X.prog X.w H' s'.heap) (hg : AllBare s'.gens)
    (hch : ∀ b ∈ ch, (b ∈ X.ex ∨ X.s_0.heap.objs.size ≤ b) ∧ b ≠ X.env.locals ∧ (∀ x c, X.env.cells.lookup x = some c → c ≠ b) ∧ ∀ p ∈ X.pn ++ pins, p.1 ≠ b) : Inv X pins σ H' s' := by
  obtain ⟨h', g', d', t', o'⟩ := s'
  have e : o' = s.os := ho
  subst e
  exact I.call (g' := g') (t' := t') (d' := d') u hok hg hch
end
abbrev XK := Value → Option Addr → Hp → Prop
abbrev St := List (Option V)
abbrev VK := V → Hp → Prop
abbrev TE := St → Hp → VK → Prop
abbrev TT := St → Hp → (Bool → Hp → Prop) → Prop
abbrev TA := St → Hp → (List V → Hp → Prop) → Prop
structure Ends where
  nx : St → Hp → Prop
  rt : VK
  bk : St → Hp → Prop := fun _ _ => False
  ct : St → Hp → Prop := fun _ _ => False
abbrev TS := Ends → St → Hp → Prop
def EP (X : Cx) (pins : List (Addr × Obj)) (σ : St) (Q : VK) (u : Value) (s' : Shared) : Prop := ∃ v H', Inv X pins σ H' s' ∧ RelV v u ∧ Q v H'
def TP (X : Cx) (pins : List (Addr × Obj)) (σ : St) (Q : Bool → Hp → Prop) (b : Bool) (s' : Shared) : Prop := ∃ H', Inv X pins σ H' s' ∧ Q b H'
def AP (X : Cx) (pins : List (Addr × Obj)) (σ : St) (Q : List V → Hp → Prop) (us : List Value) (s' : Shared) : Prop := ∃ vs H', Inv X pins σ H' s' ∧ Vals vs us ∧ Q vs H'
def SP (X : Cx) (pins : List (Addr × Obj)) (D : Ends) (f : Flow) (s' : Shared) : Prop :=
  match f with
  | .next => ∃ σ' H', Inv X pins σ' H' s' ∧ D.nx σ' H'
  | .brk => ∃ σ' H', Inv X pins σ' H' s' ∧ D.bk σ' H'
  | .cont => ∃ σ' H', Inv X pins σ' H' s' ∧ D.ct σ' H'
  | .ret u => ∃ v σ' H', Inv X pins σ' H' s' ∧ RelV v u ∧ D.rt v H'
def PE (X : Cx) (e : Expr) (t : TE) : Prop :=
  ∀ (pins : List (Addr × Obj)) (s : Shared) (σ : St) (H : Hp) (Q : VK), Inv X pins σ H s → t σ H Q → wpAny (model X.prog X.w) X.A (eval e X.env) (EP X pins σ Q) X.xe s
def PT (X : Cx) (e : Expr) (t : TT) : Prop :=
  ∀ (pins : List (Addr × Obj)) (s : Shared) (σ : St) (H : Hp) (Q : Bool → Hp → Prop), Inv X pins σ H s → t σ H Q → wpAny (model X.prog X.w) X.A (isTrue e X.env (eval e X.env)) (TP X pins σ Q) X.xe s
def PW (X : Cx) (e : Expr) (t : TT) : Prop :=
  ∀ (whole : Sem Value) (pins : List (Addr × Obj)) (s : Shared) (σ : St) (H : Hp) (Q : Bool → Hp → Prop), Inv X pins σ H s → t σ H Q → wpAny (model X.prog X.w) X.A (isTrue e X.env whole) (TP X pins σ Q) X.xe s
theorem PW.pt {X : Cx} {e : Expr} {t : TT} (h : PW X e t) : PT X e t := h _
def PA (X : Cx) (es : List Expr) (t : TA) : Prop :=
  ∀ (pos : Pos) (pins : List (Addr × Obj)) (s : Shared) (σ : St) (H : Hp) (Q : List V → Hp → Prop), Inv X pins σ H s → t σ H Q → wpAny (model X.prog X.w) X.A (spliced (backTo pos (starEach es X.env))) (AP X pins σ Q) X.xe s
def PS (X : Cx) (st : Stmt) (t : TS) : Prop :=
  ∀ (pins : List (Addr × Obj)) (s : Shared) (σ : St) (H : Hp) (D : Ends), Inv X pins σ H s → t D σ H → wpAny (model X.prog X.w) X.A (exec st X.env) (SP X pins D) X.xe s
def PSs (X : Cx) (st : List Stmt) (t : TS) : Prop :=
  ∀ (pins : List (Addr × Obj)) (s : Shared) (σ : St) (H : Hp) (D : Ends), Inv X pins σ H s → t D σ H → wpAny (model X.prog X.w) X.A (execs st X.env) (SP X pins D) X.xe s
theorem thn {α : Type} {t : Sem α} {Q Q' : α → Shared → Prop} {M : Model} {A : Around} {E : Value → Shared → Prop} {s : Shared} (h : wpAny M A t Q E s) (hQ : ∀ a s, Q a s → Q' a s) : wpAny M A t Q' E s := wpAny_mono h hQ fun _ _ x => x
end L2
namespace L2
open PySem PySem.Spec PyProof.Rows
section
variable {X : Cx}
def tVar (i : Nat) : TE := fun σ H Q => ∃ v, σ[i]? = some (some v) ∧ Q v H
def tC (v : V) : TE := fun _ H Q => Q v H
theorem pe_var {i : Nat} {x : Str} {pos : Pos} (hN : X.N[i]? = some x) (hv : Vis X.env.scope x) (hd : (x == ("__debug__" : Str)) = false := by decide) (hcd : (x == ("__classdict__" : Str)) = false := by decide) : PE X (.Name x pos) (tVar i) := by
  intro pins s σ H Q I h
  obtain ⟨v, e, h⟩ := h
  obtain ⟨m, hn, hl⟩ := I.loc
  obtain ⟨u, r, l⟩ := hl i x v hN e hv
  have fin : EP X pins σ Q u s := ⟨v, H, I, r, h⟩
  rcases l with ⟨hk, hm⟩ | ⟨hk, c, hc, hcell⟩
  · exact wpAny_Name (wpAny_loadName_local I.ok.kind hk hn hm fin) hd
  · rcases hk with hk | hk
    · exact wpAny_Name (wpAny_loadName_cell I.ok.kind hk hc hcell fin) hd
    · exact wpAny_Name (wpAny_loadName_free I.ok.kind hk hc hcell fin hcd) hd
theorem pe_int {i j pos} : PE X (.Constant (.int i) j pos) (tC (.int i)) := fun _ _ _ H _ I h => wpAny_Constant_int ⟨.int i, H, I.tok _, ⟨_, rfl⟩, h⟩
theorem pe_bl {b j pos} : PE X (.Constant (.bool b) j pos) (tC (.bl b)) := fun _ _ _ H _ I h => Constant_bool ⟨.bl b, H, I, rfl, h⟩
theorem pe_non {j pos} : PE X (.Constant .none j pos) (tC .non) := fun _ _ _ H _ I h => Constant_none ⟨.non, H, I, rfl, h⟩
theorem pe_str {x j pos} : PE X (.Constant (.str x) j pos) (tC (.str x)) := fun _ _ _ H _ I h => Calls.Constant_str ⟨.str x, H, I.tok _, ⟨_, rfl⟩, h⟩
def Gl (X : Cx) (x : Str) : Prop := X.env.kindOf x = some .globalImplicit
theorem ld_glob {E : Value → Shared → Prop} {pins : List (Addr × Obj)} {s : Shared} {σ : St} {H : Hp} {x : Str} {u : Value} {pos : Pos} {Q : Value → Shared → Prop} (I : Inv X pins σ H s) (hg : Gl X x) (hm : X.mg x = some u) (h : Q u s)
    (hd : (x == ("__debug__" : Str)) = false := by decide) : wpAny (model X.prog X.w) X.A (eval (.Name x pos) X.env) Q E s :=
  Calls.Name_function_global I.ok.kind hg (Calls.loadGlobal_global (by rw [I.ok.glob]; exact I.mod.glob.keeps I.bk) hm h) hd
theorem ld_blt {E : Value → Shared → Prop} {pins : List (Addr × Obj)} {s : Shared} {σ : St} {H : Hp} {x : Str} {u : Value} {pos : Pos} {Q : Value → Shared → Prop} (I : Inv X pins σ H s) (hg : Gl X x) (hm : X.mg x = none) (hv : bootBuiltins x = some u) (h : Q u s)
    (hn : x ≠ "__name__" := by decide) (hd : (x == ("__debug__" : Str)) = false := by decide) : wpAny (model X.prog X.w) X.A (eval (.Name x pos) X.env) Q E s := by
  obtain ⟨mb, h1, h2⟩ := I.mod.blt
  exact Calls.Name_function_global I.ok.kind hg (Calls.loadGlobal_builtin (by rw [I.ok.glob]; exact I.mod.glob.keeps I.bk) hm (by rw [I.ok.blt]; exact h1.keeps I.bk) ((h2 x hn).trans hv) h) hd
theorem pe_bltn {x : Str} {v : V} {u : Value} {pos : Pos} (hg : Gl X x) (hm : X.mg x = none) (hv : bootBuiltins x = some u) (r : RelV v u) (hn : x ≠ "__name__" := by decide) (hd : (x == ("__debug__" : Str)) = false := by decide) : PE X (.Name x pos) (tC v) :=
  fun _ _ _ H _ I h => ld_blt I hg hm hv ⟨v, H, I, r, h⟩ hn hd
variable {a b : Expr} {ta tb : TE} {pos : Pos}
def tB (t : TE) : TT := fun σ H Q => t σ H fun x H1 => ∃ c, x = .bl c ∧ Q c H1
theorem pt_val {e : Expr} {t : TE} (h : PE X e t) (he : ∀ whole, isTrue e X.env whole = (do let v ← whole; standAt e.pos; holding [v] (truthy v)) := by intro _; rfl) : PT X e (tB t) := by
  intro pins s σ H Q I hw
  refine isTrue_plain (thn (h pins s σ H _ I hw) fun v s1 ⟨x, H1, I1, r1, q1⟩ => ?_) (he _)
  obtain ⟨d, rfl, q⟩ := q1
  cases r1
  exact wpAny_truthy_bool ⟨H1, I1, q⟩
variable {tA tB' : TT} {rest : List Expr}
def tOr (t u : TT) : TT := fun σ H Q => t σ H fun c H1 => if c = true then Q true H1 else u σ H1 Q
def tNot (t : TT) : TT := fun σ H Q => t σ H fun c H1 => Q (!c) H1
theorem pw_or1 (ha : PT X a tA) : PW X (.BoolOp .Or [a] pos) tA := by
  intro wh pins s σ H Q I h
  refine isTrue_or (thn (ha pins s σ H Q I h) fun c s1 e => ?_)
  cases c with
  | false => exact isTrue_or_nil e
  | true => exact e
theorem pw_or (ha : PT X a tA) (hb : PW X (.BoolOp .Or (b :: rest) pos) tB') : PW X (.BoolOp .Or (a :: b :: rest) pos) (tOr tA tB') := by
  intro wh pins s σ H Q I h
  refine isTrue_or (thn (ha pins s σ H _ I h) fun c s1 ⟨H1, I1, q1⟩ => ?_)
  cases c with
  | true => exact ⟨H1, I1, q1⟩
  | false => exact hb wh pins s1 σ H1 Q I1 q1
theorem pt_not (ha : PT X a tA) : PT X (.UnaryOp .Not a pos) (tNot tA) := by
  intro pins s σ H Q I h
  exact isTrue_not (ha pins s σ H (fun c H1 => Q (!c) H1) I h)
def tAndV (ta tb : TE) : TE := fun σ H Q => ta σ H fun x H1 => ∃ c, x = .bl c ∧ if c = true then tb σ H1 Q else Q (.bl false) H1
def tNotV (ta : TE) : TE := fun σ H Q => ta σ H fun x H1 => ∃ c, x = .bl c ∧ Q (.bl (!c)) H1
theorem pe_one {op} {t : TE} (h : PE X a t) : PE X (.BoolOp op [a] pos) t := fun pins s σ H Q I hw => BoolOp_one (h pins s σ H Q I hw)
theorem pe_and (ha : PE X a ta) (hb : PE X (.BoolOp .And (b :: rest) pos) tb) : PE X (.BoolOp .And (a :: b :: rest) pos) (tAndV ta tb) := by
  intro pins s σ H Q I h
  refine BoolOp_and (thn (ha pins s σ H _ I h) fun v s1 ⟨x, H1, I1, r1, q1⟩ => ?_)
  obtain ⟨c, rfl, q1⟩ := q1
  cases r1
  refine wpAny_truthy_bool ?_
  cases c with
  | true => exact hb pins s1 σ H1 Q I1 q1
  | false => exact ⟨.bl false, H1, I1, rfl, q1⟩
theorem pe_not (ha : PE X a ta) : PE X (.UnaryOp .Not a pos) (tNotV ta) := by
  intro pins s σ H Q I h
  refine UnaryOp_ (thn (ha pins s σ H _ I h) fun v s1 ⟨x, H1, I1, r1, q1⟩ => ?_)
  obtain ⟨c, rfl, q1⟩ := q1
  cases r1
  exact not_of (wpAny_truthy_bool ⟨.bl (!c), H1, I1, rfl, q1⟩)
end
end L2
namespace L2
open PySem PySem.Spec PyProof.Rows
def SqL (K : PySem.W.Frag) (H : Hp) (a : Addr) (xs : List V) : Prop :=
  Rd H a (.lst xs) ∨
    ∃ (o : Obj) (its : Array Value) (n : Nat), K.lookup a = some o ∧ o.cls = .type "list" ∧ o.dict = none ∧ o.data = .seq its n ∧ its.size ≤ sizeLine ∧ Vals xs its.toList
def SqT (K : PySem.W.Frag) (H : Hp) (a : Addr) (xs : List V) : Prop :=
  Rd H a (.tup xs) ∨
    ∃ (o : Obj) (its : Array Value) (n : Nat), K.lookup a = some o ∧ o.cls = .type "tuple" ∧ o.data = .seq its n ∧ its.size ≤ sizeLine ∧ Vals xs its.toList
def absV : Value → Option V
  | .none => some .non
  | .bool b => some (.bl b)
  | .int i _ => some (.int i)
  | .str x _ => some (.str x)
  | .bytes b _ => some (.byt b)
  | .float b _ => some (.flt b)
  | .ref a => some (.ref a)
  | .type n => some (.ty n)
  | _ => none
theorem RelV.abs {x : V} {u : Value} (r : RelV x u) : absV u = some x := by
  cases x with
  | non => cases r; rfl
  | bl _ => cases r; rfl
  | int _ => obtain ⟨t, rfl⟩ := r; rfl
  | str _ => obtain ⟨t, rfl⟩ := r; rfl
  | byt _ => obtain ⟨t, rfl⟩ := r; rfl
  | flt _ => obtain ⟨t, rfl⟩ := r; rfl
  | ref _ => cases r; rfl
  | ty _ => cases r; rfl
theorem RelV.inj {x y : V} {u : Value} (r : RelV x u) (q : RelV y u) : x = y := Option.some.inj (r.abs.symm.trans q.abs)
theorem Vals.inj : ∀ {xs ys : List V} {us : List Value}, Vals xs us → Vals ys us → xs = ys
  | _, _, _, .nil, .nil => rfl
  | _, _, _, .cons r t, .cons r' t' => by rw [r.inj r', Vals.inj t t']
section
variable {X : Cx} {pins : List (Addr × Obj)} {σ : St} {H : Hp} {s : Shared} {a : Addr} {xs ys : List V}
theorem Inv.list (I : Inv X pins σ H s) (h : SqL X.K H a xs) : ∃ its : List Value, Vals xs its ∧ PlainL s.heap a its.toArray ∧ xs.length ≤ sizeLine := by
  rcases h with h | ⟨o, its, n, hk, hc, hd, hs, hz, r⟩
  · obtain ⟨z, its, n, r, e⟩ := h.ok I.hok
    exact ⟨its, r, ⟨_, n, e, rfl, rfl, rfl⟩, z⟩
  · refine ⟨its.toList, r, ⟨o, n, I.kIn a o hk, hc, hd, by simpa using hs⟩, ?_⟩
    have e := r.length
    simp only [Array.length_toList] at e
    omega
theorem Inv.tuple (I : Inv X pins σ H s) (h : SqT X.K H a xs) : ∃ its : List Value, Vals xs its ∧ IsTup s.heap a its.toArray ∧ xs.length ≤ sizeLine := by
  rcases h with h | ⟨o, its, n, hk, hc, hs, hz, r⟩
  · obtain ⟨z, its, r, p⟩ := h.ok I.hok
    exact ⟨its, r, p, z⟩
  · refine ⟨its.toList, r, ⟨o, I.kIn a o hk, hc, n, by simpa using hs⟩, ?_⟩
    have e := r.length
    simp only [Array.length_toList] at e
    omega
theorem Inv.list_inj (I : Inv X pins σ H s) (h : SqL X.K H a xs) (h' : SqL X.K H a ys) : xs = ys := by
  obtain ⟨its, r, ⟨o, n, e, _, _, d⟩, _⟩ := I.list h
  obtain ⟨its', r', ⟨o', n', e', _, _, d'⟩, _⟩ := I.list h'
  rw [e] at e'; cases e'
  rw [d] at d'
  injection d' with d1 _
  have : its = its' := by simpa using congrArg Array.toList d1
  subst this
  exact r.inj r'
theorem Inv.tuple_inj (I : Inv X pins σ H s) (h : SqT X.K H a xs) (h' : SqT X.K H a ys) : xs = ys := by
  obtain ⟨its, r, ⟨o, e, _, n, d⟩, _⟩ := I.tuple h
  obtain ⟨its', r', ⟨o', e', _, n', d'⟩, _⟩ := I.tuple h'
  rw [e] at e'; cases e'
  rw [d] at d'
  injection d' with d1 _
  have : its = its' := by simpa using congrArg Array.toList d1
  subst this
  exact r.inj r'
end
abbrev Cx.wish (X : Cx) (E : Value → Shared → Prop) : Cx := { X with xe := E }
abbrev Cx.nox (X : Cx) : Cx := X.wish fun _ _ => False
theorem Cx.Ok.wish {X : Cx} (ok : X.Ok) (E : Value → Shared → Prop) : (X.wish E).Ok :=
  ⟨ok.mod, ok.kind, ok.glob, ok.blt, ok.above, ok.inj, ok.has, ok.cab, ok.hd, ok.frames, ok.stk, ok.exf, ok.bs, ok.bsz, ok.noex, ok.exfs, ok.funs, ok.frf⟩
theorem Cx.Ok.unwish {X : Cx} {E : Value → Shared → Prop} (ok : (X.wish E).Ok) : X.Ok :=
  ⟨ok.mod, ok.kind, ok.glob, ok.blt, ok.above, ok.inj, ok.has, ok.cab, ok.hd, ok.frames, ok.stk, ok.exf, ok.bs, ok.bsz, ok.noex, ok.exfs, ok.funs, ok.frf⟩
section
variable {X : Cx} {pins : List (Addr × Obj)} {σ : St} {H : Hp} {s : Shared} {E : Value → Shared → Prop}
theorem Inv.wish (I : Inv X pins σ H s) (E : Value → Shared → Prop) : Inv (X.wish E) pins σ H s := ⟨I.ok.wish E, I.os, I.bare, I.base, I.loc, I.cell, I.free, I.freeC, I.pin, I.hok, I.len⟩
theorem Inv.unwish (I : Inv (X.wish E) pins σ H s) : Inv X pins σ H s := ⟨I.ok.unwish, I.os, I.bare, I.base, I.loc, I.cell, I.free, I.freeC, I.pin, I.hok, I.len⟩
theorem SP.unwish {D : Ends} {f : Flow} {s' : Shared} (h : SP (X.wish E) pins D f s') : SP X pins D f s' := by
  cases f with
  | next => obtain ⟨σ', H', I, q⟩ := h; exact ⟨σ', H', I.unwish, q⟩
  | brk => obtain ⟨σ', H', I, q⟩ := h; exact ⟨σ', H', I.unwish, q⟩
  | cont => obtain ⟨σ', H', I, q⟩ := h; exact ⟨σ', H', I.unwish, q⟩
  | ret u => obtain ⟨v, σ', H', I, r, q⟩ := h; exact ⟨v, σ', H', I.unwish, r, q⟩
theorem PSs.nox {st : List Stmt} {t : TS} (h : PSs X.nox st t) : PSs X st t := fun pins s σ H D I hw =>
  wpAny_mono (h pins s σ H D (I.wish _) hw) (fun _ _ q => q.unwish) fun _ _ z => False.elim z
end
section
variable {X : Cx} {st : Stmt} {rest : List Stmt} {t u : TS} {e : Expr} {te : TE} {pos : Pos}
def tNext : TS := fun D σ H => D.nx σ H
def tSeq (t u : TS) : TS := fun D σ H => t { D with nx := u D } σ H
theorem pss_nil : PSs X [] tNext := fun _ _ σ H _ I h => wpAny_execs_nil ⟨σ, H, I, h⟩
theorem pss_cons (h1 : PS X st t) (h2 : PSs X rest u) : PSs X (st :: rest) (tSeq t u) := by
  intro pins s σ H D I h
  refine wpAny_execs_cons (thn (h1 pins s σ H { D with nx := u D } I h) fun f s1 q => ?_)
  cases f with
  | next =>
    obtain ⟨σ', H', I', q⟩ := q
    exact h2 pins s1 σ' H' D I' q
  | ret v => exact q
  | brk => exact q
  | cont => exact q
theorem pss_one (h1 : PS X st t) : PSs X [st] t := by
  intro pins s σ H D I h
  refine wpAny_execs_cons (thn (h1 pins s σ H D I h) fun f s1 q => ?_)
  cases f with
  | next => exact wpAny_execs_nil q
  | ret v => exact q
  | brk => exact q
  | cont => exact q
theorem Inv.quiet {pins : List (Addr × Obj)} {σ : St} {H : Hp} {s : Shared} (I : Inv X pins σ H s) : interactive X.env = false := by simp [interactive, I.ok.kind]
def tDrop (te : TE) : TS := fun D σ H => te σ H fun _ H1 => D.nx σ H1
theorem ps_expr (he : PE X e te) (hs : swapsWith e none pos.line X.env = pure false := by rfl) : PS X (.Expr e pos) (tDrop te) := by
  intro pins s σ H D I h
  exact wpAny_Expr_any (thn (he pins s σ H _ I h) fun v s1 ⟨x, H1, I1, r1, q1⟩ => ⟨σ, H1, I1, q1⟩) I.quiet hs
def tRet (te : TE) : TS := fun D σ H => te σ H D.rt
theorem ps_ret (he : PE X e te) : PS X (.Return (some e) pos) (tRet te) := by
  intro pins s σ H D I h
  exact wpAny_Return_some (thn (he pins s σ H _ I h) fun v s1 ⟨x, H1, I1, r1, q1⟩ => ⟨x, σ, H1, I1, r1, q1⟩)
def tIfS (c : TT) (t u : TS) : TS := fun D σ H => c σ H fun b H1 => if b = true then t D σ H1 else u D σ H1
theorem ps_if {c : Expr} {a b : List Stmt} {tc : TT} (hc : PT X c tc) (ha : PSs X a t) (hb : PSs X b u) : PS X (.If c a b pos) (tIfS tc t u) := by
  intro pins s σ H D I h
  refine wpAny_If (thn (hc pins s σ H _ I h) fun d s1 ⟨H1, I1, q1⟩ => ?_)
  cases d with
  | true => exact ha pins s1 σ H1 D I1 q1
  | false => exact hb pins s1 σ H1 D I1 q1
def tNever : TS := fun _ _ _ => False
theorem ps_never : PS X st tNever := fun _ _ _ _ _ _ h => h.elim
end
abbrev TG := V → St → Hp → (St → Hp → Prop) → Prop
abbrev TGs := List V → St → Hp → (St → Hp → Prop) → Prop
def PG (X : Cx) (target : Expr) (t : TG) : Prop :=
  ∀ (pins : List (Addr × Obj)) (s : Shared) (σ : St) (H : Hp) (v : V) (u : Value) (Q : St → Hp → Prop), Inv X pins σ H s → RelV v u → t v σ H Q →
    wpAny (model X.prog X.w) X.A (assign target X.env u) (fun _ s' => ∃ σ' H', Inv X pins σ' H' s' ∧ Q σ' H') X.xe s
def PGs (X : Cx) (ts : List Expr) (t : TGs) : Prop :=
  ∀ (pins : List (Addr × Obj)) (s : Shared) (σ : St) (H : Hp) (vs : List V) (us : List Value) (Q : St → Hp → Prop), Inv X pins σ H s → Vals vs us → t vs σ H Q →
    wpAny (model X.prog X.w) X.A (assignInOrder ((assignEach ts X.env).map (·.2)) us) (fun _ s' => ∃ σ' H', Inv X pins σ' H' s' ∧ Q σ' H') X.xe s
abbrev TSet := V → V → V → Hp → (Hp → Prop) → Prop
def PSet (X : Cx) (t : TSet) : Prop :=
  ∀ (pins : List (Addr × Obj)) (s : Shared) (σ : St) (H : Hp) (o i v : V) (ov iv u : Value) (Q : Hp → Prop), Inv X pins σ H s → RelV o ov → RelV i iv → RelV v u → t o i v H Q →
    wpAny (model X.prog X.w) X.A (setItem ov iv u) (fun _ s' => ∃ H', Inv X pins σ H' s' ∧ Q H') X.xe s
section
variable {X : Cx} {pos : Pos}
def gName (i : Nat) : TG := fun v σ H Q => Q (σ.set i (some v)) H
theorem pg_name {i : Nat} {x : Str} (hN : X.N.Nodup) (hi : X.N[i]? = some x) (hx : Loc X.env.scope x) (hf : X.fn x = true ∨ X.env.scope.names.lookup x = some .local := by first | exact .inl rfl | exact .inr rfl | assumption) : PG X (.Name x pos) (gName i) := by
  intro pins s σ H v u Q I r h
  exact wpAny_assign_Name (store_ok I hN hi hx r (fun s' I' => ⟨_, H, I', h⟩) hf)
def gNil : TGs := fun vs σ H Q => vs = [] ∧ Q σ H
def gCons (t : TG) (u : TGs) : TGs := fun vs σ H Q => ∃ v r, vs = v :: r ∧ t v σ H fun σ' H' => u r σ' H' Q
theorem pgs_nil : PGs X [] gNil := by
  intro pins s σ H vs us Q I r h
  obtain ⟨e, h⟩ := h
  subst e
  cases r
  exact assignInOrder_nil ⟨σ, H, I, h⟩
theorem pgs_cons {e : Expr} {es : List Expr} {t : TG} {u : TGs} (h1 : PG X e t) (h2 : PGs X es u)
    (hs : (assignEach (e :: es) X.env).map (·.2) = assign e X.env :: (assignEach es X.env).map (·.2) := by rfl) : PGs X (e :: es) (gCons t u) := by
  intro pins s σ H vs us Q I r h
  obtain ⟨v, vr, e1, h⟩ := h
  subst e1
  cases r with
  | cons r rr =>
    rw [hs]
    refine assignInOrder_cons (thn (h1 pins s σ H _ _ _ I r h) fun _ s1 ⟨σ1, H1, I1, q1⟩ => ?_)
    exact h2 pins s1 σ1 H1 _ _ Q I1 rr q1
def gTup (K : PySem.W.Frag) (n : Nat) (t : TGs) : TG := fun v σ H Q => ∃ a xs, v = .ref a ∧ SqT K H a xs ∧ xs.length = n ∧ t xs σ H Q
theorem pg_tup {es : List Expr} {k : Nat} {t : TGs} {n : Nat} (hc : X.calm = true) (h : PGs X es t)
    (hn : (assignEach es X.env).length = n := by rfl) (hst : (assignEach es X.env).findIdx? (·.1) = none := by rfl) : PG X (.Tuple es k pos) (gTup X.K n t) := by
  intro pins s σ H v u Q I r hw
  obtain ⟨a, xs, e1, hq, hl, hw⟩ := hw
  subst e1
  cases r
  obtain ⟨its, rv, ht, hz⟩ := I.tuple hq
  refine assign_Tuple_tuple (I.ok.hd hc) ht (by simp [hn, ← hl, rv.length]) hst fun h' hx => ?_
  have I1 : Inv X pins σ H { s with heap := h' } := I.kept (t' := s.toks) fun b o e => hx b o (Nat.ne_of_lt (Heap.lt_size e)) e
  exact h pins _ σ H xs _ Q I1 (by simpa using rv) hw
def gSub (to ti : TE) (t : TSet) : TG := fun v σ H Q => to σ H fun o H1 => ti σ H1 fun i H2 => t o i v H2 fun H3 => Q σ H3
theorem pg_sub {o i : Expr} {to ti : TE} {t : TSet} (ho : PE X o to) (hi : PE X i ti) (hs : PSet X t)
    (ha : ∀ v, assign (.Subscript o i pos) X.env v = (do
      let ov ← holding [v] (eval o X.env)
      let iv ← holding [v, ov] (eval i X.env)
      standAt pos
      holding [v, ov, iv] (setItem ov iv v)
      release [v, ov, iv] []) := by intro _; rfl) : PG X (.Subscript o i pos) (gSub to ti t) := by
  intro pins s σ H v u Q I r h
  rw [ha]
  refine wpAny_bind (wpAny_holding (thn (ho pins s σ H _ I h) fun ov s1 ⟨x, H1, I1, r1, q1⟩ => ?_))
  refine wpAny_bind (wpAny_holding (thn (hi pins s1 σ H1 _ I1 q1) fun iv s2 ⟨y, H2, I2, r2, q2⟩ => ?_))
  refine wpAny_bind (wpAny_standAt (wpAny_bind (wpAny_holding (thn (hs pins s2 σ H2 x y v ov iv u _ I2 r1 r2 r q2) fun _ s3 ⟨H3, I3, q3⟩ => ?_))))
  exact wpAny_release ⟨σ, H3, I3, q3⟩
def tAsg (te : TE) (g : TG) : TS := fun D σ H => te σ H fun x H1 => g x σ H1 D.nx
theorem ps_asg {tg e : Expr} {te : TE} {g : TG} (he : PE X e te) (hg : PG X tg g) (hs : swapsWithSole [tg] e pos.line X.env = pure false := by rfl) (hw : swappedStores [tg] e X.env = pure none := by rfl)
    (h1 : (assignEach [tg] X.env).map (·.2) = [assign tg X.env] := by rfl) : PS X (.Assign [tg] e pos) (tAsg te g) := by
  intro pins s σ H D I h
  refine wpAny_Assign_stores (thn (he pins s σ H _ I h) fun v s1 ⟨x, H1, I1, r1, q1⟩ => ?_) hs hw
  rw [h1]
  exact thn (hg pins s1 σ H1 x v _ I1 r1 q1) fun _ s2 q => q
theorem ps_set {i : Nat} {x : Str} {e : Expr} {te : TE} {pos' : Pos} (hN : X.N.Nodup) (hi : X.N[i]? = some x) (hx : Loc X.env.scope x) (he : PE X e te) (hs : swapsWith e (some (.Name x pos')) pos.line X.env = pure false := by rfl) (hf : X.fn x = true ∨ X.env.scope.names.lookup x = some .local := by first | exact .inl rfl | exact .inr rfl | assumption) :
    PS X (.Assign [.Name x pos'] e pos) (tAsg te (gName i)) := by
  intro pins s σ H D I h
  refine wpAny_Assign_Name (thn (he pins s σ H _ I h) fun v s1 ⟨y, H1, I1, r1, q1⟩ => ?_) hs
  exact store_ok I1 hN hi hx r1 (fun s2 I2 => ⟨_, H1, I2, q1⟩) hf
def tPar (i j : Nat) (ta : TA) : TS := fun D σ H => ta σ H fun vs H1 => ∃ v w, vs = [v, w] ∧ D.nx ((σ.set i (some v)).set j (some w)) H1
theorem ps_par {i j : Nat} {x y : Str} {a b : Expr} {ta : TA} {px py pt : Pos} {kt k2 pt2} (hc : X.calm = true) (hN : X.N.Nodup) (hi : X.N[i]? = some x) (hj : X.N[j]? = some y) (hij : i ≠ j)
    (hx : X.env.scope.names.lookup x = some .local) (hy : X.env.scope.names.lookup y = some .local) (ha : PA X [a, b] ta)
    (hw : swappedStores [.Tuple [.Name x px, .Name y py] kt pt] (.Tuple [a, b] k2 pt2) X.env = pure (some [x, y]))
    (hs : swapsWithSole [.Tuple [.Name x px, .Name y py] kt pt] (.Tuple [a, b] k2 pt2) pos.line X.env = pure false := by rfl) :
    PS X (.Assign [.Tuple [.Name x px, .Name y py] kt pt] (.Tuple [a, b] k2 pt2) pos) (tPar i j ta) := by
  intro pins s σ H D I h
  rw [exec_Assign_arm]
  refine wpAny_bind (wpAny_standAt ?_)
  rw [hs]
  refine wpAny_bind (wpAny_pure ?_)
  rw [if_neg (by decide)]
  refine wpAny_bind (Tuple_ (thn (ha _ pins s σ H _ I h) fun us s1 ⟨vs, H1, I1, r1, q1⟩ => ?_))
  obtain ⟨v, w, e1, q1⟩ := q1
  subst e1
  obtain ⟨u1, u2, rfl, rv, rw'⟩ : ∃ u1 u2, us = [u1, u2] ∧ RelV v u1 ∧ RelV w u2 := by
    cases r1 with
    | cons p q =>
      cases q with
      | cons p' q' =>
        cases q'
        exact ⟨_, _, rfl, p, p'⟩
  refine wpAny_newObj_type ?_ (by show 2 ≤ sizeLine; decide)
  have I2 : Inv X pins σ H1 { s1 with heap := s1.heap.push { cls := .type "tuple", data := .seq [u1, u2].toArray } } := I1.kept (t' := s1.toks) fun b o e => Heap.get?_push_of_some _ e
  rw [hw]
  refine wpAny_bind (wpAny_pure ?_)
  show wpAny (model X.prog X.w) X.A (do rule "assign.swapped-stores"; let items ← unpackItems (.ref s1.heap.objs.size) 2 none; assignInOrder [fun v => bindName X.env y v, fun v => bindName X.env x v] items.reverse; pure Flow.next) _ _ _
  refine wpAny_bind (wpAny_rule (wpAny_bind (unpackItems_tuple (items := #[u1, u2]) (I.ok.hd hc) (IsTup.new s1.heap _) fun h' hx' => ?_)))
  have I3 := I2.kept (h' := h') (t' := s1.toks) fun b o e => hx' b o (Nat.ne_of_lt (Heap.lt_size e)) e
  show wpAny _ _ (assignInOrder [fun v => bindName X.env y v, fun v => bindName X.env x v] [u2, u1] >>= fun _ => pure Flow.next) _ _ _
  refine wpAny_bind (assignInOrder_cons (wpAny_bindName (store_ok I3 hN hj (.inl hy) rw' (fun s2 I4 => ?_) (.inr hy))))
  refine assignInOrder_cons (wpAny_bindName (store_ok I4 hN hi (.inl hx) rv (fun s3 I5 => assignInOrder_nil (wpAny_pure ?_)) (.inr hx)))
  rw [List.set_comm _ _ (Ne.symm hij)] at I5
  exact ⟨_, H1, I5, q1⟩
end
section
variable {X : Cx} {pos : Pos}
def tWhile (c : TT) (tb : TS) : TS := fun D σ H => ∃ W : Nat → St → Hp → Prop, (∃ m, W m σ H) ∧ ∀ m σ H, W m σ H →
  c σ H fun b H1 => if b = true then ∃ N : St → Hp → Prop, (∀ σ' H', N σ' H' → ∃ m', m' < m ∧ W m' σ' H') ∧ tb { D with nx := N, ct := N, bk := D.nx } σ H1 else D.nx σ H1
theorem ps_while {c : Expr} {body : List Stmt} {tc : TT} {tb : TS} (hp : PassesOwn (model X.prog X.w) X.A X.env X.xe) (hc : PT X c tc) (hb : PSs X body tb) : PS X (.While c body [] pos) (tWhile tc tb) := by
  intro pins s σ H D I h
  obtain ⟨W, ⟨m0, w0⟩, turn⟩ := h
  refine wpAny_While (codeAny_whileLoop (fun n s' => ∃ σ' H', Inv X pins σ' H' s' ∧ W n σ' H') ?_ m0 ⟨σ, H, I, w0⟩)
  rintro n s1 ⟨σ1, H1, I1, w1⟩
  refine wpAny_passesOwn hp (thn (hc pins s1 σ1 H1 _ I1 (turn n σ1 H1 w1)) fun b s2 ⟨H2, I2, q2⟩ => ?_)
  cases b with
  | true =>
    obtain ⟨N, hN, q2⟩ := q2
    rw [if_pos rfl]
    refine wpAny_passesOwn hp (thn (hb pins s2 σ1 H2 _ I2 q2) fun f s3 q3 => ?_)
    cases f with
    | next =>
      obtain ⟨σ3, H3, I3, n3⟩ := q3
      obtain ⟨m', hm, w3⟩ := hN σ3 H3 n3
      exact ⟨m', hm, σ3, H3, I3, w3⟩
    | cont =>
      obtain ⟨σ3, H3, I3, n3⟩ := q3
      obtain ⟨m', hm, w3⟩ := hN σ3 H3 n3
      exact ⟨m', hm, σ3, H3, I3, w3⟩
    | brk => exact q3
    | ret v => exact q3
  | false =>
    rw [if_neg Bool.false_ne_true]
    exact wpAny_execs_nil ⟨σ1, H2, I2, q2⟩
end
structure It where
  go : Nat → Hp → Prop
  yld : Nat → Hp → V → Hp → Prop
  stop : Nat → Hp → Prop
def FpOk (X : Cx) (pins : List (Addr × Obj)) (H : Hp) (b : Addr) : Prop :=
  H b = none ∧ b ≠ X.env.locals ∧ b ∉ X.fs ∧ (b ∈ X.ex ∨ X.s_0.heap.objs.size ≤ b) ∧ (∀ x c, X.env.cells.lookup x = some c → c ≠ b) ∧ ∀ p ∈ X.pn ++ pins, p.1 ≠ b
theorem Inv.fpOk {X : Cx} {pins : List (Addr × Obj)} {σ : St} {H H' : Hp} {s : Shared} {b : Addr} (I : Inv X pins σ H s) (hb : s.heap.objs.size ≤ b) (hn : H' b = none) : FpOk X pins H' b := by
  refine ⟨hn, Nat.ne_of_gt (Nat.lt_of_lt_of_le I.lt hb), I.nofs hb, .inr (Nat.le_trans I.sz hb), fun x c e z => ?_, fun p hp z => ?_⟩
  · obtain ⟨v, q⟩ := I.cell x c e
    exact absurd (Nat.lt_of_lt_of_le q.lt (by rw [z]; exact hb)) (Nat.lt_irrefl _)
  · exact absurd (Nat.lt_of_lt_of_le (Heap.lt_size (I.pin p hp).1) (by rw [z]; exact hb)) (Nat.lt_irrefl _)
structure Turn (P : Program) (w : World) (K : PySem.W.Frag) (tg : Expr) (J : It) (fp : List Addr) (it : Addr) (tn : Nat → Heap → Prop) : Prop where
  mem : it ∈ fp
  obj : ∀ i h, tn i h → ∀ b ∈ fp, ∃ o, h.get? b = some o ∧ ∀ v, o.data ≠ .cell v
  keep : ∀ i h h', tn i h → (∀ b ∈ fp, ∀ o, h.get? b = some o → h'.get? b = some o) → tn i h'
  item : ∀ (X : Cx), X.prog = P → X.w = w → X.K = K → X.calm = true → ∀ (i : Nat) (pins : List (Addr × Obj)) (s : Shared) (σ : St) (H : Hp) (E : Value → Shared → Prop), Inv X pins σ H s → (∀ b ∈ fp, FpOk X pins H b) → tn i s.heap → J.go i H →
    wpAny (model P w) X.A (pyNext (.ref it)) (fun r s1 => ∃ u, r = some u ∧
      wpAny (model P w) X.A (letOwnedTupleGo tg (.ref it) u) (fun _ s2 => ∃ x H', Inv X pins σ H' s2 ∧ RelV x u ∧ J.yld i H x H' ∧ tn (i + 1) s2.heap ∧ ∀ b ∈ fp, H' b = none) E s1) E s
  done : ∀ (X : Cx), X.prog = P → X.w = w → X.K = K → X.calm = true → ∀ (i : Nat) (pins : List (Addr × Obj)) (s : Shared) (σ : St) (H : Hp) (E : Value → Shared → Prop), Inv X pins σ H s → (∀ b ∈ fp, FpOk X pins H b) → tn i s.heap → J.stop i H →
    wpAny (model P w) X.A (pyNext (.ref it)) (fun r s1 => r = none ∧ Inv X pins σ H s1) E s
  self : ∀ (A : Around) (i : Nat) (s : Shared) (Q : Value → Shared → Prop) (E : Value → Shared → Prop), tn i s.heap → Q (.ref it) s → wpAny (model P w) A (pyIter (.ref it)) Q E s
abbrev TI := St → Hp → (It → Hp → Prop) → Prop
def PIE (X : Cx) (pins : List (Addr × Obj)) (σ : St) (tg : Expr) (R : It → Hp → Prop) (itv : Value) (s2 : Shared) : Prop :=
  ∃ (it : Addr) (fp : List Addr) (tn : Nat → Heap → Prop) (J : It) (H' : Hp), itv = .ref it ∧ Inv X pins σ H' s2 ∧ Turn X.prog X.w X.K tg J fp it tn ∧ tn 0 s2.heap ∧ (∀ b ∈ fp, FpOk X pins H' b) ∧ R J H'
def PI (X : Cx) (tg iter : Expr) (wi : TI) : Prop :=
  ∀ (pins : List (Addr × Obj)) (s : Shared) (σ : St) (H : Hp) (R : It → Hp → Prop), Inv X pins σ H s → wi σ H R →
    wpAny (model X.prog X.w) X.A (eval iter X.env) (fun v s1 => wpAny (model X.prog X.w) X.A (pyIter v) (PIE X pins σ tg R) X.xe s1) X.xe s
theorem go_of {M : Model} {A : Around} {E : Value → Shared → Prop} {s : Shared} {tg : Expr} {it : Addr} {u : Value} {o : Obj} {n : String} {vs : Array Value} {Q : Unit → Shared → Prop} (ho : s.heap.get? it = some o) (hc : o.cls = .type n) (hd : o.data = .fields vs)
    (hn : ["enumerate", "zip", "dict_itemiterator", "dict_reverseitemiterator", "odict_iterator", "itertools.zip_longest", "itertools.pairwise"].contains n = false) (hQ : Q () s) : wpAny M A (letOwnedTupleGo tg (.ref it) u) Q E s := by
  unfold letOwnedTupleGo
  cases tg <;> first
    | exact wpAny_pure hQ
    | (cases u <;> first
        | exact wpAny_pure hQ
        | (refine wpAny_bind (wpAny_load ho ?_)
           rw [hc, hd]
           show wpAny M A (if (["enumerate", "zip", "dict_itemiterator", "dict_reverseitemiterator", "odict_iterator", "itertools.zip_longest", "itertools.pairwise"].contains n && vs[0]? == some (rawInt _)) = true then _ else _) Q E s
           rw [if_neg (by intro h; rw [hn, Bool.false_and] at h; cases h)]
           exact wpAny_pure hQ))
def Itl (K : PySem.W.Frag) (a : Addr) : It :=
  ⟨fun i H => ∃ xs x, SqL K H a xs ∧ xs[i]? = some x, fun i H x H' => H' = H ∧ ∀ xs, SqL K H a xs → xs[i]? = some x, fun i H => ∃ xs, SqL K H a xs ∧ xs.length ≤ i⟩
def Itt (K : PySem.W.Frag) (a : Addr) : It :=
  ⟨fun i H => ∃ xs x, SqT K H a xs ∧ xs[i]? = some x, fun i H x H' => H' = H ∧ ∀ xs, SqT K H a xs → xs[i]? = some x, fun i H => ∃ xs, SqT K H a xs ∧ xs.length ≤ i⟩
def Itr (lo : Int) (n : Nat) : It := ⟨fun i _ => i < n, fun i H x H' => H' = H ∧ x = .int (lo + i), fun i _ => n ≤ i⟩
theorem turn_list {P : Program} {w : World} {K : PySem.W.Frag} {tg : Expr} (a it : Addr) : Turn P w K tg (Itl K a) [it] it (fun i h => h.IsListIter it a i) where
  mem := by simp
  obj := fun i h st b hb => by
    have e : b = it := by simpa using hb
    subst e
    obtain ⟨o, e, c, d⟩ := st
    exact ⟨o, e, fun v z => by rw [d] at z; cases z⟩
  keep := fun i h h' st k => st.at fun o e => k it (by simp) o e
  item := by
    intro X hP hw hK hc i pins s σ H E I hf st hg
    subst hP hw hK
    obtain ⟨xs, x, hq, hx⟩ := hg
    obtain ⟨its, rv, p, hz⟩ := I.list hq
    obtain ⟨u, hu, ru⟩ := rv.get hx
    obtain ⟨f0, f1, f2, f3, f4, f5⟩ := hf it (by simp)
    refine wpAny_pyNext_list_item st p.isList (x := u) (by simpa using hu) fun h' st' sb => ?_
    have I1 : Inv X pins σ H { s with heap := h' } := I.turned (t' := s.toks) (fun b o hb e => (sb.2 b hb).trans e) f0 f1 f3 f4 f5
    obtain ⟨o, e, c, d⟩ := id st'
    exact ⟨u, rfl, go_of (s := { s with heap := h' }) e c d (by decide) ⟨x, H, I1, ru, ⟨rfl, fun ys hy => by rw [I.list_inj hy hq]; exact hx⟩, st', fun b hb => (hf b hb).1⟩⟩
  done := by
    intro X hP hw hK hc i pins s σ H E I hf st hg
    subst hP hw hK
    obtain ⟨xs, hq, hx⟩ := hg
    obtain ⟨its, rv, p, hz⟩ := I.list hq
    obtain ⟨f0, f1, f2, f3, f4, f5⟩ := hf it (by simp)
    have hl := rv.length
    exact wpAny_pyNext_list_end (I.ok.hd hc) st p.isList (by simp; omega) fun h' eb => ⟨rfl, I.turned (t' := s.toks) (fun b o hb e => eb b o hb e) f0 f1 f3 f4 f5⟩
  self := fun _ _ _ _ _ st h => wpAny_pyIter_listiter st h
theorem turn_tuple {P : Program} {w : World} {K : PySem.W.Frag} {tg : Expr} (a it : Addr) : Turn P w K tg (Itt K a) [it] it (fun i h => h.IsTupleIter it a i) where
  mem := by simp
  obj := fun i h st b hb => by
    have e : b = it := by simpa using hb
    subst e
    obtain ⟨o, e, c, d⟩ := st
    exact ⟨o, e, fun v z => by rw [d] at z; cases z⟩
  keep := fun i h h' st k => st.at fun o e => k it (by simp) o e
  item := by
    intro X hP hw hK hc i pins s σ H E I hf st hg
    subst hP hw hK
    obtain ⟨xs, x, hq, hx⟩ := hg
    obtain ⟨its, rv, p, hz⟩ := I.tuple hq
    obtain ⟨u, hu, ru⟩ := rv.get hx
    obtain ⟨f0, f1, f2, f3, f4, f5⟩ := hf it (by simp)
    refine wpAny_pyNext_tuple_item st (show s.heap.IsTuple a its.toArray from p) (x := u) (by simpa using hu) fun h' st' sb => ?_
    have I1 : Inv X pins σ H { s with heap := h' } := I.turned (t' := s.toks) (fun b o hb e => (sb.2 b hb).trans e) f0 f1 f3 f4 f5
    obtain ⟨o, e, c, d⟩ := id st'
    exact ⟨u, rfl, go_of (s := { s with heap := h' }) e c d (by decide) ⟨x, H, I1, ru, ⟨rfl, fun ys hy => by rw [I.tuple_inj hy hq]; exact hx⟩, st', fun b hb => (hf b hb).1⟩⟩
  done := by
    intro X hP hw hK hc i pins s σ H E I hf st hg
    subst hP hw hK
    obtain ⟨xs, hq, hx⟩ := hg
    obtain ⟨its, rv, p, hz⟩ := I.tuple hq
    obtain ⟨f0, f1, f2, f3, f4, f5⟩ := hf it (by simp)
    have hl := rv.length
    exact wpAny_pyNext_tuple_end (I.ok.hd hc) st (show s.heap.IsTuple a its.toArray from p) (by simp; omega) fun h' eb => ⟨rfl, I.turned (t' := s.toks) (fun b o hb e => eb b o hb e) f0 f1 f3 f4 f5⟩
  self := fun _ _ _ _ _ st h => wpAny_pyIter_tupleiter st h
theorem turn_range {P : Program} {w : World} {K : PySem.W.Frag} {tg : Expr} (it : Addr) (lo : Int) (n : Nat) : Turn P w K tg (Itr lo n) [it] it (fun i h => IsRangeIter h it (lo + (i : Nat) * 1) ((n : Int) - (i : Nat)) 1) where
  mem := by simp
  obj := fun i h st b hb => by
    have e : b = it := by simpa using hb
    subst e
    exact ⟨_, st, fun v z => by
      have z' : Data.fields _ = Data.cell v := z
      cases z'⟩
  keep := fun i h h' st k => k it (by simp) _ st
  item := by
    intro X hP hw hK hc i pins s σ H E I hf st hg
    subst hP hw hK
    obtain ⟨f0, f1, f2, f3, f4, f5⟩ := hf it (by simp)
    have W := Walks.range (prog := X.prog) (w := X.w) (I.ok.hd hc) it lo 1 n
    refine W.item i s _ _ hg st fun v h' tk hv st' kk => ?_
    obtain ⟨t, rfl⟩ := hv
    have I1 : Inv X pins σ H { s with heap := h', toks := tk } := I.turned (fun b o hb e => kk b o (by simpa using hb) e) f0 f1 f3 f4 f5
    refine ⟨_, rfl, go_of (s := { s with heap := h', toks := tk }) (n := "range_iterator") st' rfl rfl (by decide) ⟨.int (lo + i), H, I1, ⟨t, ?_⟩, ⟨rfl, rfl⟩, st', fun b hb => (hf b hb).1⟩⟩
    rw [Int.mul_one]
  done := by
    intro X hP hw hK hc i pins s σ H E I hf st hg
    subst hP hw hK
    obtain ⟨f0, f1, f2, f3, f4, f5⟩ := hf it (by simp)
    exact wpAny_pyNext_range_end (I.ok.hd hc) st (by have : n ≤ i := hg; omega) fun h' eb => ⟨rfl, I.turned (t' := s.toks) (fun b o hb e => eb b o hb e) f0 f1 f3 f4 f5⟩
  self := fun _ _ _ _ _ st h => wpAny_pyIter_rangeiter st h
end L2
namespace L2
open PySem PySem.Spec PyProof.Rows
section
variable {X : Cx} {tg : Expr}
def iList (K : PySem.W.Frag) (tl : TE) : TI := fun σ H R => tl σ H fun x H1 => ∃ a, x = .ref a ∧ (∃ xs, SqL K H1 a xs) ∧ R (Itl K a) H1
def iTup (K : PySem.W.Frag) (tl : TE) : TI := fun σ H R => tl σ H fun x H1 => ∃ a, x = .ref a ∧ (∃ xs, SqT K H1 a xs) ∧ R (Itt K a) H1
theorem pi_list {l : Expr} {tl : TE} (hl : PE X l tl) : PI X tg l (iList X.K tl) := by
  intro pins s σ H R I h
  refine thn (hl pins s σ H _ I h) fun v s1 ⟨x, H1, I1, r1, q1⟩ => ?_
  obtain ⟨a, e, ⟨xs, hq⟩, q⟩ := q1
  subst e
  cases r1
  obtain ⟨its, rv, p, hz⟩ := I1.list hq
  refine wpAny_pyIter_list p.isList ?_
  refine ⟨s1.heap.objs.size, [s1.heap.objs.size], _, _, H1, rfl, I1.kept (t' := s1.toks) fun b o e => Heap.get?_push_of_some _ e, turn_list a _, ⟨_, Heap.get?_push_size _ rfl, rfl, rfl⟩, fun b hb => ?_, q⟩
  have e : b = s1.heap.objs.size := by simpa using hb
  subst e
  exact I1.fpOk (Nat.le_refl _) (I1.hok.fresh (Nat.le_refl _))
theorem pi_tup {l : Expr} {tl : TE} (hl : PE X l tl) : PI X tg l (iTup X.K tl) := by
  intro pins s σ H R I h
  refine thn (hl pins s σ H _ I h) fun v s1 ⟨x, H1, I1, r1, q1⟩ => ?_
  obtain ⟨a, e, ⟨xs, hq⟩, q⟩ := q1
  subst e
  cases r1
  obtain ⟨its, rv, p, hz⟩ := I1.tuple hq
  refine wpAny_pyIter_tuple (show s1.heap.IsTuple a its.toArray from p) ?_
  refine ⟨s1.heap.objs.size, [s1.heap.objs.size], _, _, H1, rfl, I1.kept (t' := s1.toks) fun b o e => Heap.get?_push_of_some _ e, turn_tuple a _, ⟨_, Heap.get?_push_size _ rfl, rfl, rfl⟩, fun b hb => ?_, q⟩
  have e : b = s1.heap.objs.size := by simpa using hb
  subst e
  exact I1.fpOk (Nat.le_refl _) (I1.hok.fresh (Nat.le_refl _))
theorem range_it {pins : List (Addr × Obj)} {σ : St} {H : Hp} {s : Shared} {R : It → Hp → Prop} {E : Value → Shared → Prop} {lo hi : Int} {t u v : Tok} {tk : Nat} (I : Inv X pins σ H s) (h1 : -(2 ^ 62) ≤ lo) (h2 : lo < 2 ^ 62) (h3 : -(2 ^ 62) ≤ hi) (h4 : hi < 2 ^ 62)
    (q : R (Itr lo (hi - lo).toNat) H) : wpAny (model X.prog X.w) X.A (pyIter (.ref s.heap.objs.size)) (PIE X pins σ tg R) E { s with heap := s.heap.push { cls := .type "range", data := .fields #[.int lo t, .int hi u, .int 1 v] }, toks := tk } := by
  refine wpAny_pyIter_range (IsRange.new ..) (small_one h1 h2 h3 h4) ?_
  have I1 : Inv X pins σ H { s with heap := s.heap.push { cls := .type "range", data := .fields #[.int lo t, .int hi u, .int 1 v] }, toks := tk } := I.kept fun b o e => Heap.get?_push_of_some _ e
  refine ⟨(s.heap.push { cls := .type "range", data := .fields #[.int lo t, .int hi u, .int 1 v] }).objs.size, [(s.heap.push { cls := .type "range", data := .fields #[.int lo t, .int hi u, .int 1 v] }).objs.size], _, _, H, rfl,
    I1.kept (t' := tk) fun b o e => Heap.get?_push_of_some _ e, turn_range _ lo (hi - lo).toNat, ?_, fun b hb => ?_, q⟩
  · have e1 : lo + ((0 : Nat) : Int) * 1 = lo := by simp
    have e2 : (((hi - lo).toNat : Nat) : Int) - ((0 : Nat) : Int) = Builtin.Range.rangeSize lo hi 1 := by rw [rangeSize_one]; split <;> omega
    show IsRangeIter _ _ (lo + ((0 : Nat) : Int) * 1) ((((hi - lo).toNat : Nat) : Int) - ((0 : Nat) : Int)) 1
    rw [e1, e2]
    exact Heap.get?_push_size _ rfl
  · have e : b = (s.heap.push { cls := .type "range", data := .fields #[.int lo t, .int hi u, .int 1 v] }).objs.size := by simpa using hb
    subst e
    exact I1.fpOk (Nat.le_refl _) (I1.hok.fresh (Nat.le_refl _))
def iRng1 (ta : TA) : TI := fun σ H R => ta σ H fun vs H1 => ∃ j : Int, vs = [.int j] ∧ -(2 ^ 62) ≤ j ∧ j < 2 ^ 62 ∧ R (Itr 0 j.toNat) H1
theorem pi_range1 {a : Expr} {ta : TA} {p pos : Pos} (hg : Gl X "range") (hm : X.mg "range" = none) (ha : PA X [a] ta) (hs : starEach [a] X.env = [(false, eval a X.env)] := by rfl) : PI X tg (.Call (.Name "range" p) [a] [] pos) (iRng1 ta) := by
  intro pins s σ H R I h
  refine Call_ (ld_blt I hg hm boot_range (PyProof.Rows.callWith_type1 (thn (ha pos pins s σ H _ I h) fun us s1 ⟨vs, H1, I1, r1, q1⟩ => ?_) hs rfl))
  obtain ⟨j, e, q1, q2, q⟩ := q1
  subst e
  cases r1 with
  | cons r rr =>
    cases rr
    obtain ⟨t, rfl⟩ := r
    exact call_range_1 (range_it I1 (by omega) (by omega) q1 q2 (by simpa using q))
def tFor (wi : TI) (g : TG) (tb : TS) : TS := fun D σ H => wi σ H fun J H1 => ∃ W : Nat → Nat → St → Hp → Prop, (∃ m, W 0 m σ H1) ∧ ∀ i m σ H, W i m σ H →
  (J.stop i H ∧ D.nx σ H) ∨ (J.go i H ∧ ∃ N : St → Hp → Prop, (∀ σ' H', N σ' H' → ∃ m', m' < m ∧ W (i + 1) m' σ' H') ∧ ∀ x H', J.yld i H x H' → g x σ H' fun σ2 H2 => tb { D with nx := N, ct := N, bk := D.nx } σ2 H2)
def pinsAt (fp : List Addr) (h : Heap) : List (Addr × Obj) := fp.filterMap fun b => (h.get? b).map fun o => (b, o)
theorem mem_pinsAt {fp : List Addr} {h : Heap} {b : Addr} {o : Obj} (hb : b ∈ fp) (e : h.get? b = some o) : (b, o) ∈ pinsAt fp h := List.mem_filterMap.mpr ⟨b, hb, by rw [e]; rfl⟩
theorem of_pinsAt {fp : List Addr} {h : Heap} {p : Addr × Obj} (hp : p ∈ pinsAt fp h) : p.1 ∈ fp ∧ h.get? p.1 = some p.2 := by
  obtain ⟨b, hb, e⟩ := List.mem_filterMap.mp hp
  cases q : h.get? b with
  | none => rw [q] at e; cases e
  | some o =>
    rw [q] at e
    have e' : (b, o) = p := Option.some.inj e
    subst e'
    exact ⟨hb, q⟩
theorem Inv.pinned {pins : List (Addr × Obj)} {σ : St} {H : Hp} {s : Shared} {fp : List Addr} (I : Inv X pins σ H s) (hf : ∀ b ∈ fp, FpOk X pins H b) (ho : ∀ b ∈ fp, ∃ o, s.heap.get? b = some o ∧ ∀ v, o.data ≠ .cell v) : Inv X (pins ++ pinsAt fp s.heap) σ H s :=
  I.pins_of fun p hp => (List.mem_append.mp hp).elim (fun z => I.pin p (List.mem_append_right _ z)) fun z => by
    obtain ⟨hb, e⟩ := of_pinsAt z
    obtain ⟨f0, f1, f2, _⟩ := hf p.1 hb
    obtain ⟨o, e', d⟩ := ho p.1 hb
    rw [e] at e'; cases e'
    exact ⟨e, f0, f1, f2, d⟩
theorem Inv.unpinned {pins pl : List (Addr × Obj)} {σ : St} {H : Hp} {s : Shared} (I : Inv X (pins ++ pl) σ H s) : Inv X pins σ H s := I.pins_of fun p hp => I.pin p (List.mem_append_right _ (List.mem_append_left _ hp))
theorem ps_for {iter : Expr} {body : List Stmt} {wi : TI} {g : TG} {tb : TS} {pos : Pos} (hp : PassesOwn (model X.prog X.w) X.A X.env X.xe) (hc : X.calm = true) (hi : PI X tg iter wi) (hg : PG X tg g) (hb : PSs X body tb)
    (hs : ∀ x, foldedSetIterable iter X.env x = pure x := by intro _; rfl) : PS X (.For tg iter body [] pos) (tFor wi g tb) := by
  intro pins s σ H D I h
  refine wpAny_For (thn (hi pins s σ H _ I h) fun v s1 h1 => thn h1 fun itv s2 h2 => ?_) hs
  obtain ⟨it, fp, tn, J, H2, e, I2, T, st2, f2, W, ⟨m0, w0⟩, turn⟩ := h2
  subst e
  have stat : ∀ {H' : Hp}, (∀ b ∈ fp, H' b = none) → ∀ b ∈ fp, FpOk X pins H' b := fun hn b hb => ⟨hn b hb, (f2 b hb).2⟩
  refine codeAny_forLoop_any (fun n s' => ∃ i σ' H', Inv X pins σ' H' s' ∧ tn i s'.heap ∧ (∀ b ∈ fp, H' b = none) ∧ W i n σ' H') ?_ m0 ⟨0, σ, H2, I2, st2, fun b hb => (f2 b hb).1, w0⟩
  rintro n s3 ⟨i, σ3, H3, I3, st3, fr3, w3⟩
  rcases turn i n σ3 H3 w3 with ⟨stop, qn⟩ | ⟨go, N, hN, step⟩
  · refine wpAny_passesOwn hp (thn (T.done X rfl rfl rfl hc i pins s3 σ3 H3 X.xe I3 (stat fr3) st3 stop) fun r s4 ⟨hr, I4⟩ => ?_)
    subst hr
    exact wpAny_execs_nil ⟨σ3, H3, I4, qn⟩
  · refine wpAny_passesOwn hp (thn (T.item X rfl rfl rfl hc i pins s3 σ3 H3 X.xe I3 (stat fr3) st3 go) fun r s4 ⟨u, hr, h4⟩ => ?_)
    subst hr
    refine wpAny_passesOwn hp (thn h4 fun _ s5 ⟨x, H5, I5, r5, y5, st5, fr5⟩ => ?_)
    have I5' := I5.pinned (stat fr5) (T.obj _ _ st5)
    refine wpAny_passesOwn hp (thn (hg _ s5 σ3 H5 x u _ I5' r5 (step x H5 y5)) fun _ s6 ⟨σ6, H6, I6, q6⟩ => ?_)
    refine wpAny_passesOwn hp (thn (hb _ s6 σ6 H6 _ I6 q6) fun f s7 q7 => ?_)
    have again : ∀ {σ7 : St} {H7 : Hp}, Inv X (pins ++ pinsAt fp s5.heap) σ7 H7 s7 → N σ7 H7 → ∃ m, m < n ∧ ∃ i σ' H', Inv X pins σ' H' s7 ∧ tn i s7.heap ∧ (∀ b ∈ fp, H' b = none) ∧ W i m σ' H' := fun {σ7 H7} I7 n7 => by
      obtain ⟨m', hm, w7⟩ := hN σ7 H7 n7
      refine ⟨m', hm, i + 1, σ7, H7, I7.unpinned, T.keep _ _ _ st5 fun b hb o e => (I7.pin (b, o) (List.mem_append_right _ (List.mem_append_right _ (mem_pinsAt hb e)))).1, fun b hb => ?_, w7⟩
      obtain ⟨o, e, d⟩ := T.obj _ _ st5 b hb
      exact (I7.pin (b, o) (List.mem_append_right _ (List.mem_append_right _ (mem_pinsAt hb e)))).2.1
    cases f with
    | next => obtain ⟨σ7, H7, I7, n7⟩ := q7; exact again I7 n7
    | cont => obtain ⟨σ7, H7, I7, n7⟩ := q7; exact again I7 n7
    | brk => obtain ⟨σ7, H7, I7, q7⟩ := q7; exact ⟨σ7, H7, I7.unpinned, q7⟩
    | ret v => obtain ⟨x7, σ7, H7, I7, r7, q7⟩ := q7; exact ⟨x7, σ7, H7, I7.unpinned, r7, q7⟩
end
end L2
namespace L2
open PySem PySem.Spec PyProof.Rows
abbrev R2 := V → V → Hp → VK → Prop
def OpR (X : Cx) (f : Value → Value → Sem Value) (r : R2) : Prop :=
  ∀ (pins : List (Addr × Obj)) (s : Shared) (σ : St) (H : Hp) (x y : V) (v u : Value) (Q : VK), Inv X pins σ H s → RelV x v → RelV y u → r x y H Q →
    wpAny (model X.prog X.w) X.A (f v u) (EP X pins σ Q) X.xe s
def UnR (X : Cx) (f : Value → Sem Value) (r : V → Hp → VK → Prop) : Prop :=
  ∀ (pins : List (Addr × Obj)) (s : Shared) (σ : St) (H : Hp) (x : V) (v : Value) (Q : VK), Inv X pins σ H s → RelV x v → r x H Q →
    wpAny (model X.prog X.w) X.A (f v) (EP X pins σ Q) X.xe s
def CallR (X : Cx) (f : Value) (r : List V → Hp → VK → Prop) : Prop :=
  ∀ (pins : List (Addr × Obj)) (s : Shared) (σ : St) (H : Hp) (xs : List V) (us : List Value) (Q : VK), Inv X pins σ H s → Vals xs us → r xs H Q →
    wpAny (model X.prog X.w) X.A (call f us) (EP X pins σ Q) X.xe s
def tOp (r : R2) (ta tb : TE) : TE := fun σ H Q => ta σ H fun x H1 => tb σ H1 fun y H2 => r x y H2 Q
def tUn (r : V → Hp → VK → Prop) (ta : TE) : TE := fun σ H Q => ta σ H fun x H1 => r x H1 Q
def rI (C : Int → Int → Prop) (g : Int → Int → V) : R2 := fun x y H Q => ∃ i j, x = .int i ∧ y = .int j ∧ C i j ∧ Q (g i j) H
def rI0 (g : Int → Int → V) : R2 := fun x y H Q => ∃ i j, x = .int i ∧ y = .int j ∧ Q (g i j) H
def rU (g : Int → V) : V → Hp → VK → Prop := fun x H Q => ∃ i, x = .int i ∧ Q (g i) H
section
variable {X : Cx} {a b c : Expr} {ta tb tc : TE} {pos : Pos}
theorem binT (ha : PE X a ta) (hb : PE X b tb) {pins : List (Addr × Obj)} {s : Shared} {σ : St} {H : Hp} {R : V → V → Hp → Prop} (I : Inv X pins σ H s)
    (h : ta σ H fun x H1 => tb σ H1 fun y H2 => R x y H2) {Q : Value → Shared → Prop} {f : Value → Value → Sem Value}
    (hf : ∀ v u s2 x y H2, Inv X pins σ H2 s2 → RelV x v → RelV y u → R x y H2 → wpAny (model X.prog X.w) X.A (f v u) Q X.xe s2) :
    wpAny (model X.prog X.w) X.A (eval a X.env) (fun v s₁ => wpAny (model X.prog X.w) X.A (eval b X.env) (fun u s₂ => wpAny (model X.prog X.w) X.A (f v u) Q X.xe s₂) X.xe s₁) X.xe s := by
  refine thn (ha pins s σ H _ I h) fun v s1 ⟨x, H1, I1, r1, q1⟩ => ?_
  refine thn (hb pins s1 σ H1 _ I1 q1) fun u s2 ⟨y, H2, I2, r2, q2⟩ => ?_
  exact hf v u s2 x y H2 I2 r1 r2 q2
theorem pe_op {op : Operator} {r : R2} (ho : OpR X (binaryOp op) r) (ha : PE X a ta) (hb : PE X b tb) : PE X (.BinOp a op b pos) (tOp r ta tb) := by
  intro pins s σ H Q I h
  exact wpAny_BinOp (binT ha hb I h fun v u s2 x y H2 I2 rx ry q => ho pins s2 σ H2 x y v u Q I2 rx ry q)
theorem pe_un {op : UnaryOp} {r : V → Hp → VK → Prop} (ho : UnR X (unaryOp op) r) (ha : PE X a ta) : PE X (.UnaryOp op a pos) (tUn r ta) := by
  intro pins s σ H Q I h
  exact UnaryOp_ (thn (ha pins s σ H _ I h) fun v s1 ⟨x, H1, I1, r1, q1⟩ => ho pins s1 σ H1 x v Q I1 r1 q1)
theorem opI {f : Value → Value → Sem Value} {C : Int → Int → Prop} {g : Int → Int → Int}
    (rule : ∀ (i j : Int) (t u : Tok) (s : Shared) (Q : Value → Shared → Prop) (E : Value → Shared → Prop), C i j → Q (.int (g i j) s.toks) { s with toks := s.toks + 1 } → wpAny (model X.prog X.w) X.A (f (.int i t) (.int j u)) Q E s) :
    OpR X f (rI C fun i j => .int (g i j)) := by
  intro pins s σ H x y v u Q I rx ry h
  obtain ⟨i, j, rfl, rfl, hc, q⟩ := h
  obtain ⟨t, rfl⟩ := rx
  obtain ⟨t', rfl⟩ := ry
  exact rule i j t t' s _ _ hc ⟨.int (g i j), H, I.tok _, ⟨_, rfl⟩, q⟩
theorem opI0 {f : Value → Value → Sem Value} {g : Int → Int → Int}
    (rule : ∀ (i j : Int) (t u : Tok) (s : Shared) (Q : Value → Shared → Prop) (E : Value → Shared → Prop), Q (.int (g i j) s.toks) { s with toks := s.toks + 1 } → wpAny (model X.prog X.w) X.A (f (.int i t) (.int j u)) Q E s) :
    OpR X f (rI0 fun i j => .int (g i j)) := by
  intro pins s σ H x y v u Q I rx ry h
  obtain ⟨i, j, rfl, rfl, q⟩ := h
  obtain ⟨t, rfl⟩ := rx
  obtain ⟨t', rfl⟩ := ry
  exact rule i j t t' s _ _ ⟨.int (g i j), H, I.tok _, ⟨_, rfl⟩, q⟩
theorem opB0 {f : Value → Value → Sem Value} {g : Int → Int → Bool}
    (rule : ∀ (i j : Int) (t u : Tok) (s : Shared) (Q : Value → Shared → Prop) (E : Value → Shared → Prop), Q (.bool (g i j)) s → wpAny (model X.prog X.w) X.A (f (.int i t) (.int j u)) Q E s) :
    OpR X f (rI0 fun i j => .bl (g i j)) := by
  intro pins s σ H x y v u Q I rx ry h
  obtain ⟨i, j, rfl, rfl, q⟩ := h
  obtain ⟨t, rfl⟩ := rx
  obtain ⟨t', rfl⟩ := ry
  exact rule i j t t' s _ _ ⟨.bl (g i j), H, I, rfl, q⟩
def CPow (i j : Int) : Prop := 0 ≤ j ∧ j ≤ 1000000 ∧ i.natAbs < 2 ^ 64
def CMul (i j : Int) : Prop := (-(2 ^ 64) < i ∧ i < 2 ^ 64) ∨ (-(2 ^ 64) < j ∧ j < 2 ^ 64)
theorem CMul.ok {i j : Int} (h : CMul i j) : IntMulOk i j := by
  rcases h with ⟨h1, h2⟩ | ⟨h1, h2⟩
  · exact .of_left (intBits_le_64 h1 h2)
  · exact .of_right (intBits_le_64 h1 h2)
theorem op_add : OpR X (binaryOp .Add) (rI0 fun i j => .int (i + j)) := opI0 fun _ _ _ _ _ _ _ q => add_int q
theorem op_sub : OpR X (binaryOp .Sub) (rI0 fun i j => .int (i - j)) := opI0 fun _ _ _ _ _ _ _ q => sub_int q
theorem op_mod : OpR X (binaryOp .Mod) (rI (fun _ j => 0 < j) fun i j => .int (i % j)) := opI fun i j _ _ _ _ _ hc q => by
  have h1 : (0 : Int) < j := hc
  exact mod_int' (by omega) (by rw [Int.fmod_eq_emod_of_nonneg i (by omega)]; exact q)
theorem op_pow : OpR X (binaryOp .Pow) (rI CPow fun i j => .int (i ^ j.toNat)) := opI fun _ _ _ _ _ _ _ hc q => pow_int_small hc.1 hc.2.1 hc.2.2 q
theorem unI {f : Value → Sem Value} {g : Int → Int}
    (rule : ∀ (i : Int) (t : Tok) (s : Shared) (Q : Value → Shared → Prop) (E : Value → Shared → Prop), Q (.int (g i) s.toks) { s with toks := s.toks + 1 } → wpAny (model X.prog X.w) X.A (f (.int i t)) Q E s) :
    UnR X f (rU fun i => .int (g i)) := by
  intro pins s σ H x v Q I rx h
  obtain ⟨i, rfl, q⟩ := h
  obtain ⟨t, rfl⟩ := rx
  exact rule i t s _ _ ⟨.int (g i), H, I.tok _, ⟨_, rfl⟩, q⟩
theorem un_neg : UnR X (unaryOp .USub) (rU fun i => .int (-i)) := unI fun _ _ _ _ _ q => neg_int q
end
def scal : V → V → Bool
  | .non, .non => true | .non, .int _ => true | .int _, .non => true | .non, .bl _ => true | .bl _, .non => true | .non, .str _ => true | .str _, .non => true
  | .int _, .int _ => true | .bl _, .bl _ => true | .str _, .str _ => true | .byt _, .byt _ => true
  | .int _, .str _ => true | .str _, .int _ => true | .bl _, .str _ => true | .str _, .bl _ => true
  | _, _ => false
def rEq : R2 := fun x y H Q => scal x y = true ∧ Q (.bl (decide (x = y))) H
def rNe : R2 := fun x y H Q => scal x y = true ∧ Q (.bl (!decide (x = y))) H
theorem dec_int {i j : Int} : decide (V.int i = V.int j) = (i == j) := by
  rw [Bool.eq_iff_iff]
  simp
theorem dec_bl {i j : Bool} : decide (V.bl i = V.bl j) = (i == j) := by
  rw [Bool.eq_iff_iff]
  simp
theorem dec_str {i j : Str} : decide (V.str i = V.str j) = (i == j) := by
  rw [Bool.eq_iff_iff]
  simp
theorem dec_byt {i j : Array UInt8} : decide (V.byt i = V.byt j) = (i.toList == j.toList) := by
  rw [Bool.eq_iff_iff]
  cases i
  cases j
  simp
section
variable {X : Cx} {a b c : Expr} {ta tb tc : TE} {pos : Pos}
theorem fin_bl {pins : List (Addr × Obj)} {σ : St} {H : Hp} {s : Shared} {Q : VK} {k k' : Bool} (I : Inv X pins σ H s) (q : Q (.bl k) H) (e : k = k') : EP X pins σ Q (.bool k') s := by
  subst e
  exact ⟨.bl k, H, I, rfl, q⟩
theorem op_eq : OpR X (compareOp .Eq) rEq := by
  intro pins s σ H x y v u Q I rx ry h
  obtain ⟨hs, q⟩ := h
  cases x with
  | non =>
    cases rx
    cases y with
    | non => cases ry; exact PySem.EqNone.eq_none_none (fin_bl I q (by simp))
    | bl j => cases ry; exact PySem.EqNone.eq_none_bool (fin_bl I q (by simp))
    | int j => obtain ⟨t', rfl⟩ := ry; exact PySem.EqNone.eq_none_int (fin_bl I q (by simp))
    | str j => obtain ⟨t', rfl⟩ := ry; exact PySem.EqNone.eq_none_str (fin_bl I q (by simp))
    | _ => exact absurd (show false = true from hs) Bool.false_ne_true
  | bl i =>
    cases rx
    cases y with
    | non => cases ry; exact PySem.EqNone.eq_bool_none (fin_bl I q (by simp))
    | bl j => cases ry; exact eq_bool (fin_bl I q dec_bl)
    | str j => obtain ⟨t', rfl⟩ := ry; exact PySem.EqMixed.eq_bool_str (fin_bl I q (by simp))
    | _ => exact absurd (show false = true from hs) Bool.false_ne_true
  | int i =>
    obtain ⟨t, rfl⟩ := rx
    cases y with
    | non => cases ry; exact PySem.EqNone.eq_int_none (fin_bl I q (by simp))
    | int j => obtain ⟨t', rfl⟩ := ry; exact eq_int (fin_bl I q dec_int)
    | str j => obtain ⟨t', rfl⟩ := ry; exact PySem.EqMixed.eq_int_str (fin_bl I q (by simp))
    | _ => exact absurd (show false = true from hs) Bool.false_ne_true
  | str i =>
    obtain ⟨t, rfl⟩ := rx
    cases y with
    | non => cases ry; exact PySem.EqNone.eq_str_none (fin_bl I q (by simp))
    | bl j => cases ry; exact PySem.EqMixed.eq_str_bool (fin_bl I q (by simp))
    | int j => obtain ⟨t', rfl⟩ := ry; exact PySem.EqMixed.eq_str_int (fin_bl I q (by simp))
    | str j => obtain ⟨t', rfl⟩ := ry; exact eq_str (fin_bl I q dec_str)
    | _ => exact absurd (show false = true from hs) Bool.false_ne_true
  | byt i =>
    obtain ⟨t, rfl⟩ := rx
    cases y with
    | byt j => obtain ⟨t', rfl⟩ := ry; exact PySem.W.eq_bytes (fin_bl I q dec_byt)
    | _ => exact absurd (show false = true from hs) Bool.false_ne_true
  | _ => cases y <;> exact absurd (show false = true from hs) Bool.false_ne_true
theorem op_ne : OpR X (compareOp .NotEq) rNe := by
  intro pins s σ H x y v u Q I rx ry h
  obtain ⟨hs, q⟩ := h
  cases x with
  | non =>
    cases rx
    cases y with
    | non => cases ry; exact PySem.EqNone.ne_none_none (fin_bl I q (by simp))
    | bl j => cases ry; exact PySem.EqNone.ne_none_bool (fin_bl I q (by simp))
    | int j => obtain ⟨t', rfl⟩ := ry; exact PySem.EqNone.ne_none_int (fin_bl I q (by simp))
    | str j => obtain ⟨t', rfl⟩ := ry; exact PySem.EqNone.ne_none_str (fin_bl I q (by simp))
    | _ => exact absurd (show false = true from hs) Bool.false_ne_true
  | bl i =>
    cases rx
    cases y with
    | non => cases ry; exact PySem.EqNone.ne_bool_none (fin_bl I q (by simp))
    | bl j => cases ry; exact ne_bool (fin_bl I q (congrArg not dec_bl))
    | str j => obtain ⟨t', rfl⟩ := ry; exact PySem.EqMixed.ne_bool_str (fin_bl I q (by simp))
    | _ => exact absurd (show false = true from hs) Bool.false_ne_true
  | int i =>
    obtain ⟨t, rfl⟩ := rx
    cases y with
    | non => cases ry; exact PySem.EqNone.ne_int_none (fin_bl I q (by simp))
    | int j => obtain ⟨t', rfl⟩ := ry; exact ne_int (fin_bl I q (congrArg not dec_int))
    | str j => obtain ⟨t', rfl⟩ := ry; exact PySem.EqMixed.ne_int_str (fin_bl I q (by simp))
    | _ => exact absurd (show false = true from hs) Bool.false_ne_true
  | str i =>
    obtain ⟨t, rfl⟩ := rx
    cases y with
    | non => cases ry; exact PySem.EqNone.ne_str_none (fin_bl I q (by simp))
    | bl j => cases ry; exact PySem.EqMixed.ne_str_bool (fin_bl I q (by simp))
    | int j => obtain ⟨t', rfl⟩ := ry; exact PySem.EqMixed.ne_str_int (fin_bl I q (by simp))
    | str j => obtain ⟨t', rfl⟩ := ry; exact ne_str (fin_bl I q (congrArg not dec_str))
    | _ => exact absurd (show false = true from hs) Bool.false_ne_true
  | byt i =>
    obtain ⟨t, rfl⟩ := rx
    cases y with
    | byt j => obtain ⟨t', rfl⟩ := ry; exact PySem.W.ne_bytes (fin_bl I q (congrArg not dec_byt))
    | _ => exact absurd (show false = true from hs) Bool.false_ne_true
  | _ => cases y <;> exact absurd (show false = true from hs) Bool.false_ne_true
theorem op_lt : OpR X (compareOp .Lt) (rI0 fun i j => .bl (decide (i < j))) := opB0 fun _ _ _ _ _ _ _ q => lt_int q
theorem op_le : OpR X (compareOp .LtE) (rI0 fun i j => .bl (decide (i ≤ j))) := opB0 fun _ _ _ _ _ _ _ q => le_int q
theorem op_gt : OpR X (compareOp .Gt) (rI0 fun i j => .bl (decide (j < i))) := opB0 fun _ _ _ _ _ _ _ q => gt_int q
theorem op_ge : OpR X (compareOp .GtE) (rI0 fun i j => .bl (decide (j ≤ i))) := opB0 fun _ _ _ _ _ _ _ q => ge_int q
theorem nomark (b : Expr) {op : CmpOp} (h : op ≠ .In := by decide) (h2 : op ≠ .NotIn := by decide) : behindInMarks op b = false := by
  have e1 : (op == CmpOp.In) = false := by cases op <;> first | rfl | exact absurd rfl h
  have e2 : (op == CmpOp.NotIn) = false := by cases op <;> first | rfl | exact absurd rfl h2
  cases b <;> simp [behindInMarks, e1, e2]
theorem pe_cmpR {op : CmpOp} {r : R2} (ho : OpR X (compareOp op) r) (ha : PE X a ta) (hb : PE X b tb) (hm : behindInMarks op b = false) : PE X (.Compare a [op] [b] pos) (tOp r ta tb) := by
  intro pins s σ H Q I h
  exact wpAny_Compare1 (binT ha hb I h fun v u s2 x y H2 I2 rx ry q => ho pins s2 σ H2 x y v u Q I2 rx ry q) hm
def tTest (t : TE) : TT := fun σ H Q => t σ H fun x H' => ∃ k, x = .bl k ∧ Q k H'
theorem pt_cmpR {op : CmpOp} {r : R2} (ho : OpR X (compareOp op) r) (ha : PE X a ta) (hb : PE X b tb) (hm : behindInMarks op b = false) : PT X (.Compare a [op] [b] pos) (tTest (tOp r ta tb)) := by
  intro pins s σ H Q I h
  refine wpAny_isTrue_Compare1 (thn (ha pins s σ H _ I h) fun v s1 ⟨x, H1, I1, r1, q1⟩ => thn (hb pins s1 σ H1 _ I1 q1) fun u s2 ⟨y, H2, I2, r2, q2⟩ =>
    thn (ho pins s2 σ H2 x y v u _ I2 r1 r2 q2) fun c s3 ⟨z, H3, I3, r3, k, e, q3⟩ => ?_) hm
  subst e
  cases r3
  exact wpAny_truthy_bool ⟨H3, I3, q3⟩
theorem line63 : (sizeLine : Nat) < 2 ^ 63 := by rw [sizeLine_eq]; decide
theorem op_add_str : OpR X (binaryOp .Add) (fun x y H Q => ∃ i j, x = .str i ∧ y = .str j ∧ i.length + j.length ≤ sizeLine ∧ Q (.str (i ++ j)) H) := by
  intro pins s σ H x y v u Q I rx ry h
  obtain ⟨i, j, rfl, rfl, hz, q⟩ := h
  obtain ⟨t, rfl⟩ := rx
  obtain ⟨t', rfl⟩ := ry
  exact add_str (fun t' tk => ⟨.str (i ++ j), H, I.tok _, ⟨_, rfl⟩, q⟩) hz
theorem vals1 {x : V} {us : List Value} (r : Vals [x] us) : ∃ u, us = [u] ∧ RelV x u := by
  cases r with
  | cons r1 r2 => cases r2; exact ⟨_, rfl, r1⟩
theorem vals2 {x y : V} {us : List Value} (r : Vals [x, y] us) : ∃ u w', us = [u, w'] ∧ RelV x u ∧ RelV y w' := by
  cases r with
  | cons r1 r2 =>
    cases r2 with
    | cons r3 r4 => cases r4; exact ⟨_, _, rfl, r1, r3⟩
theorem call_abs : CallR X (.builtin "abs") (fun xs H Q => ∃ i, xs = [.int i] ∧ Q (.int (if i < 0 then -i else i)) H) := by
  intro pins s σ H xs us Q I r h
  obtain ⟨i, rfl, q⟩ := h
  obtain ⟨u, rfl, t, rfl⟩ := vals1 r
  exact call_abs_int fun u tk => ⟨.int (if i < 0 then -i else i), H, I.tok _, ⟨_, rfl⟩, q⟩
theorem call_max2 (hc : X.calm = true) : CallR X (.builtin "max") (fun xs H Q => ∃ i j, xs = [.int i, .int j] ∧ Q (.int (if j > i then j else i)) H) := by
  intro pins s σ H xs us Q I r h
  obtain ⟨i, j, rfl, q⟩ := h
  obtain ⟨u, w', rfl, ⟨t, rfl⟩, ⟨t', rfl⟩⟩ := vals2 r
  refine max_two_ints (I.ok.hd hc) fun h' tk k => ⟨_, H, I.kept k, ?_, q⟩
  by_cases hj : j > i
  · rw [if_pos hj, if_pos hj]; exact ⟨_, rfl⟩
  · rw [if_neg hj, if_neg hj]; exact ⟨_, rfl⟩
theorem call_min2 (hc : X.calm = true) : CallR X (.builtin "min") (fun xs H Q => ∃ i j, xs = [.int i, .int j] ∧ Q (.int (if j < i then j else i)) H) := by
  intro pins s σ H xs us Q I r h
  obtain ⟨i, j, rfl, q⟩ := h
  obtain ⟨u, w', rfl, ⟨t, rfl⟩, ⟨t', rfl⟩⟩ := vals2 r
  refine min_two_ints (I.ok.hd hc) fun h' tk k => ⟨_, H, I.kept k, ?_, q⟩
  by_cases hj : j < i
  · rw [if_pos hj, if_pos hj]; exact ⟨_, rfl⟩
  · rw [if_neg hj, if_neg hj]; exact ⟨_, rfl⟩
theorem call_int1 : CallR X (.type "int") (fun xs H Q => (∃ i, xs = [.int i] ∧ Q (.int i) H) ∨ ∃ k, xs = [.bl k] ∧ Q (.int (if k then 1 else 0)) H) := by
  intro pins s σ H xs us Q I r h
  rcases h with ⟨i, rfl, q⟩ | ⟨k, rfl, q⟩
  · obtain ⟨u, rfl, t, rfl⟩ := vals1 r
    exact call_int_int ⟨.int i, H, I, ⟨_, rfl⟩, q⟩
  · obtain ⟨u, rfl, r1⟩ := vals1 r
    cases r1
    exact call_int_bool ⟨.int (if k then 1 else 0), H, I.tok _, ⟨_, rfl⟩, q⟩
end
end L2
namespace L2
open PySem PySem.Spec PyProof.Rows
structure ObjM (h : Heap) (x dx C : Addr) (mA : Str → Option Value) : Prop where
  obj : h.get? x = some (PySem.W.instObj C dx)
  ns : h.Ns1 dx mA
  ne : dx ≠ x
theorem lookIn_ns {h : Heap} {dx : Addr} {mA : Str → Option Value} (n : h.Ns1 dx mA) : ∃ od, h.get? dx = some od ∧ ∀ name, PySem.W.lookIn name od = some (mA name) := by
  obtain ⟨o, es, ep, ho, hd, hk, _, hm⟩ := n
  refine ⟨o, ho, fun name => ?_⟩
  have e := hm name
  unfold nsFind findBy at e
  rw [← Array.find?_toList] at e
  unfold PySem.W.lookIn
  rw [hd]
  dsimp only
  split
  · rename_i y q
    rw [q] at e
    exact congrArg some e
  · rename_i q
    rw [q] at e
    have a : es.toList.any (·.refKey) = false := by
      rw [List.any_eq_false]
      intro y hy
      obtain ⟨z, t, hkey⟩ := hk y (Array.mem_toList_iff.mp hy)
      simp [DictEntry.refKey, hkey]
    have a' : ¬ es.toList.any (·.refKey) = true := by rw [a]; exact Bool.false_ne_true
    rw [if_neg a']
    exact congrArg some e
theorem ObjM.look {h : Heap} {x dx C : Addr} {mA : Str → Option Value} (I : ObjM h x dx C mA) : ∃ od, PySem.W.InstAt h x (PySem.W.instObj C dx) C (some od) ∧ ∀ name, PySem.W.lookIn name od = some (mA name) :=
  let ⟨od, ho, hl⟩ := lookIn_ns I.ns
  ⟨od, ⟨I.obj, rfl, rfl, ho⟩, hl⟩
section
variable {prog : Program} {w : World} {A : Around} {E : Value → Shared → Prop} {s : Shared} {K : PySem.W.Frag} {x dx C f : Addr} {mA : Str → Option Value} {name : Str} {v : Value}
theorem get_map {expr : Bool} {Q : Value → Shared → Prop} (X : K.In s.heap) (I : ObjM s.heap x dx C mA) (hg : PySem.W.plainGet K C name = true) (hh : PySem.W.hasDictIn K C = true)
    (ha : PySem.W.findIn K (.ref C) name = some none) (hv : mA name = some v) (hv' : PySem.W.handedIn v = true) (h : Q v { s with toks := s.toks + 1 }) :
    wpAny (model prog w) A (getAttr (.ref x) name expr) Q E s := by
  obtain ⟨od, J, hl⟩ := I.look
  exact PySem.W.get_value X J (PySem.W.plainGet_of hg).1 (PySem.W.findObj_own hh ha rfl (by rw [hl, hv])) hv' h
theorem get_meth {pl : Sem Bool} {Q : Value × List Value → Shared → Prop} (X : K.In s.heap) (I : ObjM s.heap x dx C mA) (hg : PySem.W.plainGet K C name = true)
    (hf : PySem.W.findIn K (.ref C) name = some (some (.ref f))) (ht : PySem.W.isFn K (.ref f) = true) (hv : mA name = none) (h : Q (.ref f, [.ref x]) s) :
    wpAny (model prog w) A (getMethod (.ref x) name pl) Q E s := by
  obtain ⟨od, J, hl⟩ := I.look
  exact PySem.W.method_fn X J (PySem.W.plainGet_of hg).1 (PySem.W.plainGet_of hg).2 hf (beq_iff_eq.mp ht) (by show (PySem.W.lookIn name od).map (·.isSome) = some false; rw [hl, hv]; rfl) h
theorem set_map {ns : List Str} {Q : Unit → Shared → Prop} (X : K.In s.heap) (I : ObjM s.heap x dx C mA)
    (hs : PySem.W.findIn K (.ref C) "__setattr__" = some (some (.builtin "object.__setattr__"))) (hp : PySem.W.plainOver K C = true) (ht : PySem.W.takerIn K C name = some none) (hh : PySem.W.hasDictIn K C = true)
    (hw : PySem.Within mA ns) (hsz : ns.length ≤ sizeLine)
    (h : ∀ h', ObjM h' x dx C (fun y => if y = name then some v else mA y) → Heap.SameBut dx s.heap h' → Q () { s with heap := h', toks := s.toks + 2 }) :
    wpAny (model prog w) A (setAttr (.ref x) name v) Q E s := by
  obtain ⟨od, J, hl⟩ := I.look
  refine PySem.W.set_plain X J hs (PySem.W.osa_open (s := { s with toks := s.toks + 1 }) (r := none) X J hp ht fun b => ?_)
  obtain ⟨cd, hc, hd'⟩ := PySem.W.any_some hh
  have hx : s.heap.get? x = some ⟨.ref C, some dx, .plain, #[]⟩ := I.obj
  refine wpAny_bind (wpAny_pure (wpAny_bind (wpAny_bind (wpAny_loadPart hx (wpAny_bind (PySem.W.Looks.here (s := { s with toks := s.toks + 1 }) (PySem.W.looks_clsIn X hc) ?_))))))
  rw [hd']
  refine wpAny_pure (a := some dx) (wpAny_bind (wpAny_pure (wpAny_bind ?_)))
  refine wpAny_nsSet1 (s := { s with toks := s.toks + 1 }) I.ns fun h' hn2 hs2 => ?_
  obtain ⟨oD, esD, epD, hoD, hdD, hcD⟩ := hn2.count (PySem.Within.cons name v hw)
  refine wpAny_bind (wpAny_lookBehind hoD (by rw [hdD]; exact pastItsLine_dict (Nat.le_trans hcD (by rw [List.length_cons]; omega))) ?_)
  exact wpAny_pure (h _ ⟨(hs2.2 _ (Ne.symm I.ne)).trans I.obj, hn2, I.ne⟩ hs2)
theorem make_map {R : Result → Shared → Prop} {vs : List Value} {kw : List (Str × Value)} (X : K.In s.heap) (hm : PySem.W.makesIn K C = true)
    (hi : PySem.W.findIn K (.ref C) "__init__" = some (some (.ref f))) (hf : PySem.W.typeIn K (.ref f) = some (.type "function"))
    (h : codeAny (model prog w) (A.under (.builtin "type.__call__" ⟨.ref C :: vs, kw⟩)) (.call (.ref f) ⟨.ref (s.heap.objs.size + 1) :: vs, kw⟩) (PySem.W.InitBack (s.heap.objs.size + 1) R)
      { s with heap := (s.heap.push PySem.W.emptyDict).push (PySem.W.instObj C s.heap.objs.size) }) :
    codeAny (model prog w) A (.call (.ref C) ⟨vs, kw⟩) R s := by
  obtain ⟨hh, g, d, t, os⟩ := s
  exact PySem.W.make_core (PySem.W.makes_of X hm) (PySem.W.looks_findIn X hi) (fun self => PySem.W.bind_fn X self hf) (.inl rfl) h
end
def putF (f : Str) (v : V) : List (Str × V) → List (Str × V)
  | [] => [(f, v)]
  | (g, x) :: r => if g = f then (g, v) :: r else (g, x) :: putF f v r
theorem lookup_putF (f g : Str) (v : V) : ∀ fs : List (Str × V), (putF f v fs).lookup g = if g = f then some v else fs.lookup g
  | [] => by
    show List.lookup g [(f, v)] = _
    by_cases h : g = f
    · have hb : (g == f) = true := beq_iff_eq.mpr h
      simp only [List.lookup, hb, if_pos h]
    · have hb : (g == f) = false := beq_eq_false_iff_ne.mpr h
      simp only [List.lookup, hb, if_neg h]
  | (k, x) :: r => by
    have ih := lookup_putF f g v r
    rw [show putF f v ((k, x) :: r) = (if k = f then (k, v) :: r else (k, x) :: putF f v r) from rfl]
    by_cases hk : k = f
    · rw [if_pos hk]
      by_cases h : g = k
      · have hb : (g == k) = true := beq_iff_eq.mpr h
        simp only [List.lookup, hb, if_pos (h.trans hk)]
      · have hb : (g == k) = false := beq_eq_false_iff_ne.mpr h
        simp only [List.lookup, hb, if_neg (fun e : g = f => h (e.trans hk.symm))]
    · rw [if_neg hk]
      by_cases h : g = k
      · have hb : (g == k) = true := beq_iff_eq.mpr h
        simp only [List.lookup, hb, if_neg (fun e : g = f => hk (h.symm.trans e))]
      · have hb : (g == k) = false := beq_eq_false_iff_ne.mpr h
        simp only [List.lookup, hb]
        exact ih
theorem keys_putF (f : Str) (v : V) : ∀ fs : List (Str × V), f ∈ (putF f v fs).map (·.1) ∧ ∀ g, g ∈ fs.map (·.1) → g ∈ (putF f v fs).map (·.1)
  | [] => ⟨by simp [putF], fun g h => by simp at h⟩
  | (k, x) :: r => by
    obtain ⟨i1, i2⟩ := keys_putF f v r
    rw [show putF f v ((k, x) :: r) = (if k = f then (k, v) :: r else (k, x) :: putF f v r) from rfl]
    by_cases hk : k = f
    · rw [if_pos hk]
      subst hk
      exact ⟨by simp, fun g h => by simpa using h⟩
    · rw [if_neg hk]
      refine ⟨?_, fun g h => ?_⟩
      · rw [List.map_cons]
        exact List.mem_cons_of_mem _ i1
      · rw [List.map_cons] at h ⊢
        rcases List.mem_cons.mp h with e | e
        · exact List.mem_cons.mpr (.inl e)
        · exact List.mem_cons_of_mem _ (i2 g e)
theorem length_putF (f : Str) (v : V) : ∀ fs : List (Str × V), (putF f v fs).length ≤ fs.length + 1
  | [] => by simp [putF]
  | (k, x) :: r => by
    have ih := length_putF f v r
    rw [show putF f v ((k, x) :: r) = (if k = f then (k, v) :: r else (k, x) :: putF f v r) from rfl]
    by_cases hk : k = f
    · rw [if_pos hk, List.length_cons, List.length_cons]; omega
    · rw [if_neg hk, List.length_cons, List.length_cons]; omega
theorem RelO.some_of {v : V} {o : Option Value} (r : RelO (some v) o) : ∃ u, o = some u ∧ RelV v u := by
  cases o with
  | none => exact (show False from r).elim
  | some u => exact ⟨u, rfl, r⟩
theorem RelO.none_of {o : Option Value} (r : RelO none o) : o = none := by
  cases o with
  | none => rfl
  | some u => exact (show False from r).elim
theorem handed_of {v : V} {u : Value} (r : RelV v u) : PySem.W.handedIn u = true := by
  cases v with
  | non => cases (show u = Value.none from r); rfl
  | bl b => cases (show u = Value.bool b from r); rfl
  | int i => obtain ⟨t, e⟩ := (show ∃ t, u = Value.int i t from r); cases e; rfl
  | str x => obtain ⟨t, e⟩ := (show ∃ t, u = Value.str x t from r); cases e; rfl
  | byt b => obtain ⟨t, e⟩ := (show ∃ t, u = Value.bytes b t from r); cases e; rfl
  | flt b => obtain ⟨t, e⟩ := (show ∃ t, u = Value.float b t from r); cases e; rfl
  | ref a => cases (show u = Value.ref a from r); rfl
  | ty n => cases (show u = Value.type n from r); rfl
section
variable {P : Program} {w : World} {H H' : Hp} {h h' : Heap} {a C dx : Addr} {fs fs' : List (Str × V)}
theorem ins_get (hok : HOk P w H h) (e : H a = some (.ins C dx fs)) : ∃ mA, ObjM h a dx C mA ∧ (∀ f, RelO (fs.lookup f) (mA f)) ∧ PySem.Within mA (fs.map (·.1)) ∧ fs.length ≤ 1000 ∧ H dx = some (.own a) := by
  obtain ⟨d, z, ne, ob, mA, n, r, q⟩ := (show ObjOk P w H h a (.ins C dx fs) from hok a _ e)
  exact ⟨mA, ⟨ob, n, ne⟩, r, q, z, d⟩
end
structure Cls (K : PySem.W.Frag) (C : Addr) : Prop where
  pg : PySem.W.plainGet K C Str.empty = true
  hd : PySem.W.hasDictIn K C = true
  po : PySem.W.plainOver K C = true
  sa : PySem.W.findIn K (.ref C) "__setattr__" = some (some (.builtin "object.__setattr__"))
theorem Cls.get {K : PySem.W.Frag} {C : Addr} (c : Cls K C) (f : Str) : PySem.W.plainGet K C f = true := c.pg
def NoAttr (K : PySem.W.Frag) (C : Addr) (f : Str) : Prop := PySem.W.findIn K (.ref C) f = some none
theorem NoAttr.taker {K : PySem.W.Frag} {C : Addr} {f : Str} (n : NoAttr K C f) : PySem.W.takerIn K C f = some none := by
  unfold PySem.W.takerIn
  rw [show PySem.W.findIn K (.ref C) f = some none from n]
  rfl
structure Meth (K : PySem.W.Frag) (C : Addr) (m : Str) (f : Addr) : Prop where
  at_ : PySem.W.findIn K (.ref C) m = some (some (.ref f))
  fn : PySem.W.isFn K (.ref f) = true
  kp : PySem.W.keepIn K (.ref f) = true
section
variable {X : Cx} {pins : List (Addr × Obj)} {σ : St} {H : Hp} {s : Shared} {a C dx : Addr} {fs : List (Str × V)} {f : Str} {v : V} {A : Around} {E : Value → Shared → Prop}
theorem getattr_ok {b : Bool} {Q : Value → Shared → Prop} (I : Inv X pins σ H s) (e : H a = some (.ins C dx fs)) (c : Cls X.K C) (n : NoAttr X.K C f) (l : fs.lookup f = some v)
    (h : ∀ u s', Inv X pins σ H s' → RelV v u → Q u s') : wpAny (model X.prog X.w) A (getAttr (.ref a) f b) Q E s := by
  obtain ⟨mA, O, r, _, _, _⟩ := ins_get I.hok e
  obtain ⟨u, hu, ru⟩ := RelO.some_of (v := v) (o := mA f) (by rw [← l]; exact r f)
  exact get_map I.kIn O (c.get f) c.hd n hu (handed_of ru) (h u _ (I.tok _) ru)
theorem getmeth_ok {m : Str} {g : Addr} {pl : Sem Bool} {Q : Value × List Value → Shared → Prop} (I : Inv X pins σ H s) (e : H a = some (.ins C dx fs)) (c : Cls X.K C) (k : Meth X.K C m g) (l : fs.lookup m = none)
    (h : Q (.ref g, [.ref a]) s) : wpAny (model X.prog X.w) A (getMethod (.ref a) m pl) Q E s := by
  obtain ⟨mA, O, r, _, _, _⟩ := ins_get I.hok e
  have hn : mA m = none := RelO.none_of (by rw [← l]; exact r m)
  exact get_meth I.kIn O (c.get m) k.at_ k.fn hn h
theorem setattr_ok {y : V} {u : Value} {Q : Unit → Shared → Prop} (I : Inv X pins σ H s) (e : H a = some (.ins C dx fs)) (c : Cls X.K C) (n : NoAttr X.K C f) (hl : fs.length < 1000) (ry : RelV y u)
    (h : ∀ s', Inv X pins σ (upd H a (.ins C dx (putF f y fs))) s' → Q () s') : wpAny (model X.prog X.w) A (setAttr (.ref a) f u) Q E s := by
  obtain ⟨mA, O, r, wi, _, ho⟩ := ins_get I.hok e
  have hz : (fs.map (·.1)).length ≤ sizeLine := by rw [List.length_map, sizeLine_eq]; omega
  refine set_map I.kIn O c.sa c.po n.taker c.hd wi hz fun h' O' sb => h _ ?_
  have hd : ∃ o, h'.get? dx = some o := let ⟨o, _, _, e', _⟩ := O'.ns; ⟨o, e'⟩
  refine I.write (x := a) (e := dx) (by rw [e]; exact True.intro) (.inr ho) (fun b q hb z => (sb.2 b hb).trans z) hd ?_
  refine ⟨by rw [upd_ne O.ne]; exact ho, ?_, O.ne, O'.obj, _, O'.ns, fun g => ?_, fun g hg => ?_⟩
  · have := length_putF f y fs; omega
  · show RelO ((putF f y fs).lookup g) (if g = f then some u else mA g)
    rw [lookup_putF]
    by_cases q : g = f
    · rw [if_pos q, if_pos q]; exact ry
    · rw [if_neg q, if_neg q]; exact r g
  · by_cases q : g = f
    · rw [q]; exact (keys_putF f y fs).1
    · refine (keys_putF f y fs).2 g (wi g fun z => hg ?_)
      show (if g = f then some u else mA g) = none
      rw [if_neg q]; exact z
theorem Inv.made (I : Inv X pins σ H s) : Inv X pins σ (upd (upd H s.heap.objs.size (.own (s.heap.objs.size + 1))) (s.heap.objs.size + 1) (.ins C s.heap.objs.size []))
    { s with heap := (s.heap.push PySem.W.emptyDict).push (PySem.W.instObj C s.heap.objs.size) } := by
  have e1 : (s.heap.push PySem.W.emptyDict).get? s.heap.objs.size = some PySem.W.emptyDict := Heap.get?_push_size s.heap rfl
  have e2 : ((s.heap.push PySem.W.emptyDict).push (PySem.W.instObj C s.heap.objs.size)).get? (s.heap.objs.size + 1) = some (PySem.W.instObj C s.heap.objs.size) := by
    have := Heap.get?_push_size (s.heap.push PySem.W.emptyDict) (o := PySem.W.instObj C s.heap.objs.size) rfl
    rwa [Heap.size_push] at this
  have e3 : (s.heap.push PySem.W.emptyDict).Ns s.heap.objs.size (fun _ => none) := ⟨PySem.W.emptyDict, #[], _, e1, rfl, (fun e he => absurd he (by simp)), fun _ => rfl⟩
  have I1 := I.laid (a := s.heap.objs.size) (o := .own (s.heap.objs.size + 1)) (h' := s.heap.push PySem.W.emptyDict) (t' := s.toks) (fun b u q => Heap.get?_push_of_some _ q) (Nat.le_refl _) ⟨_, e1⟩
  refine I1.laid (a := s.heap.objs.size + 1) (o := .ins C s.heap.objs.size []) (t' := s.toks) (fun b u q => Heap.get?_push_of_some _ q) (Nat.le_of_eq (Heap.size_push _ _)) ?_
  have ne : s.heap.objs.size ≠ s.heap.objs.size + 1 := Nat.ne_of_lt (Nat.lt_succ_self _)
  refine ⟨by rw [upd_ne ne, upd_same], Nat.zero_le _, ne, e2, fun _ => none, (Heap.Ns1.of_empty e3).at fun o q => Heap.get?_push_of_some _ q, fun _ => True.intro, fun y hy => absurd rfl hy⟩
theorem attr_of {prog : Program} {w : World} {env : Env} {e : Expr} {f : Str} {pos : Pos} {s : Shared} {Q : Value → Shared → Prop} (hb : attributeBase e f env (eval e env) = eval e env)
    (h : wpAny (model prog w) A (eval e env) (fun o s₁ => wpAny (model prog w) A (getAttr o f true) Q E s₁) E s) : wpAny (model prog w) A (eval (.Attribute e f pos) env) Q E s :=
  Attribute_any_ h (by rw [arm_eval_Attribute, hb])
end
def tFld (K : PySem.W.Frag) (ta : TE) (f : Str) : TE := fun σ H Q => ta σ H fun x H1 => ∃ a C dx fs v, x = .ref a ∧ H1 a = some (.ins C dx fs) ∧ Cls K C ∧ NoAttr K C f ∧ fs.lookup f = some v ∧ Q v H1
def sFld (K : PySem.W.Frag) (ta tv : TE) (f : Str) : TS := fun D σ H => tv σ H fun y H1 => ta σ H1 fun x H2 => ∃ a C dx fs, x = .ref a ∧ H2 a = some (.ins C dx fs) ∧ Cls K C ∧ NoAttr K C f ∧ fs.length < 1000 ∧
  D.nx σ (upd H2 a (.ins C dx (putF f y fs)))
section
variable {X : Cx} {o e value : Expr} {f : Str} {pos pos' tpos : Pos} {ta tv : TE}
theorem pe_fld (he : PE X e ta) (hb : attributeBase e f X.env (eval e X.env) = eval e X.env) : PE X (.Attribute e f pos) (tFld X.K ta f) := by
  intro pins s σ H Q I h
  refine attr_of hb (thn (he pins s σ H _ I h) fun u s1 ⟨x, H1, I1, rx, a, C, dx, fs, v, ex, ea, c, n, l, q⟩ => ?_)
  subst ex
  obtain rfl : u = Value.ref a := rx
  exact getattr_ok I1 ea c n l fun u' s2 I2 ru => ⟨v, H1, I2, ru, q⟩
theorem ps_fld (ha : PE X o ta) (hv : PE X value tv) (hs : swapsWith value (some (.Attribute o f pos')) pos.line X.env = pure false) : PS X (.Assign [.Attribute o f pos'] value pos) (sFld X.K ta tv f) := by
  intro pins s σ H D I h
  refine plainObj_wpAny_Assign_Attribute (thn (hv pins s σ H _ I h) fun u s1 ⟨y, H1, I1, ry, q⟩ => thn (ha pins s1 σ H1 _ I1 q) fun ov s2 ⟨x, H2, I2, rx, a, C, dx, fs, ex, ea, c, n, l, q2⟩ => ?_) hs
  subst ex
  obtain rfl : ov = Value.ref a := rx
  exact setattr_ok I2 ea c n l ry fun s3 I3 => ⟨σ, _, I3, q2⟩
end
section
variable {X : Cx} {pins : List (Addr × Obj)} {σ : St} {H : Hp} {s : Shared} {A : Around} {E : Value → Shared → Prop} {Q : Value → Shared → Prop} {c : Value} {b : Bool}
end
end L2
namespace L2
open PySem PySem.Spec PyProof.Rows
structure Room (k : Nat) (A : Around) : Prop where
  hd : A.handled = none
  dp : A.depth + 3 * k + 5 < recursionLimit
  un : A.units + 16 * k + 200 < cLine
theorem Room.mono {j k : Nat} {A : Around} (r : Room k A) (h : j ≤ k) : Room j A := ⟨r.hd, by have := r.dp; omega, by have := r.un; omega⟩
theorem Room.deeper {k : Nat} {A : Around} (r : Room (k + 1) A) (env : Env) : Room k (A.deeper env) :=
  ⟨r.hd, by have := r.dp; show A.depth + 1 + 3 * k + 5 < _; omega, by have := r.un; show A.units + 3 + 16 * k + 200 < _; omega⟩
theorem make_depth {A : Around} {C : Addr} {us : List Value} {kw : List (Str × Value)} : (A.under (.builtin "type.__call__" ⟨.ref C :: us, kw⟩)).depth = A.depth + 1 := by
  first | rfl | simp [Around.under, Code.weight, Code.isCreation, Code.isGuard, Code.isCaller, Code.frames, Code.isFrame, guardIds]
theorem make_units {A : Around} {C : Addr} {us : List Value} {kw : List (Str × Value)} : (A.under (.builtin "type.__call__" ⟨.ref C :: us, kw⟩)).units = A.units + 1 := by
  first | rfl | simp [Around.under, Code.cUnits, Code.frames, Code.isFrame]
theorem Room.make {k : Nat} {A : Around} (r : Room (k + 1) A) (C : Addr) (us : List Value) (kw : List (Str × Value)) : Room k (A.under (.builtin "type.__call__" ⟨.ref C :: us, kw⟩)) :=
  ⟨r.hd, by have := r.dp; rw [make_depth]; omega, by have := r.un; rw [make_units]; omega⟩
theorem Room.depth {k : Nat} {A : Around} (r : Room k A) : A.depth < recursionLimit := by have := r.dp; omega
theorem Room.units {k : Nat} {A : Around} (r : Room k A) : A.units + 64 < cLine := by have := r.un; omega
def tNil : TA := fun _ H Q => Q [] H
def tCons (ta : TE) (tr : TA) : TA := fun σ H Q => ta σ H fun x H1 => tr σ H1 fun xs H2 => Q (x :: xs) H2
section
variable {X : Cx} {e : Expr} {es : List Expr} {te : TE} {t : TA} {pos : Pos}
theorem pa_nil : PA X [] tNil := fun _ _ _ _ H Q I h => Calls.spliced_nil ⟨[], H, I, .nil, h⟩
theorem pa_cons (ha : PE X e te) (hr : PA X es t) (hs : starEach (e :: es) X.env = (false, eval e X.env) :: starEach es X.env := by rfl) : PA X (e :: es) (tCons te t) := by
  intro pos pins s σ H Q I h
  rw [hs]
  show wpAny _ _ (spliced ((false, eval e X.env) :: backTo pos (starEach es X.env))) _ _ s
  refine Calls.spliced_cons (thn (ha pins s σ H _ I h) fun u s1 ⟨x, H1, I1, r1, q1⟩ => ?_)
  exact thn (hr pos pins s1 σ H1 _ I1 q1) fun us s2 ⟨xs, H2, I2, r2, q2⟩ => ⟨x :: xs, H2, I2, .cons r1 r2, q2⟩
def tTup (t : TA) : TE := fun σ H Q => t σ H fun xs H1 => xs.length ≤ sizeLine ∧ ∀ p, H1 p = none → Q (.ref p) (upd H1 p (.tup xs))
def tLst (t : TA) : TE := fun σ H Q => t σ H fun xs H1 => xs.length ≤ sizeLine ∧ ∀ p, H1 p = none → Q (.ref p) (upd H1 p (.lst xs))
theorem pe_tup {x1} (h : PA X es t) : PE X (.Tuple es x1 pos) (tTup t) := by
  intro pins s σ H Q I hq
  refine wpAny_Tuple_spliced (thn (h pos pins s σ H _ I hq) fun us s1 ⟨xs, H1, I1, r, z, q⟩ => ⟨by rw [← r.length]; exact z, ?_⟩)
  have hf : H1 s1.heap.objs.size = none := I1.hok.fresh (Nat.le_refl _)
  refine ⟨.ref s1.heap.objs.size, upd H1 s1.heap.objs.size (.tup xs), I1.laid (t' := s1.toks) (fun b u e => Heap.get?_push_of_some _ e) (Nat.le_refl _) ?_, rfl, q _ hf⟩
  exact ⟨z, us, r, ⟨_, Heap.get?_push_size _ rfl, rfl, _, rfl⟩⟩
theorem pe_lst (h : PA X es t) : PE X (.List es pos) (tLst t) := by
  intro pins s σ H Q I hq
  refine wpAny_List_spliced (thn (h pos pins s σ H _ I hq) fun us s1 ⟨xs, H1, I1, r, z, q⟩ => ⟨by rw [← r.length]; exact z, ?_⟩)
  have hf : H1 s1.heap.objs.size = none := I1.hok.fresh (Nat.le_refl _)
  refine ⟨.ref s1.heap.objs.size, upd H1 s1.heap.objs.size (.lst xs), I1.laid (t' := s1.toks) (fun b u e => Heap.get?_push_of_some _ e) (Nat.le_refl _) ?_, rfl, q _ hf⟩
  exact ⟨z, us, 0, r, Heap.get?_push_size _ rfl⟩
end
abbrev Sp := List V → Hp → VK → XK → Prop
abbrev CXT := List Env → Hp → Shared → XK → Value → Shared → Prop
structure Env0 (P : Program) (w : World) (K : PySem.W.Frag) (mg : Str → Option Value) (base : Heap) (A : Around) (outer : List Env) (s : Shared) (H : Hp) : Prop where
  frames : A.frames = some outer
  mod : Mod K mg base
  bs : ∀ b o, base.get? b = some o → s.heap.get? b = some o ∧ H b = none
  bsz : base.objs.size ≤ s.heap.objs.size
  funs : s.heap.FunFrames base outer
  frf : ∀ b ∈ frs outer, H b = none
  hok : HOk P w H s.heap
  bare : AllBare s.gens
def CE (outer : List Env) (P : Program) (w : World) (H : Hp) (s : Shared) (Q : VK) (u : Value) (s' : Shared) : Prop :=
  ∃ v H', s'.os = s.os ∧ AllBare s'.gens ∧ Un (frs outer) [] H H' s.heap s'.heap ∧ HOk P w H' s'.heap ∧ RelV v u ∧ Q v H'
def CR (CX : CXT) (outer : List Env) (P : Program) (w : World) (H : Hp) (s : Shared) (Q : VK) (E : XK) (r : Result) (s' : Shared) : Prop :=
  match r with
  | .ok (.ret u) => CE outer P w H s Q u s'
  | .ok _ => False
  | .error e => CX outer H s E e s'
structure FnOk (P : Program) (w : World) (K : PySem.W.Frag) (mg : Str → Option Value) (base : Heap) (CX : CXT) (k : Nat) (f : Addr) (fd : FuncData) (ps : List Str) (sp : Sp) : Prop where
  len : ∀ vs H Q E, sp vs H Q E → vs.length = ps.length
  run : ∀ (A : Around) (outer : List Env) (s : Shared) (H : Hp) (args : Args) (us : List Value) (vs : List V) (Q : VK) (E : XK), Room k A → Env0 P w K mg base A outer s H → BindsTo s fd args (ps.zip us) → Vals vs us → sp vs H Q E →
    codeAny (model P w) A (.call (.ref f) args) (CR CX outer P w H s Q E) s
theorem Env0.make {P : Program} {w : World} {K : PySem.W.Frag} {mg : Str → Option Value} {base : Heap} {A : Around} {outer : List Env} {s : Shared} {H : Hp} (e : Env0 P w K mg base A outer s H) (C : Addr) (us : List Value) (kw : List (Str × Value)) :
    Env0 P w K mg base (A.under (.builtin "type.__call__" ⟨.ref C :: us, kw⟩)) outer s H := ⟨by first | exact e.frames | (simpa [Around.under, Code.envs, Code.isFrame, pushEnvs] using e.frames), e.mod, e.bs, e.bsz, e.funs, e.frf, e.hok, e.bare⟩
section
variable {X : Cx} {pins : List (Addr × Obj)} {σ : St} {H : Hp} {s s' : Shared}
theorem Inv.env0 (I : Inv X pins σ H s) : Env0 X.prog X.w X.K X.mg X.base X.A X.stack s H :=
  ⟨I.ok.frames, I.ok.mod, I.bs, Nat.le_trans I.ok.bsz I.sz, I.stack, I.stkFree, I.hok, I.bare⟩
theorem Inv.after {Q : VK} {u : Value} (I : Inv X pins σ H s) (h : CE X.stack X.prog X.w H s Q u s') : EP X pins σ Q u s' := by
  obtain ⟨v, H', os, bare, un, hok, r, q⟩ := h
  obtain ⟨hh, g, d, t, os'⟩ := s'
  obtain rfl : os' = s.os := os
  exact ⟨v, H', I.call (h' := hh) (g' := g) (d' := d) (t' := t) (ch := []) un hok bare (fun b z => absurd z (by simp)), r, q⟩
end
def tCall (sp : Sp) (dvs : List V) (E : XK) (t : TA) : TE := fun σ H Q => t σ H fun vs H1 => sp (vs ++ dvs) H1 Q E
def tMake (C : Addr) (sp : Sp) (dvs : List V) (E : XK) (t : TA) : TE := fun σ H Q => t σ H fun vs H1 => ∀ x dx, H1 x = none → H1 dx = none → dx ≠ x →
  sp (.ref x :: (vs ++ dvs)) (upd (upd H1 dx (.own x)) x (.ins C dx [])) (fun v H2 => v = .non ∧ Q (.ref x) H2) E
def Binds (K : PySem.W.Frag) (fd : FuncData) (ps : List Str) (ds : List Value) : Prop :=
  ∀ (s : Shared) (us : List Value), K.In s.heap → (us ++ ds).length = ps.length → BindsTo s fd ⟨us, []⟩ (ps.zip (us ++ ds))
theorem Binds.all {K : PySem.W.Frag} {fd : FuncData} {ps : List Str} (h : ∀ us : List Value, us.length = ps.length → bindArgs fd ⟨us, []⟩ = pure (ps.zip us)) : Binds K fd ps [] := fun s us _ hl => by
  rw [List.append_nil] at hl ⊢
  exact .of_eq (h us hl)
def Passes (CX : CXT) (X : Cx) (E : XK) : Prop := ∀ (pins : List (Addr × Obj)) (σ : St) (H : Hp) (s : Shared) (e : Value) (s' : Shared), Inv X pins σ H s → CX X.stack H s E e s' → X.xe e s'
section
variable {X : Cx} {CX : CXT} {k : Nat} {f C : Addr} {fd : FuncData} {ps : List Str} {sp : Sp} {dvs : List V} {ds : List Value} {E : XK} {x m : Str} {p pos apos : Pos} {e o : Expr} {es : List Expr} {ta : TE} {t : TA}
theorem run_fn {pins : List (Addr × Obj)} {σ : St} {H : Hp} {s : Shared} {Q : VK} {us : List Value} {vs : List V} (F : FnOk X.prog X.w X.K X.mg X.base CX k f fd ps sp) (hr : Room k X.A) (hb : Binds X.K fd ps ds) (hd : Vals dvs ds) (hx : Passes CX X E)
    (I : Inv X pins σ H s) (r : Vals vs us) (h : sp (vs ++ dvs) H Q E) : wpAny (model X.prog X.w) X.A (call (.ref f) us) (EP X pins σ Q) X.xe s := by
  have r2 : Vals (vs ++ dvs) (us ++ ds) := r.append hd
  have hl : (us ++ ds).length = ps.length := by rw [← r2.length]; exact F.len _ _ _ _ h
  refine wpAny_call (codeAny_mono (F.run X.A X.stack s H ⟨us, []⟩ (us ++ ds) (vs ++ dvs) Q E hr I.env0 (hb s us I.kIn hl) r2 h) fun r s' hq => ?_)
  cases r with
  | error e => exact hx pins σ H s e s' I hq
  | ok fl =>
    cases fl with
    | ret u => exact I.after hq
    | next => exact False.elim hq
    | brk => exact False.elim hq
    | cont => exact False.elim hq
theorem pe_call (F : FnOk X.prog X.w X.K X.mg X.base CX k f fd ps sp) (hr : Room k X.A) (hg : Gl X x) (hm : X.mg x = some (.ref f)) (hk : PySem.W.keepIn X.K (.ref f) = true) (hb : Binds X.K fd ps ds) (hd : Vals dvs ds) (hx : Passes CX X E)
    (ha : PA X (e :: es) t) (hdb : (x == ("__debug__" : Str)) = false := by decide) (he : starEach (e :: es) X.env = (false, eval e X.env) :: starEach es X.env := by rfl) (hpl : (backTo pos (starEach es X.env)).any (·.1) = false := by rfl) :
    PE X (.Call (.Name x p) (e :: es) [] pos) (tCall sp dvs E t) := by
  intro pins s σ H Q I h
  refine wpAny_Call_Name_kw (ld_glob I hg hm ?_ hdb)
  refine PySem.W.callWith_K (h₀ := X.base) I.ok.mod.kin hk (thn (ha pos pins s σ H _ I h) fun us s1 ⟨vs, H1, I1, r, q⟩ => ⟨I1.kIn, ?_⟩) he hpl
  exact run_fn F hr hb hd hx I1 r q
structure Mk (K : PySem.W.Frag) (C f : Addr) : Prop where
  makes : PySem.W.makesIn K C = true
  init : PySem.W.findIn K (.ref C) "__init__" = some (some (.ref f))
  fn : PySem.W.isFn K (.ref f) = true
  kp : PySem.W.keepIn K (.ref C) = true
theorem run_make {pins : List (Addr × Obj)} {σ : St} {H : Hp} {s : Shared} {Q : VK} {us : List Value} {vs : List V} (M : Mk X.K C f) (F : FnOk X.prog X.w X.K X.mg X.base CX k f fd ps sp) (hr : Room (k + 1) X.A) (hb : Binds X.K fd ps ds) (hd : Vals dvs ds)
    (hx : Passes CX X E) (I : Inv X pins σ H s) (r : Vals vs us)
    (h : ∀ x dx, H x = none → H dx = none → dx ≠ x → sp (.ref x :: (vs ++ dvs)) (upd (upd H dx (.own x)) x (.ins C dx [])) (fun v H2 => v = .non ∧ Q (.ref x) H2) E) :
    wpAny (model X.prog X.w) X.A (call (.ref C) us) (EP X pins σ Q) X.xe s := by
  have hq := h (s.heap.objs.size + 1) s.heap.objs.size (I.hok.fresh (Nat.le_succ _)) (I.hok.fresh (Nat.le_refl _)) (Nat.ne_of_lt (Nat.lt_succ_self _))
  have I2 := Inv.made (C := C) I
  have r2 : Vals (V.ref (s.heap.objs.size + 1) :: (vs ++ dvs)) (Value.ref (s.heap.objs.size + 1) :: (us ++ ds)) := .cons rfl (r.append hd)
  have hl : (Value.ref (s.heap.objs.size + 1) :: us ++ ds).length = ps.length := by
    have e := r2.length
    rw [F.len _ _ _ _ hq] at e
    exact e.symm
  refine wpAny_call (make_map (f := f) I.kIn M.makes M.init (beq_iff_eq.mp M.fn) (codeAny_mono (F.run _ X.stack _ _ ⟨Value.ref (s.heap.objs.size + 1) :: us, []⟩ (Value.ref (s.heap.objs.size + 1) :: (us ++ ds)) _ _ E (hr.make C us [])
    (I2.env0.make C us []) (hb _ (Value.ref (s.heap.objs.size + 1) :: us) I2.kIn hl) r2 hq) fun r s' hq' => ?_))
  cases r with
  | error e => exact hx pins σ _ _ e s' I2 hq'
  | ok fl =>
    cases fl with
    | ret u =>
      obtain ⟨v, H', I3, rv, ev, q3⟩ := I2.after hq'
      subst ev
      exact ⟨rv, ⟨V.ref (s.heap.objs.size + 1), H', I3, rfl, q3⟩⟩
    | next => exact False.elim hq'
    | brk => exact False.elim hq'
    | cont => exact False.elim hq'
theorem pe_make (M : Mk X.K C f) (F : FnOk X.prog X.w X.K X.mg X.base CX k f fd ps sp) (hr : Room (k + 1) X.A) (hg : Gl X x) (hm : X.mg x = some (.ref C)) (hb : Binds X.K fd ps ds) (hd : Vals dvs ds) (hx : Passes CX X E)
    (ha : PA X (e :: es) t) (hdb : (x == ("__debug__" : Str)) = false := by decide) (he : starEach (e :: es) X.env = (false, eval e X.env) :: starEach es X.env := by rfl) (hpl : (backTo pos (starEach es X.env)).any (·.1) = false := by rfl) :
    PE X (.Call (.Name x p) (e :: es) [] pos) (tMake C sp dvs E t) := by
  intro pins s σ H Q I h
  refine wpAny_Call_Name_kw (ld_glob I hg hm ?_ hdb)
  refine PySem.W.callWith_K (h₀ := X.base) I.ok.mod.kin M.kp (thn (ha pos pins s σ H _ I h) fun us s1 ⟨vs, H1, I1, r, q⟩ => ⟨I1.kIn, ?_⟩) he hpl
  exact run_make M F hr hb hd hx I1 r q
end
section
variable {X : Cx} {CX : CXT} {k : Nat} {f C : Addr} {fd : FuncData} {ps ks : List Str} {sp : Sp} {E : XK} {x m : Str} {p pos apos kpos : Pos} {e o : Expr} {es : List Expr} {kws : List Keyword} {te ta : TE} {t tk : TA} {nm : Option Str}
variable {g : List Value → List Value → List Value} {gV : List V → List V → List V}
end
structure FnScope (N P : List Str) (sc : Scope) : Prop where
  kind : sc.kind = .function
  co : sc.isCoroutine = false
  gen : sc.isGenerator = false
  nd : N.Nodup
  pre : N.take P.length = P
  par : ∀ x ∈ P, sc.names.lookup x = some .local ∨ sc.names.lookup x = some .cell
  nofree : ∀ y ∈ sc.names, y.2 ≠ .free
theorem bindL_out {kindOf : Str → Option NameKind} {x : Str} : ∀ {binds : List (Str × Value)} {m : Str → Option Value}, (∀ v, (x, v) ∉ binds) → bindL kindOf binds m x = m x
  | [], _, _ => rfl
  | (n, v) :: r, m, h => by
    unfold bindL
    rw [bindL_out fun w hw => h w (List.mem_cons_of_mem _ hw)]
    split
    · have : x ≠ n := by rintro rfl; exact h v List.mem_cons_self
      simp [this]
    · rfl
theorem bindC_out {kindOf : Str → Option NameKind} {x : Str} : ∀ {binds : List (Str × Value)} {m : Str → Option Value}, (∀ v, (x, v) ∉ binds) → bindC kindOf binds m x = m x
  | [], _, _ => rfl
  | (n, v) :: r, m, h => by
    unfold bindC
    rw [bindC_out fun w hw => h w (List.mem_cons_of_mem _ hw)]
    split
    · rfl
    · have : x ≠ n := by rintro rfl; exact h v List.mem_cons_self
      simp [this]
theorem bindL_get {kindOf : Str → Option NameKind} {x : Str} {v : Value} : ∀ {P : List Str} {vs : List Value} {i : Nat} {m : Str → Option Value}, P.Nodup → P[i]? = some x → vs[i]? = some v → kindOf x = some .local →
    bindL kindOf (P.zip vs) m x = some v
  | [], _, _, _, _, h, _, _ => by simp at h
  | _ :: _, [], _, _, _, _, h, _ => by simp at h
  | p :: P, w :: vs, 0, m, nd, h1, h2, hk => by
    simp at h1 h2; subst h1; subst h2
    show bindL kindOf ((p, w) :: P.zip vs) m p = _
    unfold bindL
    rw [bindL_out fun v hv => (List.nodup_cons.mp nd).1 (List.of_mem_zip hv).1, if_pos hk]
    simp
  | p :: P, w :: vs, i + 1, m, nd, h1, h2, hk => by
    show bindL kindOf ((p, w) :: P.zip vs) m x = _
    unfold bindL
    exact bindL_get (i := i) (List.nodup_cons.mp nd).2 (by simpa using h1) (by simpa using h2) hk
theorem bindC_get {kindOf : Str → Option NameKind} {x : Str} {v : Value} : ∀ {P : List Str} {vs : List Value} {i : Nat} {m : Str → Option Value}, P.Nodup → P[i]? = some x → vs[i]? = some v → kindOf x ≠ some .local →
    bindC kindOf (P.zip vs) m x = some v
  | [], _, _, _, _, h, _, _ => by simp at h
  | _ :: _, [], _, _, _, _, h, _ => by simp at h
  | p :: P, w :: vs, 0, m, nd, h1, h2, hk => by
    simp at h1 h2; subst h1; subst h2
    show bindC kindOf ((p, w) :: P.zip vs) m p = _
    unfold bindC
    rw [bindC_out fun v hv => (List.nodup_cons.mp nd).1 (List.of_mem_zip hv).1, if_neg hk]
    simp
  | p :: P, w :: vs, i + 1, m, nd, h1, h2, hk => by
    show bindC kindOf ((p, w) :: P.zip vs) m x = _
    unfold bindC
    exact bindC_get (i := i) (List.nodup_cons.mp nd).2 (by simpa using h1) (by simpa using h2) hk
def start (N : List Str) (vs : List V) : St := vs.map some ++ List.replicate (N.length - vs.length) none
def cxOf (CX : CXT) (P : Program) (w : World) (K : PySem.W.Frag) (mg : Str → Option Value) (base : Heap) (N : List Str) (qual : Str) (scope : Scope) (f : Addr) (cd : Value) (A : Around) (outer : List Env) (s : Shared) (H : Hp) (E : XK) : Cx where
  prog := P
  w := w
  K := K
  mg := mg
  base := base
  A := A.deeper (envOfC qual scope s.heap.objs.size f cd)
  N := N
  s_0 := s
  H_0 := H
  env := envOfC qual scope s.heap.objs.size f cd
  outer := outer
  stack := envOfC qual scope s.heap.objs.size f cd :: outer
  ex := []
  calm := true
  fn := fun _ => true
  pn := []
  xe := fun e s' => wpAny (model P w) (A.deeper (envOfC qual scope s.heap.objs.size f cd)) (leaving (envOfC qual scope s.heap.objs.size f cd) e) (fun _ s'' => CX outer H s E e s'') (fun e' s'' => CX outer H s E e' s'') s'
theorem cell_has {sc : Scope} {n : Nat} {x : Str} (h : sc.names.lookup x = some .cell) : ∃ c, (cellsFrom n sc.names []).lookup x = some c := by
  have q := PySem.W.cellsFrom_some sc.names n [] (.inl h)
  exact Option.isSome_iff_exists.mp q
theorem inv_start {CX : CXT} {P : Program} {w : World} {K : PySem.W.Frag} {mg : Str → Option Value} {base : Heap} {N ps : List Str} {qual : Str} {scope : Scope} {f : Addr} {cd : Value} {A : Around} {outer : List Env} {s s1 : Shared} {H : Hp} {E : XK} {us : List Value} {vs : List V}
    (S : FnScope N ps scope) (hd : A.handled = none) (e0 : Env0 P w K mg base A outer s H) (hl : vs.length = ps.length) (r : Vals vs us)
    (x : InCallC s s.heap.objs.size (bindL (envOfC qual scope s.heap.objs.size f cd).kindOf (ps.zip us) fun _ => none) (cellsFrom (s.heap.objs.size + 1) scope.names []) (bindC (envOfC qual scope s.heap.objs.size f cd).kindOf (ps.zip us) fun _ => none) s1) :
    Inv (cxOf CX P w K mg base N qual scope f cd A outer s H E) [] (start N vs) H s1 := by
  have hpl : ps.length ≤ N.length := by have := congrArg List.length S.pre; rw [List.length_take] at this; omega
  obtain ⟨h1, tk, rfl, hk⟩ := x.done
  have noA : ∀ b : Addr, b ∉ (cxOf CX P w K mg base N qual scope f cd A outer s H E).ex := fun b z => absurd (show b ∈ ([] : List Addr) from z) (by simp)
  refine ⟨⟨e0.mod, S.kind, rfl, rfl, Nat.le_refl _, fun y z c h1 h2 => ?_, fun y hy => ?_, fun y c _ h => ?_, fun _ => hd, Around.frames_deeper e0.frames, .inr ⟨rfl, rfl⟩, fun b z => absurd z (noA b), e0.bs, e0.bsz, fun b _ _ => noA b, fun b z => absurd z (noA b), e0.funs, e0.frf⟩,
    rfl, e0.bare, Un.kept hk, ⟨_, x.toInCall.ns, fun i y v h1 h2 h3 => ?_⟩, fun y c h => ⟨_, x.cell y c h⟩, e0.hok.fresh (Nat.le_refl _), fun y c h => ?_, fun p hp => absurd (show p ∈ ([] : List (Addr × Obj)) from hp) (by simp), e0.hok.kept hk, ?_⟩
  · exact name_of_addr x.apart (PySem.mem_of_lookup h1) (PySem.mem_of_lookup h2)
  · have hy : scope.names.lookup y = some .cell ∨ scope.names.lookup y = some .free := hy
    rcases hy with hy | hy
    · exact cell_has hy
    · exact absurd rfl (S.nofree _ (PySem.mem_of_lookup hy))
  · exact Nat.le_of_lt (x.above y c (PySem.mem_of_lookup h))
  · have hi : i < vs.length := by
      unfold start at h2
      by_cases hi : i < vs.length
      · exact hi
      · rw [List.getElem?_append_right (by simpa using hi)] at h2
        rw [List.getElem?_replicate] at h2
        split at h2 <;> cases h2
    have ha : vs[i]? = some v := by
      unfold start at h2
      rw [List.getElem?_append_left (by simpa using hi), List.getElem?_map] at h2
      cases e : vs[i]? with
      | none => rw [e] at h2; cases h2
      | some a => rw [e] at h2; cases h2; rfl
    obtain ⟨u, hu, rv⟩ := r.get ha
    have hp : ps[i]? = some y := by
      rw [← S.pre, List.getElem?_take_of_lt (by omega)]; exact h1
    have ndP : ps.Nodup := by rw [← S.pre]; exact S.nd.sublist (List.take_sublist _ _)
    refine ⟨u, rv, ?_⟩
    rcases S.par y (List.mem_of_getElem? hp) with k | k
    · exact .inl ⟨k, bindL_get ndP hp hu k⟩
    · obtain ⟨c, e⟩ := cell_has (n := s.heap.objs.size + 1) k
      refine .inr ⟨.inl k, c, e, ?_⟩
      have q := x.cell y c e
      rw [bindC_get ndP hp hu (by show scope.names.lookup y ≠ _; rw [k]; decide)] at q
      exact q
  · exact e0.hok.fresh (Nat.le_of_lt (x.above y c (PySem.mem_of_lookup h)))
  · unfold start
    show _ = N.length
    rw [List.length_append, List.length_map, List.length_replicate]
    omega
theorem fn_of {CX : CXT} {P : Program} {w : World} {K : PySem.W.Frag} {mg : Str → Option Value} {base : Heap} {k : Nat} {f : Addr} {name qual : Str} {params : Arguments} {body : List Stmt} {scope : Scope} {dV kV doc pm cdv ct oc : Value} {an od : Option Addr}
    {osl : Array (Option Value)} {N ps : List Str} {sp : Sp} (lk : K.lookup f = some ⟨oc, od, .func (PySem.W.fnOf name qual params body scope dV kV doc pm an cdv ct), osl⟩) (hcd : PySem.W.codeIn K cdv qual = true) (S : FnScope N ps scope)
    (len : ∀ vs H Q E, sp vs H Q E → vs.length = ps.length)
    (hbody : ∀ (A : Around) (outer : List Env) (s : Shared) (H : Hp) (vs : List V) (Q : VK) (E : XK), Room k (A.deeper (envOfC qual scope s.heap.objs.size f cdv)) → sp vs H Q E →
      ∃ t, PSs (cxOf CX P w K mg base N qual scope f cdv A outer s H E) body t ∧ t { nx := fun _ H' => Q .non H', rt := Q } (start N vs) H) :
    FnOk P w K mg base CX (k + 1) f (PySem.W.fnOf name qual params body scope dV kV doc pm an cdv ct) ps sp := by
  refine ⟨len, fun A outer s H args us vs Q E hr e0 hb r hsp => ?_⟩
  have hl := len _ _ _ _ hsp
  have KX : K.In s.heap := e0.mod.kin.keeps fun b o e => (e0.bs b o e).1
  have lim : s.heap.NoLimit := e0.mod.nolimit.keeps fun b o e => (e0.bs b o e).1
  have hkind : ∀ y ∈ ps.zip us, scope.names.lookup y.1 = some .local ∨ (scope.names.lookup y.1 = some .cell ∧ ((cellsFrom (s.heap.objs.size + 1) scope.names []).lookup y.1).isSome = true) := fun ⟨n, v⟩ hy => by
    rcases S.par n (List.of_mem_zip hy).1 with q | q
    · exact .inl q
    · exact .inr ⟨q, PySem.W.cellsFrom_some _ _ _ (.inl q)⟩
  refine codeAny_call_function hr.depth (KX _ _ lk) rfl S.co S.gen rfl (PySem.W.codeRec_of KX hcd) (hb _ _ _ _ ?_)
  refine wpAny_newFunctionEnv_cells S.kind hkind fun env he s1 x => ?_
  subst he
  refine ⟨lim.keeps x.toInCall.keep, codeAny_func ?_⟩
  obtain ⟨t, ht, hq⟩ := hbody A outer s H vs Q E (hr.deeper _) hsp
  have I : Inv (cxOf CX P w K mg base N qual scope f cdv A outer s H E) [] (start N vs) H s1 := inv_start S hr.hd e0 hl r x
  refine wpAny_mono (ht [] s1 (start N vs) H _ I hq) (fun fl s' hs => ?_) fun e s' hs => hs
  have fin : ∀ {σ' : St} {H' : Hp} {v : V} {u : Value}, Inv (cxOf CX P w K mg base N qual scope f cdv A outer s H E) [] σ' H' s' → RelV v u → Q v H' → CE outer P w H s Q u s' :=
    fun {σ' H' v u} J rv q => ⟨v, H', J.os, J.bare, J.base, J.hok, rv, q⟩
  cases fl with
  | ret u =>
    obtain ⟨v, σ', H', J, rv, q⟩ := hs
    exact fin J rv q
  | next =>
    obtain ⟨σ', H', J, q⟩ := hs
    exact fin (v := V.non) (u := Value.none) J rfl q
  | brk =>
    obtain ⟨_, _, _, q⟩ := hs
    exact False.elim q
  | cont =>
    obtain ⟨_, _, _, q⟩ := hs
    exact False.elim q
end L2
namespace L2
open PySem PySem.Spec PyProof.Rows
section
variable {X : Cx} {x : Str} {p pos : Pos} {e : Expr} {es : List Expr} {t : TA} {id T : String} {r : List V → Hp → VK → Prop}
def tCB (r : List V → Hp → VK → Prop) (t : TA) : TE := fun σ H Q => t σ H fun vs H1 => r vs H1 Q
theorem pe_callB (hc : CallR X (.builtin id) r) (hg : Gl X x) (hm : X.mg x = none) (hv : bootBuiltins x = some (.builtin id)) (ha : PA X (e :: es) t) (hn : x ≠ "__name__" := by decide) (hdb : (x == ("__debug__" : Str)) = false := by decide)
    (he : starEach (e :: es) X.env = (false, eval e X.env) :: starEach es X.env := by rfl) (hpl : (backTo pos (starEach es X.env)).any (·.1) = false := by rfl) : PE X (.Call (.Name x p) (e :: es) [] pos) (tCB r t) := by
  intro pins s σ H Q I h
  refine wpAny_Call_Name_kw (ld_blt I hg hm hv ?_ hn hdb)
  exact PyProof.Rows.callWith_builtin1 (thn (ha pos pins s σ H _ I h) fun us s1 ⟨vs, H1, I1, r1, q1⟩ => hc pins s1 σ H1 vs us Q I1 r1 q1) he hpl
theorem pe_callTy (hc : CallR X (.type T) r) (hg : Gl X x) (hm : X.mg x = none) (hv : bootBuiltins x = some (.type T)) (ha : PA X (e :: es) t) (hn : x ≠ "__name__" := by decide) (hdb : (x == ("__debug__" : Str)) = false := by decide)
    (he : starEach (e :: es) X.env = (false, eval e X.env) :: starEach es X.env := by rfl) (hpl : (backTo pos (starEach es X.env)).any (·.1) = false := by rfl) : PE X (.Call (.Name x p) (e :: es) [] pos) (tCB r t) := by
  intro pins s σ H Q I h
  refine wpAny_Call_Name_kw (ld_blt I hg hm hv ?_ hn hdb)
  exact PyProof.Rows.callWith_type1 (thn (ha pos pins s σ H _ I h) fun us s1 ⟨vs, H1, I1, r1, q1⟩ => hc pins s1 σ H1 vs us Q I1 r1 q1) he hpl
end
end L2
namespace HT
open PySem PyProof.Rows
section
open PySem.SeqAt
open PySem.AutoSeq1 (wpAny_loadPart')
open PySem.MeetsSeq PySem.MeetsSeq2 PySem.MeetsSeq3
end
section
variable {prog : Program} {w : World} {A : Around} {E : Value → Shared → Prop} {s : Shared}
def sIx (n d : Nat) : Option Int → Nat
  | none => d
  | some v => if v < 0 then (v + (n : Int)).toNat else min v.toNat n
theorem sIx_none (n d : Nat) : sIx n d none = d := rfl
theorem sIx_le (n d : Nat) (hd : d ≤ n) (o : Option Int) : sIx n d o ≤ n := by
  cases o with
  | none => exact hd
  | some v =>
    show (if v < 0 then (v + (n : Int)).toNat else min v.toNat n) ≤ n
    by_cases hv : v < 0
    · rw [if_pos hv]; omega
    · rw [if_neg hv]; exact Nat.min_le_right _ _
end
end HT
namespace L2
open PySem PySem.Spec PyProof.Rows
abbrev TO := St → Hp → (Option Int → Hp → Prop) → Prop
def PO (X : Cx) (e : Option Expr) (t : TO) : Prop :=
  ∀ (pins : List (Addr × Obj)) (s : Shared) (σ : St) (H : Hp) (Q : Option Int → Hp → Prop), Inv X pins σ H s → t σ H Q →
    wpAny (model X.prog X.w) X.A (evalPart e X.env) (fun u s' => ∃ o H', Inv X pins σ H' s' ∧ IsPart u o ∧ Q o H') X.xe s
def tNoPart : TO := fun _ H Q => Q none H
def tPart (t : TE) : TO := fun σ H Q => t σ H fun x H1 => ∃ i, x = .int i ∧ Q (some i) H1
section
variable {X : Cx} {e : Expr} {te : TE} {lo hi : Option Expr} {tl th : TO} {pos p2 : Pos}
theorem po_none : PO X none tNoPart := by
  intro pins s σ H Q I h
  rw [evalPart_none]
  exact wpAny_pure ⟨none, H, I, .none, h⟩
theorem po_some (h : PE X e te) : PO X (some e) (tPart te) := by
  intro pins s σ H Q I hw
  rw [evalPart_some]
  refine thn (h pins s σ H _ I hw) fun u s1 ⟨x, H1, I1, r1, q1⟩ => ?_
  obtain ⟨i, rfl, q⟩ := q1
  obtain ⟨t, rfl⟩ := r1
  exact ⟨some i, H1, I1, .int i t, q⟩
def SlR (X : Cx) (r : V → Option Int → Option Int → Hp → VK → Prop) : Prop :=
  ∀ (pins : List (Addr × Obj)) (s : Shared) (σ : St) (H : Hp) (x : V) (v vl vu : Value) (lo hi : Option Int) (sl : Addr) (Q : VK), Inv X pins σ H s → RelV x v → s.heap.IsSliceOf sl vl vu .none → IsPart vl lo → IsPart vu hi → r x lo hi H Q →
    ∃ T id, typeLookup (.type T) "__getitem__" = pure (some (.builtin id)) ∧ s.TypeIs v T ∧ wpAny (model X.prog X.w) X.A (getItem v (.ref sl)) (EP X pins σ Q) X.xe s
def tSl (r : V → Option Int → Option Int → Hp → VK → Prop) (te : TE) (tl th : TO) : TE := fun σ H Q => te σ H fun x H1 => tl σ H1 fun l H2 => th σ H2 fun u H3 => r x l u H3 Q
theorem pe_slice {r : V → Option Int → Option Int → Hp → VK → Prop} (hr : SlR X r) (he : PE X e te) (hl : PO X lo tl) (hu : PO X hi th) : PE X (.Subscript e (.Slice lo hi none p2) pos) (tSl r te tl th) := by
  intro pins s σ H Q I h
  refine Subscript_ (thn (he pins s σ H _ I h) fun v s1 ⟨x, H1, I1, r1, q1⟩ => ?_)
  refine wpAny_Slice (thn (hl pins s1 σ H1 _ I1 q1) fun vl s2 ⟨l, H2, I2, pl, q2⟩ => thn (hu pins s2 σ H2 _ I2 q2) fun vu s3 ⟨u, H3, I3, pu, q3⟩ => ?_)
  rw [evalPart_none]
  refine wpAny_pure ?_
  have I4 : Inv X pins σ H3 { s3 with heap := s3.heap.push { cls := .type "slice", data := .fields #[vl, vu, .none] } } := I3.kept (t' := s3.toks) fun b ob q => Heap.get?_push_of_some _ q
  obtain ⟨T, id, hT, ht, hg⟩ := hr pins { s3 with heap := s3.heap.push { cls := .type "slice", data := .fields #[vl, vu, .none] } } σ H3 x v vl vu l u s3.heap.objs.size Q I4 r1 (Heap.IsSliceOf.new ..) pl pu q3
  show wpAny (model X.prog X.w) X.A (subscriptTail e (.Slice lo hi none p2) v (.ref s3.heap.objs.size)) (EP X pins σ Q) X.xe { s3 with heap := s3.heap.push { cls := .type "slice", data := .fields #[vl, vu, .none] } }
  exact tail_any (ops := [.ref s3.heap.objs.size, v]) ht hT hg (by with_unfolding_all rfl)
def cutV (xs : List V) (lo hi : Option Int) : List V := (xs.drop (HT.sIx xs.length 0 lo)).take (HT.sIx xs.length xs.length hi - HT.sIx xs.length 0 lo)
theorem cutV_length (xs : List V) (lo hi : Option Int) : (cutV xs lo hi).length ≤ xs.length := by
  unfold cutV
  rw [List.length_take, List.length_drop]
  omega
end
end L2
namespace L2
open PySem PySem.Spec PyProof.Rows
def ixN (n : Nat) (i : Int) : Option Nat := if 0 ≤ i then (if i < n then some i.toNat else none) else if -(n : Int) ≤ i then some (i + n).toNat else none
def atI {α : Type} (xs : List α) (i : Int) : Option α := (ixN xs.length i).bind fun j => xs[j]?
theorem ixN_seq {n : Nat} {i : Int} {j : Nat} (h : ixN n i = some j) : seqIndex? i n = some j ∧ j < n ∧ -(n : Int) ≤ i ∧ i < n := by
  unfold ixN at h
  by_cases h0 : 0 ≤ i
  · rw [if_pos h0] at h
    by_cases h1 : i < n
    · rw [if_pos h1] at h
      have e : i.toNat = j := Option.some.inj h
      exact ⟨by rw [seqIndex_of h0 h1, e], by omega, by omega, h1⟩
    · rw [if_neg h1] at h; cases h
  · rw [if_neg h0] at h
    by_cases h1 : -(n : Int) ≤ i
    · rw [if_pos h1] at h
      have e : (i + n).toNat = j := Option.some.inj h
      exact ⟨by rw [seqIndex_neg (by omega) h1, e], by omega, h1, by omega⟩
    · rw [if_neg h1] at h; cases h
theorem atI_get {α : Type} {xs : List α} {i : Int} {v : α} (h : atI xs i = some v) : ∃ j, seqIndex? i xs.length = some j ∧ xs[j]? = some v ∧ j < xs.length ∧ -(xs.length : Int) ≤ i ∧ i < xs.length := by
  unfold atI at h
  cases e : ixN xs.length i with
  | none => rw [e] at h; cases h
  | some j =>
    rw [e] at h
    obtain ⟨h1, h2, h3, h4⟩ := ixN_seq e
    exact ⟨j, h1, h, h2, h3, h4⟩
theorem atI_nat {α : Type} {xs : List α} {j : Nat} {v : α} (h : xs[j]? = some v) : atI xs (j : Int) = some v := by
  have hj : j < xs.length := (List.getElem?_eq_some_iff.mp h).1
  have e : ixN xs.length (j : Int) = some j := by
    unfold ixN
    rw [if_pos (by omega), if_pos (by omega)]; simp
  unfold atI; rw [e]; exact h
def PlainIx (b : Expr) : Prop := ∀ o i, subscripted b false o i = operate [o, i] (getItem o i)
def IxR (X : Cx) (r : R2) : Prop :=
  ∀ (value slice : Expr) (pins : List (Addr × Obj)) (s : Shared) (σ : St) (H : Hp) (x y : V) (v u : Value) (Q : VK), Inv X pins σ H s → RelV x v → RelV y u → r x y H Q →
    subscripted slice false v u = operate [v, u] (getItem v u) → wpAny (model X.prog X.w) X.A (subscriptTail value slice v u) (EP X pins σ Q) X.xe s
def MtR (X : Cx) (id : String) (r : V → List V → Hp → VK → Prop) : Prop :=
  ∀ (pins : List (Addr × Obj)) (s : Shared) (σ : St) (H : Hp) (x : V) (xs : List V) (v : Value) (us : List Value) (Q : VK), Inv X pins σ H s → RelV x v → Vals xs us → r x xs H Q →
    wpAny (model X.prog X.w) X.A (call (.builtin id) (v :: us)) (EP X pins σ Q) X.xe s
section
variable {X : Cx} {a b : Expr} {ta tb : TE} {pos : Pos}
theorem IxR.or {r r' : R2} (h : IxR X r) (h' : IxR X r') : IxR X (fun x y H Q => r x y H Q ∨ r' x y H Q) := by
  intro value slice pins s σ H x y v u Q I rx ry q hs
  rcases q with q | q
  · exact h value slice pins s σ H x y v u Q I rx ry q hs
  · exact h' value slice pins s σ H x y v u Q I rx ry q hs
theorem pe_ix {r : R2} (hr : IxR X r) (ha : PE X a ta) (hb : PE X b tb) (hs : PlainIx b) : PE X (.Subscript a b pos) (tOp r ta tb) := by
  intro pins s σ H Q I h
  exact Subscript_ (binT ha hb I h fun v u s2 x y H2 I2 rx ry q => hr a b pins s2 σ H2 x y v u Q I2 rx ry q (hs _ _))
def rIxL (K : PySem.W.Frag) : R2 := fun x y H Q => ∃ p xs i v, x = .ref p ∧ y = .int i ∧ SqL K H p xs ∧ atI xs i = some v ∧ Q v H
def rIxT (K : PySem.W.Frag) : R2 := fun x y H Q => ∃ p xs i v, x = .ref p ∧ y = .int i ∧ SqT K H p xs ∧ atI xs i = some v ∧ Q v H
def rIxS : R2 := fun x y H Q => ∃ z i c, x = .str z ∧ y = .int i ∧ z.length ≤ sizeLine ∧ atI z.cps.toList i = some c ∧ Q (.str ⟨#[c]⟩) H
theorem ix_list : IxR X (rIxL X.K) := by
  intro value slice pins s σ H x y v u Q I rx ry h hs
  obtain ⟨p, xs, i, z, rfl, rfl, hq, he, q⟩ := h
  cases rx
  obtain ⟨t, rfl⟩ := ry
  obtain ⟨its, r, pl, hz⟩ := I.list hq
  obtain ⟨j, h1, h2, h3, h4, h5⟩ := atI_get he
  obtain ⟨w, ew, rw'⟩ := r.get h2
  have hl := r.length
  have hn := line63
  have fin : EP X pins σ Q w s := ⟨z, H, I, rw', q⟩
  by_cases h0 : 0 ≤ i
  · have hj : i.toNat = j := by
      rw [seqIndex_of h0 h5] at h1
      exact Option.some.inj h1
    exact item_listR pl.isList h0 (by omega) (by rw [hj]; simpa using ew) fin hs
  · have hj : (i + (its.toArray.size : Int)).toNat = j := by
      rw [seqIndex_neg (by omega) h4] at h1
      rw [List.size_toArray, ← hl]
      exact Option.some.inj h1
    exact subscriptTail_builtinR (x := w) pl.isList.typeIs slot_list_getitem.lookup
      (wpAny_getItem_list_neg (Q := fun r s' => r = w ∧ EP X pins σ Q r s') pl.isList (by omega) (by rw [List.size_toArray] <;> omega) (by omega) (by rw [hj]; simpa using ew) ⟨rfl, fin⟩) hs
theorem ix_tup : IxR X (rIxT X.K) := by
  intro value slice pins s σ H x y v u Q I rx ry h hs
  obtain ⟨p, xs, i, z, rfl, rfl, hq, he, q⟩ := h
  cases rx
  obtain ⟨t, rfl⟩ := ry
  obtain ⟨its, r, pl, hz⟩ := I.tuple hq
  obtain ⟨j, h1, h2, h3, h4, h5⟩ := atI_get he
  obtain ⟨w, ew, rw'⟩ := r.get h2
  have hl := r.length
  have hn := line63
  have fin : EP X pins σ Q w s := ⟨z, H, I, rw', q⟩
  exact subscriptTail_builtinR (x := w) pl.typeIs slot_tuple_getitem.lookup
    (getItem_tuple (j := j) (Q := fun r s' => r = w ∧ EP X pins σ Q r s') pl (by omega) (by omega) (by rw [List.size_toArray, ← hl]; exact h1) (by simpa using ew) ⟨rfl, fin⟩) hs
theorem ix_str : IxR X rIxS := by
  intro value slice pins s σ H x y v u Q I rx ry h hs
  obtain ⟨z, i, c, rfl, rfl, hz, he, q⟩ := h
  obtain ⟨t, rfl⟩ := rx
  obtain ⟨t', rfl⟩ := ry
  obtain ⟨j, h1, h2, h3, h4, h5⟩ := atI_get he
  have hl : z.cps.toList.length = z.length := by simp [Str.length]
  rw [hl] at h1 h4 h5
  have hn := line63
  exact tail_any (typeIs_str s z t) slot_str_getitem.lookup (getItem_str (c := c) (by
    have e1 : decide (i < -(2 ^ 63 : Int)) = false := decide_eq_false (by omega)
    have e2 : decide (i ≥ 2 ^ 63) = false := decide_eq_false (by omega)
    rw [e1, e2, Bool.or_false]) (by rw [h1]; simpa using h2) ⟨.str ⟨#[c]⟩, H, I.tok _, ⟨_, rfl⟩, q⟩) hs
def rIx (K : PySem.W.Frag) : R2 := fun x y H Q => rIxL K x y H Q ∨ rIxT K x y H Q ∨ rIxS x y H Q
theorem ix_seq : IxR X (rIx X.K) := ix_list.or (ix_tup.or ix_str)
theorem mapSeq_set (its : List Value) (n j : Nat) (u : Value) : Obj.mapSeq (·.setIfInBounds j u) { cls := .type "list", data := .seq its.toArray n } = { cls := .type "list", data := .seq (its.set j u).toArray n } := by
  simp [Obj.mapSeq]
theorem Inv.lst {pins : List (Addr × Obj)} {σ : St} {H : Hp} {s : Shared} {p : Addr} {xs : List V} (I : Inv X pins σ H s) (h : H p = some (.lst xs)) :
    ∃ (its : List Value) (n : Nat), Vals xs its ∧ s.heap.get? p = some { cls := .type "list", data := .seq its.toArray n } ∧ xs.length ≤ sizeLine := by
  obtain ⟨z, its, n, r, e⟩ := I.hok p _ h
  exact ⟨its, n, r, e, z⟩
theorem Inv.lstUpd {pins : List (Addr × Obj)} {σ : St} {H : Hp} {s : Shared} {p : Addr} {xs ys : List V} {its its' : List Value} {n n' : Nat} {f : Obj → Obj} (I : Inv X pins σ H s) (h : H p = some (.lst xs))
    (ho : s.heap.get? p = some { cls := .type "list", data := .seq its.toArray n }) (hf : f { cls := .type "list", data := .seq its.toArray n } = { cls := .type "list", data := .seq its'.toArray n' }) (r : Vals ys its') (hz : ys.length ≤ sizeLine) (t : Nat) :
    Inv X pins σ (upd H p (.lst ys)) { s with heap := s.heap.update p f, toks := t } := by
  have e : (s.heap.update p f).get? p = some { cls := .type "list", data := .seq its'.toArray n' } := by
    rw [Heap.get?_update_self f ho (by rw [hf] <;> rfl), hf]
  refine I.write (x := p) (e := p) (by rw [h]; trivial) (.inl rfl) (fun b u hb q => (Heap.get?_update_other _ _ (Ne.symm hb)).trans q) ⟨_, e⟩ ?_
  exact ⟨hz, its', n', r, e⟩
def rSetL : V → V → V → Hp → (Hp → Prop) → Prop := fun o i v H Q => ∃ p xs k j, o = .ref p ∧ i = .int k ∧ H p = some (.lst xs) ∧ ixN xs.length k = some j ∧ Q (upd H p (.lst (xs.set j v)))
theorem set_list : PSet X rSetL := by
  intro pins s σ H o i v ov iv u Q I ro ri rv h
  obtain ⟨p, xs, k, j, rfl, rfl, hp, hj, q⟩ := h
  cases ro
  obtain ⟨t, rfl⟩ := ri
  obtain ⟨its, n, r, ho, hz⟩ := I.lst hp
  obtain ⟨h1, h2, h3, h4⟩ := ixN_seq hj
  have hl := r.length
  have hn := line63
  have I' : Inv X pins σ (upd H p (.lst (xs.set j v))) { s with heap := s.heap.update p (Obj.mapSeq (·.setIfInBounds j u)) } :=
    I.lstUpd hp ho (mapSeq_set its n j u) (r.set rv j) (by rw [List.length_set]; exact hz) s.toks
  by_cases h0 : 0 ≤ k
  · have hk : k.toNat = j := by
      rw [seqIndex_of h0 h4] at h1
      exact Option.some.inj h1
    exact PySem.W.ki_setAt ho h0 (by omega) (by rw [List.size_toArray, ← hl]; exact h4) (by rw [hk]; exact ⟨_, I', q⟩)
  · have hk : (k + (its.toArray.size : Int)).toNat = j := by
      rw [seqIndex_neg (by omega) h3] at h1
      rw [List.size_toArray, ← hl]
      exact Option.some.inj h1
    exact PySem.W.ki_setBack ho (by omega) (by rw [List.size_toArray, ← hl]; exact h3) (by omega) (by rw [hk]; exact ⟨_, I', q⟩)
theorem slice_bounds (lo hi : Option Int) (n : Nat) : (sliceBounds lo hi none n).1 = ((HT.sIx n 0 lo : Nat) : Int) ∧ (sliceBounds lo hi none n).2.1 = ((HT.sIx n n hi : Nat) : Int) ∧ (sliceBounds lo hi none n).2.2 = 1 := by
  refine ⟨?_, ?_, rfl⟩
  · cases lo with
    | none => simp [sliceBounds, HT.sIx]
    | some i =>
      simp only [sliceBounds, HT.sIx, Option.getD_none, show (1 : Int) > 0 by decide, if_true]
      by_cases h : i < 0
      · simp only [h, if_true] <;> omega
      · simp only [h, if_false] <;> omega
  · cases hi with
    | none => simp [sliceBounds, HT.sIx]
    | some i =>
      simp only [sliceBounds, HT.sIx, Option.getD_none, show (1 : Int) > 0 by decide, if_true]
      by_cases h : i < 0
      · simp only [h, if_true] <;> omega
      · simp only [h, if_false] <;> omega
theorem slicePick_cut (its : List Value) (lo hi : Option Int) : slicePick its.toArray lo hi none = ((its.drop (HT.sIx its.length 0 lo)).take (HT.sIx its.length its.length hi - HT.sIx its.length 0 lo)).toArray := by
  obtain ⟨h1, h2, h3⟩ := slice_bounds lo hi its.toArray.size
  unfold slicePick
  rw [h1, h2, h3]
  simp only [sliceRange_one, pick_run, List.size_toArray] <;> rfl
def rSlL (K : PySem.W.Frag) : V → Option Int → Option Int → Hp → VK → Prop := fun x lo hi H Q => ∃ a xs, x = .ref a ∧ SqL K H a xs ∧ ∀ p, H p = none → Q (.ref p) (upd H p (.lst (cutV xs lo hi)))
theorem sl_list : SlR X (rSlL X.K) := by
  intro pins s σ H x v vl vu lo hi sl Q I rx hs pl pu h
  obtain ⟨a, xs, rfl, hx, q⟩ := h
  cases rx
  obtain ⟨its, r, ht, hz⟩ := I.list hx
  have hlen := r.length
  refine ⟨"list", _, slot_list_getitem.lookup, ht.isList.typeIs, ?_⟩
  refine wpAny_getItem_list_slice ht.isList hs pl pu .none (by simp) ?_ (by rw [List.size_toArray] <;> omega)
  rw [slicePick_cut, ← hlen]
  refine ⟨.ref s.heap.objs.size, _, I.laid (t' := s.toks) (o := .lst (cutV xs lo hi)) (fun b ob q => Heap.get?_push_of_some _ q) (Nat.le_refl _) ?_, rfl, q _ (I.hok.fresh (Nat.le_refl _))⟩
  exact ⟨Nat.le_trans (cutV_length xs lo hi) hz, _, 0, (r.drop (HT.sIx xs.length 0 lo)).take (HT.sIx xs.length xs.length hi - HT.sIx xs.length 0 lo), Heap.get?_push_size _ rfl⟩
def flatV : V → Bool
  | .non => true
  | .bl _ => true
  | .int _ => true
  | .str _ => true
  | _ => false
def eqV : V → V → Bool
  | .non, .non => true
  | .bl a, .bl b => a == b
  | .bl a, .int b => (if a then 1 else 0) == b
  | .int a, .bl b => a == (if b then 1 else 0)
  | .int a, .int b => a == b
  | .str a, .str b => a == b
  | _, _ => false
theorem eqAt_V {A : Around} {s : Shared} {y x : V} {u v : Value} (ry : RelV y u) (rx : RelV x v) (fy : flatV y = true) (fx : flatV x = true) : SeqAt.EqAt A s u v (eqV y x) := by
  cases y with
  | non =>
    cases ry
    cases x with
    | non => cases rx; exact SeqAt.EqAt.same _
    | bl b => cases rx; exact SeqAt.EqAt.none_bool b
    | int b => obtain ⟨t, rfl⟩ := rx; exact SeqAt.EqAt.none_int b t
    | str b => obtain ⟨t, rfl⟩ := rx; exact SeqAt.EqAt.none_str b t
    | _ => exact absurd (show false = true from fx) Bool.false_ne_true
  | bl a =>
    cases ry
    cases x with
    | non => cases rx; exact SeqAt.EqAt.bool_none a
    | bl b => cases rx; exact SeqAt.EqAt.bool_bool a b
    | int b => obtain ⟨t, rfl⟩ := rx; exact SeqAt.EqAt.bool_int a b t
    | str b => obtain ⟨t, rfl⟩ := rx; exact SeqAt.EqAt.bool_str a b t
    | _ => exact absurd (show false = true from fx) Bool.false_ne_true
  | int a =>
    obtain ⟨t', rfl⟩ := ry
    cases x with
    | non => cases rx; exact SeqAt.EqAt.int_none a t'
    | bl b => cases rx; exact SeqAt.EqAt.int_bool a t' b
    | int b => obtain ⟨t, rfl⟩ := rx; exact SeqAt.EqAt.int_int a t' b t
    | str b => obtain ⟨t, rfl⟩ := rx; exact SeqAt.EqAt.int_str a t' b t
    | _ => exact absurd (show false = true from fx) Bool.false_ne_true
  | str a =>
    obtain ⟨t', rfl⟩ := ry
    cases x with
    | non => cases rx; exact SeqAt.EqAt.str_none a t'
    | bl b => cases rx; exact SeqAt.EqAt.str_bool a t' b
    | int b => obtain ⟨t, rfl⟩ := rx; exact SeqAt.EqAt.str_int a t' b t
    | str b => obtain ⟨t, rfl⟩ := rx; exact SeqAt.EqAt.str_str a t' b t
    | _ => exact absurd (show false = true from fx) Bool.false_ne_true
  | _ => exact absurd (show false = true from fy) Bool.false_ne_true
def eqU (x : V) (u : Value) : Bool := match u with
  | .none => eqV .non x
  | .bool b => eqV (.bl b) x
  | .int i _ => eqV (.int i) x
  | .str z _ => eqV (.str z) x
  | _ => false
theorem eqU_of {x y : V} {u : Value} (r : RelV y u) (f : flatV y = true) : eqU x u = eqV y x := by
  cases y with
  | non => cases r; rfl
  | bl b => cases r; rfl
  | int i => obtain ⟨t, rfl⟩ := r; rfl
  | str z => obtain ⟨t, rfl⟩ := r; rfl
  | _ => exact absurd (show false = true from f) Bool.false_ne_true
theorem any_eqU {x : V} : ∀ {xs : List V} {us : List Value}, Vals xs us → xs.all flatV = true → us.any (eqU x) = xs.any fun y => eqV y x
  | _, _, .nil, _ => rfl
  | y :: xs, u :: us, .cons r t, f => by
    rw [List.all_cons, Bool.and_eq_true] at f
    rw [List.any_cons, List.any_cons, eqU_of r f.1, any_eqU t f.2]
theorem mem_eqAt {A : Around} {s : Shared} {x : V} {v : Value} (rx : RelV x v) (fx : flatV x = true) : ∀ {xs : List V} {us : List Value}, Vals xs us → xs.all flatV = true → ∀ u ∈ us, SeqAt.EqAt A s u v (eqU x u)
  | _, _, .nil, _ => fun u hu => by cases hu
  | y :: xs, u :: us, .cons r t, f => fun u' hu => by
    rw [List.all_cons, Bool.and_eq_true] at f
    rcases List.mem_cons.mp hu with rfl | hu
    · rw [eqU_of r f.1]; exact eqAt_V r rx f.1 fx
    · exact mem_eqAt rx fx t f.2 u' hu
def inV (x : V) (xs : List V) : Bool := xs.any fun y => eqV y x
def rIn (K : PySem.W.Frag) (neg : Bool) : R2 := fun x y H Q => ∃ p xs, y = .ref p ∧ (SqL K H p xs ∨ SqT K H p xs) ∧ flatV x = true ∧ xs.all flatV = true ∧ Q (.bl (if neg then !inV x xs else inV x xs)) H
theorem op_in_seq : OpR X (compareOp .In) (rIn X.K false) := by
  intro pins s σ H x y v u Q I rx ry h
  obtain ⟨p, xs, rfl, hq, fx, fs, q⟩ := h
  cases ry
  rcases hq with hq | hq
  · obtain ⟨its, r, pl, hz⟩ := I.list hq
    refine SeqAt.in_listAt (eqU x) pl.isList (fun w hw => mem_eqAt rx fx r fs w (by simpa using hw)) ⟨.bl _, H, I, rfl, ?_⟩
    rw [show its.toArray.any (eqU x) = its.any (eqU x) by simp, any_eqU r fs]
    exact q
  · obtain ⟨its, r, pl, hz⟩ := I.tuple hq
    refine SeqAt.in_tupleAt (eqU x) pl (fun w hw => mem_eqAt rx fx r fs w (by simpa using hw)) ⟨.bl _, H, I, rfl, ?_⟩
    rw [show its.toArray.any (eqU x) = its.any (eqU x) by simp, any_eqU r fs]
    exact q
theorem call_len_seq : CallR X (.builtin "len") (fun xs H Q => ∃ p ys, xs = [.ref p] ∧ (SqL X.K H p ys ∨ SqT X.K H p ys) ∧ Q (.int ys.length) H) := by
  intro pins s σ H xs us Q I r h
  obtain ⟨p, ys, rfl, hq, q⟩ := h
  obtain ⟨u, rfl, rx⟩ := vals1 r
  cases rx
  have hn := line63
  rcases hq with hq | hq
  · obtain ⟨its, r', pl, hz⟩ := I.list hq
    have hlen := r'.length
    exact Calls.call_len_list pl.isList (by simp only [List.size_toArray] <;> omega) ⟨.int ys.length, H, I.tok _, ⟨s.toks + 1, by rw [List.size_toArray, hlen]⟩, q⟩
  · obtain ⟨its, r', pl, hz⟩ := I.tuple hq
    have hlen := r'.length
    exact len_tuple pl (by simp only [List.size_toArray] <;> omega) ⟨.int ys.length, H, I.tok _, ⟨s.toks + 1, by rw [List.size_toArray, hlen]⟩, q⟩
theorem call_len_str : CallR X (.builtin "len") (fun xs H Q => ∃ z, xs = [.str z] ∧ z.length ≤ sizeLine ∧ Q (.int z.length) H) := by
  intro pins s σ H xs us Q I r h
  obtain ⟨z, rfl, hz, q⟩ := h
  obtain ⟨u, rfl, t, rfl⟩ := vals1 r
  have hn := line63
  exact len_str (by omega) ⟨.int z.length, H, I.tok _, ⟨_, rfl⟩, q⟩
theorem call_list_of : CallR X (.type "list") (fun xs H Q => ∃ p ys, xs = [.ref p] ∧ (SqL X.K H p ys ∨ SqT X.K H p ys) ∧ ∀ l, H l = none → Q (.ref l) (upd H l (.lst ys))) := by
  intro pins s σ H xs us Q I r h
  obtain ⟨p, ys, rfl, hq, q⟩ := h
  obtain ⟨u, rfl, rx⟩ := vals1 r
  cases rx
  have fin : ∀ (its : List Value), Vals ys its → ys.length ≤ sizeLine → ∀ (h' : Heap) (c' : Nat), (∀ b o', s.heap.get? b = some o' → h'.get? b = some o') →
      h'.get? s.heap.objs.size = some { cls := .type "list", dict := none, data := .seq its.toArray c', slots := #[] } → EP X pins σ Q (.ref s.heap.objs.size) { s with heap := h' } := fun its r' hz h' c' kp e =>
    ⟨.ref s.heap.objs.size, _, I.laid (t' := s.toks) kp (Nat.le_refl _) (show ObjOk X.prog X.w _ h' _ (.lst ys) from ⟨hz, its, c', r', e⟩), rfl, q _ (I.hok.fresh (Nat.le_refl _))⟩
  rcases hq with hq | hq
  · obtain ⟨its, r', pl, hz⟩ := I.list hq
    have hlen := r'.length
    obtain ⟨o, ho, hc, n, hd⟩ := pl.isList
    exact call_list_seq p (.inl rfl) ho hc hd (fun h' c' kp e => fin its r' hz h' c' kp e) (by simp only [List.size_toArray] <;> omega)
  · obtain ⟨its, r', pl, hz⟩ := I.tuple hq
    have hlen := r'.length
    obtain ⟨o, ho, hc, n, hd⟩ := pl
    exact call_list_seq p (.inr rfl) ho hc hd (fun h' c' kp e => fin its r' hz h' c' kp e) (by simp only [List.size_toArray] <;> omega)
def tyV (K : PySem.W.Frag) (T : String) (x : V) (H : Hp) : Prop := match x with
  | .str _ => T = "str"
  | .int _ => T = "int"
  | .ref p => (T = "list" ∧ ∃ xs, SqL K H p xs) ∨ (T = "tuple" ∧ ∃ o, K.lookup p = some o ∧ o.cls = .type "tuple" ∧ o.dict = none) ∨
      (T = "dict" ∧ ((∃ kvs, H p = some (.dK kvs)) ∨ ∃ kvs, H p = some (.dT kvs))) ∨ (T = "set" ∧ ∃ S n, H p = some (.set S n))
  | _ => False
theorem tyV_is {pins : List (Addr × Obj)} {σ : St} {H : Hp} {s : Shared} {T : String} {x : V} {v : Value} (I : Inv X pins σ H s) (r : RelV x v) (ty : tyV X.K T x H) :
    s.TypeIs v T ∧ ∀ a, v = .ref a → ∃ ob, s.heap.get? a = some ob ∧ ob.dict = none := by
  cases x with
  | str z =>
    obtain ⟨t, rfl⟩ := r
    cases (show T = "str" from ty)
    exact ⟨typeIs_str s z t, fun _ e => nomatch e⟩
  | int i =>
    obtain ⟨t, rfl⟩ := r
    cases (show T = "int" from ty)
    exact ⟨typeIs_int s i t, fun _ e => nomatch e⟩
  | ref p =>
    cases r
    rcases ty with ⟨rfl, xs, hq⟩ | ⟨rfl, o, hk, hc, hd⟩ | ⟨rfl, hk⟩ | ⟨rfl, S, n, hk⟩
    · obtain ⟨its, _, pl, _⟩ := I.list hq
      refine ⟨pl.isList.typeIs, fun a e => ?_⟩
      cases e
      obtain ⟨o, n, e, c, hd, _⟩ := pl
      exact ⟨o, e, hd⟩
    · refine ⟨⟨o, I.kIn p o hk, hc⟩, fun a e => ?_⟩
      cases e
      exact ⟨o, I.kIn _ o hk, hd⟩
    · have z : ∃ o, s.heap.get? p = some o ∧ o.ExactDict := by
        rcases hk with ⟨kvs, hk⟩ | ⟨kvs, hk⟩
        · obtain ⟨_, _, _, _, o, _, _, e, ex, _⟩ := I.hok p _ hk
          exact ⟨o, e, ex⟩
        · obtain ⟨_, _, _, _, o, _, _, e, ex, _⟩ := I.hok p _ hk
          exact ⟨o, e, ex⟩
      obtain ⟨o, e, ex⟩ := z
      refine ⟨⟨o, e, ex.1⟩, fun a e2 => ?_⟩
      cases e2
      exact ⟨o, e, ex.2.1⟩
    · obtain ⟨o, _, _, _, e, ex, _⟩ := I.hok p _ hk
      refine ⟨⟨o, e, ex.1⟩, fun a e2 => ?_⟩
      cases e2
      exact ⟨o, e, ex.2.1⟩
  | _ => exact False.elim ty
def tBM (K : PySem.W.Frag) (T : String) (r : V → List V → Hp → VK → Prop) (to : TE) (t : TA) : TE := fun σ H Q => to σ H fun x H1 => tyV K T x H1 ∧ t σ H1 fun xs H2 => r x xs H2 Q
variable {o e : Expr} {es : List Expr} {to : TE} {t : TA} {name : Str} {apos cpos : Pos} {T id : String} {r : V → List V → Hp → VK → Prop}
theorem pe_bm (pa : PlainAttrs T) (slot : Slot T name id) (hty : typeOf (.builtin id) = pure (.type "method_descriptor")) (hm : MtR X id r) (ho : PE X o to) (ha : PA X (e :: es) t)
    (hbase : attributeBase o name X.env (eval o X.env) = eval o X.env := by rfl)
    (hfew : ((backTo cpos (starEach (e :: es) X.env)).all (fun x => !x.1) && (backToKw cpos (keywordEach [] X.env)).all (fun x => x.1.isSome)
      && decide ((e :: es).length + ([] : List Keyword).length + (if ([] : List Keyword).isEmpty then 0 else 1) < 30)) = true := by rfl)
    (hline : (apos.endLine == cpos.line) = true := by rfl) (hs : starEach (e :: es) X.env = (false, eval e X.env) :: starEach es X.env := by rfl) (hplain : (backTo cpos (starEach es X.env)).any (·.1) = false := by rfl) :
    PE X (.Call (.Attribute o name apos) (e :: es) [] cpos) (tBM X.K T r to t) := by
  intro pins s σ H Q I h
  refine wpAny_Call_method_late hbase hfew hline rfl (thn (ho pins s σ H _ I h) fun v s1 ⟨x, H1, I1, r1, ty, q1⟩ => ?_)
  obtain ⟨h1, h2⟩ := tyV_is I1 r1 ty
  refine ⟨T, id, pa, slot, hty, h1, h2, ?_⟩
  have hA := ha cpos pins s1 σ H1 _ I1 q1
  rw [hs] at hA ⊢
  refine Calls.callWith_builtin (by show (false || (backTo cpos (starEach es X.env)).any (·.1)) = false; rw [hplain] <;> rfl) (Calls.evalArgs_plain ?_)
  exact thn hA fun us s2 ⟨vs, H2, I2, r2, q2⟩ => hm pins s2 σ H2 x vs v us Q I2 r1 r2 q2
end
end L2
namespace L2
open PySem PySem.Spec PyProof.Rows
def MtM (X : Cx) (id : String) (r : V → List V → Hp → VK → Prop) : Prop :=
  ∀ (pins : List (Addr × Obj)) (s : Shared) (σ : St) (H : Hp) (x : V) (xs : List V) (v : Value) (us : List Value) (Q : VK), Inv X pins σ H s → RelV x v → Vals xs us → r x xs H Q →
    wpAny (model X.prog X.w) X.A (call (.builtin id) (v :: us)) (EP X pins σ Q) X.xe s
theorem Vals.one : ∀ {x : V} {us : List Value}, Vals [x] us → ∃ u, us = [u] ∧ RelV x u
  | _, _, .cons r .nil => ⟨_, rfl, r⟩
theorem Vals.rep {xs : List V} {us : List Value} (h : Vals xs us) : ∀ k : Nat, Vals (List.replicate k xs).flatten (List.replicate k us).flatten
  | 0 => .nil
  | k + 1 => by
    rw [List.replicate_succ, List.replicate_succ, List.flatten_cons, List.flatten_cons]
    exact Vals.append h (Vals.rep h k)
theorem foldl_rep (its : List Value) : ∀ (k : Nat) (acc : List Value),
    List.foldl (fun x1 x2 => x1 ++ x2) acc.toArray (List.replicate k its.toArray) = (acc ++ (List.replicate k its).flatten).toArray
  | 0, acc => by simp
  | k + 1, acc => by
    have e : acc.toArray ++ its.toArray = (acc ++ its).toArray := by simp
    have e2 : (acc ++ its) ++ (List.replicate k its).flatten = acc ++ (List.replicate (k + 1) its).flatten := by
      rw [List.replicate_succ, List.flatten_cons, List.append_assoc]
    rw [← e2, ← foldl_rep its k (acc ++ its), ← e, List.replicate_succ, List.foldl_cons]
section
variable {X : Cx} {pins : List (Addr × Obj)} {σ : St} {H : Hp} {s : Shared} {l b : Addr} {xs ys zs : List V}
theorem Inv.lset {its its' : List Value} {n : Nat} {f : Array Value → Array Value} {t' : Nat} (I : Inv X pins σ H s) (hH : H l = some (.lst xs))
    (e : s.heap.get? l = some { cls := .type "list", data := .seq its.toArray n }) (hf : f its.toArray = its'.toArray) (hv : Vals ys its') (hz : ys.length ≤ sizeLine) :
    Inv X pins σ (upd H l (.lst ys)) { s with heap := s.heap.update l (Obj.mapSeq f), toks := t' } := by
  have q := PySem.IsL.update e f
  rw [hf] at q
  refine I.write (x := l) (e := l) (by rw [hH]; exact trivial) (.inl rfl) (fun b' u hb hu => (Heap.get?_update_other s.heap (Obj.mapSeq f) (Ne.symm hb)).trans hu) ⟨_, q⟩ ?_
  exact ⟨hz, its', _, hv, q⟩
theorem Inv.lnew {its : List Value} {t' : Nat} (I : Inv X pins σ H s) (hv : Vals ys its) (hz : ys.length ≤ sizeLine) :
    Inv X pins σ (upd H s.heap.objs.size (.lst ys)) { s with heap := s.heap.push { cls := .type "list", data := .seq its.toArray }, toks := t' } :=
  I.laid (fun _ _ q => Heap.get?_push_of_some _ q) (Nat.le_refl _) ⟨hz, its, 0, hv, Heap.get?_push_size _ rfl⟩
theorem Inv.fresh (I : Inv X pins σ H s) : H s.heap.objs.size = none := I.hok.fresh (Nat.le_refl _)
theorem Inv.lstM (I : Inv X pins σ H s) (hH : H l = some (.lst xs)) : xs.length ≤ sizeLine ∧ ∃ (its : List Value) (n : Nat), Vals xs its ∧ xs.length = its.length ∧ s.heap.get? l = some { cls := .type "list", data := .seq its.toArray n } := by
  obtain ⟨z, its, n, r, e⟩ := I.hok l _ hH
  exact ⟨z, its, n, r, r.length, e⟩
theorem notLongL {n : Nat} (h : n ≤ sizeLine) : Builtin.List.listTooLong n = false := by
  unfold Builtin.List.listTooLong
  exact decide_eq_false (by omega)
end
section
variable {X : Cx}
def rAppend : V → List V → Hp → VK → Prop := fun x vs H Q => ∃ l xs y, x = .ref l ∧ vs = [y] ∧ H l = some (.lst xs) ∧ xs.length < sizeLine ∧ Q .non (upd H l (.lst (xs ++ [y])))
theorem mt_append : MtM X "list.append" rAppend := by
  intro pins s σ H x vs v us Q I rx rv h
  obtain ⟨l, xs, y, rfl, rfl, hH, hz, q⟩ := h
  cases rx
  obtain ⟨u, rfl, ru⟩ := rv.one
  obtain ⟨z, its, n, r, hl, e⟩ := I.lstM hH
  refine call_meets F.slot_list_append ⟨_, e, rfl⟩ F.entry_list_append (F.args_list_append_2 _ _) (PySem.list_append l its.toArray n u (by rw [List.size_toArray]; omega)) ⟨e, ?_⟩
  refine ⟨.non, _, I.lset (its' := its ++ [u]) hH e (by simp) (r.append (.cons ru .nil)) ?_, rfl, q⟩
  rw [List.length_append, List.length_singleton]
  omega
theorem len_rep {α : Type} (xs : List α) (k : Nat) : (List.replicate k xs).flatten.length = k * xs.length := by
  induction k with
  | zero => simp
  | succ k ih => rw [List.replicate_succ, List.flatten_cons, List.length_append, ih, Nat.succ_mul, Nat.add_comm]
end
section
variable {prog : Program} {w : World} {A : Around} {E : Value → Shared → Prop} {s : Shared}
end
section
variable {X : Cx}
end
end L2
namespace L2
open PySem PySem.Spec PyProof.Rows
theorem Vals.ints : ∀ {ns : List Int} {us : List Value}, Vals (ns.map V.int) us → IntsAre us ns
  | [], us, h => by
    rw [List.map_nil] at h
    cases h
    exact IntsAre.nil
  | n :: ns, us, h => by
    rw [List.map_cons] at h
    cases h with
    | cons r t =>
      obtain ⟨k, rfl⟩ := r
      exact IntsAre.cons n k (Vals.ints t)
theorem vals_of_ints : ∀ {us : List Value} {ns : List Int}, IntsAre us ns → Vals (ns.map V.int) us
  | _, _, .nil => by rw [List.map_nil]; exact Paired.nil
  | _, _, .cons n t h => by rw [List.map_cons]; exact Paired.cons (show RelV (V.int n) (Value.int n t) from ⟨t, rfl⟩) (vals_of_ints h)
theorem Vals.ref1 {a : Addr} {us : List Value} (r : Vals [V.ref a] us) : us = [Value.ref a] := by
  cases r with
  | cons r t =>
    cases t
    cases r
    rfl
section
variable {prog : Program} {w : World} {A : Around} {E : Value → Shared → Prop} {s : Shared} {l : Addr} {its : List Value} {ns : List Int} {Q : Value → Shared → Prop}
end
section
variable {X : Cx}
def rSorted (K : PySem.W.Frag) : List V → Hp → VK → Prop := fun vs H Q => ∃ (a : Addr) (ns : List Int), vs = [V.ref a] ∧ SqL K H a (ns.map V.int) ∧ ns.length < 64 ∧
  ∀ (ns' : List Int) (p : Addr), ns'.Perm ns → ns'.Pairwise (· ≤ ·) → H p = none → Q (.ref p) (upd H p (.lst (ns'.map V.int)))
theorem small64 {n : Nat} (h : n < 64) : n ≤ sizeLine := by rw [sizeLine_eq]; omega
theorem cr_sorted : CallR X (.builtin "sorted") (rSorted X.K) := by
  intro pins s σ H vs us Q I r h
  obtain ⟨a, ns, rfl, hs, h64, q⟩ := h
  obtain ⟨its, rv, hl, _⟩ := I.list hs
  rw [Vals.ref1 r]
  have hi := rv.ints
  refine PyProof.Rows.sorted_ints hl.isList hi (by rw [hi.length]; exact h64) fun out ns' h1 h2 h3 => ?_
  obtain ⟨ep, he'⟩ := PyProof.Rows.sortedAll_at s.heap its out
  have hlen : (ns'.map V.int).length ≤ sizeLine := by rw [List.length_map, h2.length_eq]; exact small64 h64
  exact ⟨.ref _, upd H (s.heap.objs.size + 1) (.lst (ns'.map V.int)), I.laid (t' := s.toks) (fun _ _ => PyProof.Rows.sortedAll_old) (Nat.le_succ _) ⟨hlen, out.toList, ep, vals_of_ints h1, he'⟩, rfl, q ns' _ h2 h3 (I.hok.fresh (Nat.le_succ _))⟩
end
section
variable {X : Cx}
end
section
variable {X : Cx}
end
section
variable {X : Cx}
end
mutual
inductive Dp (K : PySem.W.Frag) (H : Hp) : V → PyData → Prop
  | non : Dp K H .non .none
  | bl (b : Bool) : Dp K H (.bl b) (.bool b)
  | int (i : Int) : Dp K H (.int i) (.int i)
  | str (x : Str) : Dp K H (.str x) (.str x)
  | lst {a : Addr} {xs : List V} {ds : List PyData} : SqL K H a xs → DpAll K H xs ds → Dp K H (.ref a) (.list ds)
  | tup {a : Addr} {xs : List V} {ds : List PyData} : SqT K H a xs → DpAll K H xs ds → Dp K H (.ref a) (.tuple ds)
inductive DpAll (K : PySem.W.Frag) (H : Hp) : List V → List PyData → Prop
  | nil : DpAll K H [] []
  | cons {v : V} {vs : List V} {d : PyData} {ds : List PyData} : Dp K H v d → DpAll K H vs ds → DpAll K H (v :: vs) (d :: ds)
end
section
variable {X : Cx} {pins : List (Addr × Obj)} {σ : St} {H : Hp} {s : Shared}
mutual
theorem Dp.reads (I : Inv X pins σ H s) : ∀ (d : PyData) (v : V) (u : Value), Dp X.K H v d → RelV v u → ∃ as, Reads s.heap u d as
  | .none, _, _, h, r => by
    cases h
    cases r
    exact ⟨_, Reads.none⟩
  | .bool b, _, _, h, r => by
    cases h
    cases r
    exact ⟨_, Reads.bool b⟩
  | .int i, _, _, h, r => by
    cases h
    obtain ⟨t, rfl⟩ := r
    exact ⟨_, Reads.int i t⟩
  | .str x, _, _, h, r => by
    cases h
    obtain ⟨t, rfl⟩ := r
    exact ⟨_, Reads.str x t⟩
  | .list ds, _, _, h, r => by
    cases h with
    | lst hs ha =>
      cases r
      obtain ⟨its, rv, ⟨o, n, ho, hc, _, hd⟩, _⟩ := I.list hs
      obtain ⟨as, hr⟩ := Dp.readsAll I ds _ its ha rv
      exact ⟨_, Reads.list ho hc hd hr⟩
  | .tuple ds, _, _, h, r => by
    cases h with
    | tup hs ha =>
      cases r
      obtain ⟨its, rv, ⟨o, ho, hc, n, hd⟩, _⟩ := I.tuple hs
      obtain ⟨as, hr⟩ := Dp.readsAll I ds _ its ha rv
      exact ⟨_, Reads.tuple ho hc hd hr⟩
  | .dict _, _, _, h, _ => by cases h
theorem Dp.readsAll (I : Inv X pins σ H s) : ∀ (ds : List PyData) (vs : List V) (us : List Value), DpAll X.K H vs ds → Vals vs us → ∃ as, ReadsAll s.heap us ds as
  | [], _, _, h, r => by
    cases h
    cases r
    exact ⟨_, ReadsAll.nil⟩
  | d :: ds, _, _, h, r => by
    cases h with
    | cons h1 h2 =>
      cases r with
      | cons r1 r2 =>
        obtain ⟨as, q1⟩ := Dp.reads I d _ _ h1 r1
        obtain ⟨bs, q2⟩ := Dp.readsAll I ds _ _ h2 r2
        exact ⟨_, ReadsAll.cons q1 q2⟩
end
end
section
variable {X : Cx}
def rNeD (K : PySem.W.Frag) : R2 := fun x y H Q => ∃ d e, Dp K H x d ∧ Dp K H y e ∧ SeqAt.shaped d = true ∧ SeqAt.shaped e = true ∧ Q (.bl (!PyData.eqv d e)) H
theorem op_neD (hu : X.A.units + 64 < cLine) : OpR X (compareOp .NotEq) (rNeD X.K) := by
  intro pins s σ H x y v u Q I rx ry h
  obtain ⟨d, e, hd, he, sd, se, q⟩ := h
  obtain ⟨as, r1⟩ := Dp.reads I d x v hd rx
  obtain ⟨bs, r2⟩ := Dp.reads I e y u he ry
  exact SeqAt.compareNe_shaped r1 r2 sd se hu ⟨.bl _, H, I, rfl, q⟩
end
end L2
namespace L2
open PySem PySem.Spec PyProof.Rows
abbrev CellAt (h : Heap) (c : Addr) (v : Option Value) : Prop := h.IsCell c v
def relS (scope sc : Scope) : Scope :=
  { scope with names := scope.names.map fun (n, k) => if (k == .free && sc.kind == .function && sc.names.lookup n == some .cell) then (n, .cell) else (n, k) }
def cloFrom (cells : List (Str × Addr)) : List (Str × NameKind) → List (Str × Addr) → List (Str × Addr)
  | [], acc => acc
  | (n, k) :: r, acc => if k == .free then cloFrom cells r ((n, (cells.lookup n).getD 0) :: acc) else cloFrom cells r acc
theorem closure_loop (env : Env) (f : Str × NameKind → List (Str × Addr) → Sem (ForInStep (List (Str × Addr))))
    (hf : ∀ n k c, f (n, k) c = if k == .free then (do let a ← cellOf env n; pure (.yield ((n, a) :: c))) else pure (.yield c)) :
    ∀ (names : List (Str × NameKind)) (acc : List (Str × Addr)), (∀ y ∈ names, y.2 = .free → ∃ c, env.cells.lookup y.1 = some c) → forIn names acc f = pure (cloFrom env.cells names acc)
  | [], acc, _ => by rw [List.forIn_nil]; rfl
  | (n, k) :: r, acc, h => by
    rw [List.forIn_cons, hf]
    have ih := fun acc => closure_loop env f hf r acc fun y hy => h y (List.mem_cons_of_mem _ hy)
    unfold cloFrom
    by_cases hk : (k == NameKind.free) = true
    · rw [if_pos hk, if_pos hk]
      obtain ⟨c, hc⟩ := h (n, k) List.mem_cons_self (by simpa using hk)
      have e : cellOf env n = pure c := by unfold cellOf; rw [hc]
      rw [e]
      have e2 : (env.cells.lookup n).getD 0 = c := by rw [hc]; rfl
      rw [e2]
      exact ih _
    · rw [if_neg hk, if_neg hk]
      exact ih _
theorem closure_ok {scope : Scope} {env : Env} (h : ∀ y ∈ scope.names, y.2 = .free → ∃ c, env.cells.lookup y.1 = some c) : closureFor scope env = pure (cloFrom env.cells scope.names []) := by
  simp only [closureFor]
  rw [closure_loop env _ (fun n k c => rfl) scope.names [] h]
  rfl
theorem mem_lookup {α : Type} : ∀ {l : List (Str × α)} {n : Str} {c : α}, (n, c) ∈ l → ∃ c', l.lookup n = some c'
  | (k, v) :: r, n, c, h => by
    rw [List.lookup_cons]
    cases hb : n == k with
    | true => exact ⟨_, rfl⟩
    | false =>
      rcases List.mem_cons.mp h with e | h
      · cases e; simp at hb
      · exact mem_lookup h
theorem cloFrom_mem {cells : List (Str × Addr)} : ∀ {names : List (Str × NameKind)} {acc : List (Str × Addr)} {n : Str} {c : Addr}, (n, c) ∈ cloFrom cells names acc → (n, c) ∈ acc ∨ ((n, .free) ∈ names ∧ c = (cells.lookup n).getD 0)
  | [], _, _, _, h => .inl h
  | (m, k) :: r, acc, n, c, h => by
    unfold cloFrom at h
    split at h
    · rename_i hk
      have hk : k = .free := by simpa using hk
      rcases cloFrom_mem h with h | ⟨h1, h2⟩
      · rcases List.mem_cons.mp h with e | h
        · cases e; exact .inr ⟨hk ▸ List.mem_cons_self, rfl⟩
        · exact .inl h
      · exact .inr ⟨List.mem_cons_of_mem _ h1, h2⟩
    · rcases cloFrom_mem h with h | ⟨h1, h2⟩
      · exact .inl h
      · exact .inr ⟨List.mem_cons_of_mem _ h1, h2⟩
theorem cloFrom_acc {cells : List (Str × Addr)} : ∀ {names : List (Str × NameKind)} {acc : List (Str × Addr)} {p : Str × Addr}, p ∈ acc → p ∈ cloFrom cells names acc
  | [], _, _, h => h
  | (m, k) :: r, acc, p, h => by
    unfold cloFrom
    split
    · exact cloFrom_acc (List.mem_cons_of_mem _ h)
    · exact cloFrom_acc h
theorem cloFrom_has {cells : List (Str × Addr)} : ∀ {names : List (Str × NameKind)} {acc : List (Str × Addr)} {n : Str}, (n, .free) ∈ names → (n, (cells.lookup n).getD 0) ∈ cloFrom cells names acc
  | (m, k) :: r, acc, n, h => by
    unfold cloFrom
    rcases List.mem_cons.mp h with e | h
    · cases e
      exact cloFrom_acc List.mem_cons_self
    · split
      · exact cloFrom_has h
      · exact cloFrom_has h
theorem cells_mem : ∀ {names : List (Str × NameKind)} {h : Heap} {acc : List (Str × Addr)} {x : Str} {c : Addr}, (x, c) ∈ cellsFrom h.objs.size names acc →
    (x, c) ∈ acc ∨ ((x, .cell) ∈ names ∧ h.objs.size ≤ c ∧ CellAt (pushCells h names) c none)
  | [], _, _, _, _, h => .inl h
  | (n, k) :: r, h, acc, x, c, hm => by
    unfold cellsFrom at hm
    unfold pushCells
    split at hm
    · rename_i hk
      rw [if_pos hk]
      have hk : k = .cell := by simpa using hk
      rw [← Heap.size_push h { cls := .type "cell", data := .cell none }] at hm
      rcases cells_mem hm with hm | ⟨h1, h2, h3⟩
      · rcases List.mem_cons.mp hm with e | hm
        · cases e
          exact .inr ⟨hk ▸ List.mem_cons_self, Nat.le_refl _, _, pushCells_keeps r _ _ _ (Heap.get?_push_size _ rfl), rfl⟩
        · exact .inl hm
      · rw [Heap.size_push] at h2
        exact .inr ⟨List.mem_cons_of_mem _ h1, Nat.le_of_succ_le h2, h3⟩
    · rename_i hk
      rw [if_neg hk]
      rcases cells_mem hm with hm | ⟨h1, h2, h3⟩
      · exact .inl hm
      · exact .inr ⟨List.mem_cons_of_mem _ h1, h2, h3⟩
theorem cells_acc : ∀ {names : List (Str × NameKind)} {n : Nat} {acc : List (Str × Addr)} {p : Str × Addr}, p ∈ acc → p ∈ cellsFrom n names acc
  | [], _, _, _, h => h
  | (m, k) :: r, n, acc, p, h => by
    unfold cellsFrom
    split
    · exact cells_acc (List.mem_cons_of_mem _ h)
    · exact cells_acc h
theorem cells_has : ∀ {names : List (Str × NameKind)} {n : Nat} {acc : List (Str × Addr)} {x : Str}, (x, .cell) ∈ names → ∃ c, (x, c) ∈ cellsFrom n names acc
  | (m, k) :: r, n, acc, x, h => by
    unfold cellsFrom
    rcases List.mem_cons.mp h with e | h
    · cases e
      exact ⟨n, cells_acc List.mem_cons_self⟩
    · split
      · exact cells_has h
      · exact cells_has h
theorem cells_inj : ∀ {names : List (Str × NameKind)} {h : Heap} {acc : List (Str × Addr)} {x y : Str} {c : Addr}, (∀ p ∈ acc, p.2 < h.objs.size) → (∀ x y c, (x, c) ∈ acc → (y, c) ∈ acc → x = y) →
    (x, c) ∈ cellsFrom h.objs.size names acc → (y, c) ∈ cellsFrom h.objs.size names acc → x = y
  | [], _, _, _, _, _, _, hi, h1, h2 => hi _ _ _ h1 h2
  | (n, k) :: r, h, acc, x, y, c, hl, hi, h1, h2 => by
    unfold cellsFrom at h1 h2
    split at h1
    · rename_i hk
      rw [if_pos hk] at h2
      rw [← Heap.size_push h { cls := .type "cell", data := .cell none }] at h1 h2
      refine cells_inj (h := h.push _) (fun p hp => ?_) (fun x y c a b => ?_) h1 h2
      · rw [Heap.size_push]
        rcases List.mem_cons.mp hp with rfl | hp
        · exact Nat.lt_succ_self _
        · exact Nat.lt_succ_of_lt (hl p hp)
      · rcases List.mem_cons.mp a with e | a <;> rcases List.mem_cons.mp b with e' | b
        · cases e; cases e'; rfl
        · cases e; exact absurd (hl _ b) (Nat.lt_irrefl _)
        · cases e'; exact absurd (hl _ a) (Nat.lt_irrefl _)
        · exact hi _ _ _ a b
    · rename_i hk
      rw [if_neg hk] at h2
      exact cells_inj hl hi h1 h2
theorem newEnv_comp {M : Model} {A : Around} {E : Value → Shared → Prop} {s : Shared} {scope : Scope} {globals : Addr} {closure : List (Str × Addr)} {qual : Str} {func : Option Addr} {code : Value} {around : Env} {builtins : Addr} {Q : Env → Shared → Prop}
    (h : Q (newEnv scope s.heap.objs.size globals (cellsFrom (s.heap.objs.size + 1) scope.names closure) qual func code (some around) builtins)
      { s with heap := pushCells (s.heap.push { cls := .type "dict", data := .dict #[] }) scope.names }) :
    wpAny M A (newFunctionEnv scope globals closure [] qual func code (some around) builtins) Q E s := by
  simp only [newFunctionEnv, Option.isSome_some, if_true]
  refine wpAny_bind (wpAny_alloc ?_)
  refine wpAny_bind (wpAny_layCells _ (fun n k c => rfl) scope.names closure _ _ ?_)
  rw [show ({ s with heap := s.heap.push { cls := .type "dict", data := .dict #[] } } : Shared).heap.objs.size = s.heap.objs.size + 1 from Heap.size_push ..]
  rw [List.forIn_nil]
  exact wpAny_bind (wpAny_pure (wpAny_pure h))
theorem lookup_relS {sc : Scope} : ∀ {names : List (Str × NameKind)} {x : Str} {k : NameKind},
    (names.map fun (n, k) => if (k == NameKind.free && sc.kind == .function && sc.names.lookup n == some .cell) then (n, NameKind.cell) else (n, k)).lookup x = some k →
    ∃ k', names.lookup x = some k' ∧ (k = k' ∨ (k' = .free ∧ k = .cell))
  | [], _, _, h => by simp at h
  | (n, k₀) :: r, x, k, h => by
    have ih := @lookup_relS sc r x k
    have h' : List.lookup x ((if (k₀ == NameKind.free && sc.kind == .function && sc.names.lookup n == some .cell) = true then (n, NameKind.cell) else (n, k₀)) :: (r.map _)) = some k := h
    cases hx : x == n with
    | true =>
      simp only [List.lookup_cons, hx]
      by_cases hc : (k₀ == NameKind.free && sc.kind == .function && sc.names.lookup n == some .cell) = true
      · rw [if_pos hc] at h'
        simp only [List.lookup_cons, hx] at h'
        cases h'
        simp only [Bool.and_eq_true, beq_iff_eq] at hc
        exact ⟨k₀, rfl, .inr ⟨hc.1.1, rfl⟩⟩
      · rw [if_neg hc] at h'
        simp only [List.lookup_cons, hx] at h'
        cases h'
        exact ⟨_, rfl, .inl rfl⟩
    | false =>
      simp only [List.lookup_cons, hx]
      by_cases hc : (k₀ == NameKind.free && sc.kind == .function && sc.names.lookup n == some .cell) = true
      · rw [if_pos hc] at h'
        simp only [List.lookup_cons, hx] at h'
        exact ih h'
      · rw [if_neg hc] at h'
        simp only [List.lookup_cons, hx] at h'
        exact ih h'
structure BlkOk (N : List Str) (sc scope : Scope) (own : List (Str × Nat)) : Prop where
  kind : scope.kind = .function
  uniq : ∀ y ∈ scope.names, scope.names.lookup y.1 = some y.2
  ix : ∀ p ∈ own, N[p.2]? = some p.1
  free : ∀ y ∈ scope.names, y.2 = .free → sc.names.lookup y.1 = some .cell ∨ sc.names.lookup y.1 = some .free
  own : ∀ y ∈ scope.names, y.2 = .local ∨ y.2 = .cell → y.1 ∈ own.map (·.1) ∨ y.1 ∉ N
def wipe (σ : St) : List Nat → St
  | [] => σ
  | v :: vs => (wipe σ vs).set v none
theorem wipe_length (σ : St) : ∀ vs : List Nat, (wipe σ vs).length = σ.length
  | [] => rfl
  | v :: vs => by unfold wipe; rw [List.length_set, wipe_length σ vs]
theorem wipe_some {σ : St} {i : Nat} {x : V} : ∀ {vs : List Nat}, (wipe σ vs)[i]? = some (some x) → σ[i]? = some (some x) ∧ i ∉ vs
  | [], h => ⟨h, by simp⟩
  | v :: vs, h => by
    unfold wipe at h
    by_cases hi : v = i
    · subst hi
      by_cases hv : v < (wipe σ vs).length
      · rw [List.getElem?_set_self hv] at h; cases h
      · rw [List.getElem?_eq_none (by simpa using hv)] at h; cases h
    · rw [List.getElem?_set_ne hi] at h
      obtain ⟨h1, h2⟩ := wipe_some h
      exact ⟨h1, by simp only [List.mem_cons, not_or]; exact ⟨fun e => hi e.symm, h2⟩⟩
abbrev Cx.blk (X : Cx) (s : Shared) (H : Hp) (scope : Scope) (cenv : Env) (fp : List Addr) : Cx := { X with s_0 := s, H_0 := H, env := cenv, outer := X.stack, ex := fp, fn := fun x => scope.names.lookup x == some .cell, pn := [], xe := fun _ _ => False }
section
variable {X : Cx} {pins : List (Addr × Obj)} {σ : St} {H : Hp} {s : Shared}
theorem block_start {scope : Scope} {own : List (Str × Nat)} {fp : List Addr} (I : Inv X pins σ H s) (ok : BlkOk X.N X.env.scope scope own) (hN : X.N.Nodup) (hfp : ∀ b ∈ fp, FpOk X pins H b ∧ b < s.heap.objs.size) :
    Inv (X.blk s H scope (compEnvC scope (cellsFrom (s.heap.objs.size + 1) scope.names (cloFrom X.env.cells scope.names [])) s.heap.objs.size X.env) fp) [] (wipe σ (own.map (·.2))) H { s with heap := pushCells (s.heap.push { cls := .type "dict", data := .dict #[] }) scope.names } := by
  have hfree : ∀ y ∈ scope.names, y.2 = .free → ∃ c, X.env.cells.lookup y.1 = some c := fun y hy e => by
    rcases ok.free y hy e with k | k
    · exact I.ok.has _ (.inl k)
    · exact I.ok.has _ (.inr k)
  generalize hcenv : compEnvC scope (cellsFrom (s.heap.objs.size + 1) scope.names (cloFrom X.env.cells scope.names [])) s.heap.objs.size X.env = cenv
  have kp : ∀ b o, s.heap.get? b = some o → (pushCells (s.heap.push { cls := .type "dict", data := .dict #[] }) scope.names).get? b = some o := fun b o e => pushCells_keeps _ _ _ _ (Heap.get?_push_of_some _ e)
  have hL : cenv.locals = s.heap.objs.size := by rw [← hcenv]; rfl
  have hcl : cenv.cells = cellsFrom (s.heap.objs.size + 1) scope.names (cloFrom X.env.cells scope.names []) := by rw [← hcenv]; rfl
  have hsc : cenv.scope = relS scope X.env.scope := by rw [← hcenv]; rfl
  rw [← Heap.size_push s.heap { cls := .type "dict", data := .dict #[] }] at hcl
  have cm : ∀ {y c}, (y, c) ∈ cloFrom X.env.cells scope.names [] → X.env.cells.lookup y = some c ∧ c < s.heap.objs.size := fun {y c} hm => by
    rcases cloFrom_mem hm with hm | ⟨h1, rfl⟩
    · cases hm
    · obtain ⟨c, hc⟩ := hfree _ h1 rfl
      rw [hc]
      obtain ⟨w, z⟩ := I.cell _ _ hc
      exact ⟨rfl, z.lt⟩
  have mem : ∀ {y c}, cenv.cells.lookup y = some c → (X.env.cells.lookup y = some c ∧ c < s.heap.objs.size) ∨ (s.heap.objs.size + 1 ≤ c ∧ CellAt (pushCells (s.heap.push { cls := .type "dict", data := .dict #[] }) scope.names) c none) := fun {y c} e => by
    rw [hcl] at e
    rcases cells_mem (PySem.mem_of_lookup e) with hm | ⟨_, h2, h3⟩
    · exact .inl (cm hm)
    · rw [Heap.size_push] at h2; exact .inr ⟨h2, h3⟩
  have look : ∀ {y}, scope.names.lookup y = some .free → ∃ c, cenv.cells.lookup y = some c ∧ X.env.cells.lookup y = some c := fun {y} hl => by
    have hy : (y, NameKind.free) ∈ scope.names := PySem.mem_of_lookup hl
    obtain ⟨c', e'⟩ := mem_lookup (cells_acc (names := scope.names) (n := (s.heap.push { cls := .type "dict", data := .dict #[] }).objs.size) (cloFrom_has (cells := X.env.cells) (acc := []) hy))
    rw [← hcl] at e'
    refine ⟨c', e', ?_⟩
    rw [hcl] at e'
    rcases cells_mem (PySem.mem_of_lookup e') with hm | ⟨h1, _, _⟩
    · exact (cm hm).1
    · have := ok.uniq _ h1
      rw [hl] at this; cases this
  have okB : (X.blk s H scope cenv fp).Ok := by
    refine ⟨I.ok.mod, by show cenv.scope.kind = _; rw [hsc]; exact ok.kind, by show cenv.globals = _; rw [← hcenv]; exact I.ok.glob, by show cenv.builtins = _; rw [← hcenv]; exact I.ok.blt, by show s.heap.objs.size ≤ cenv.locals; rw [hL]; exact Nat.le_refl _,
      fun y z c e1 e2 => ?_, fun y hy => ?_, fun y c z e => ?_, I.ok.hd, I.ok.frames, .inl rfl, fun b hb => ⟨?_, fun y c e z => ?_⟩, I.bs, Nat.le_trans I.ok.bsz I.sz, fun b o e hb => ?_, fun b hb z => ?_, I.stack, I.stkFree⟩
    · have e1 : cenv.cells.lookup y = some c := e1
      have e2 : cenv.cells.lookup z = some c := e2
      rw [hcl] at e1 e2
      refine cells_inj (fun p hp => ?_) (fun y z c a b => I.ok.inj y z c (cm a).1 (cm b).1) (PySem.mem_of_lookup e1) (PySem.mem_of_lookup e2)
      rw [Heap.size_push]
      exact Nat.lt_succ_of_lt (cm (y := p.1) (c := p.2) hp).2
    · show ∃ c, cenv.cells.lookup y = some c
      have key : ∀ k, cenv.kindOf y = some k → (k = .cell ∨ k = .free) → ∃ c, cenv.cells.lookup y = some c := fun k hk hk' => by
        unfold Env.kindOf at hk
        rw [hsc] at hk
        obtain ⟨k', e, r⟩ := lookup_relS hk
        have : k' = .cell ∨ k' = .free := by
          rcases r with rfl | ⟨rfl, _⟩
          · exact hk'
          · exact .inr rfl
        rcases this with rfl | rfl
        · obtain ⟨c, hm⟩ := cells_has (n := (s.heap.push { cls := .type "dict", data := .dict #[] }).objs.size) (acc := cloFrom X.env.cells scope.names []) (PySem.mem_of_lookup e)
          obtain ⟨c', e'⟩ := mem_lookup hm
          exact ⟨c', by rw [hcl]; exact e'⟩
        · obtain ⟨c, h1, _⟩ := look e
          exact ⟨c, h1⟩
      rcases hy with hy | hy
      · exact key _ hy (.inl rfl)
      · exact key _ hy (.inr rfl)
    · have z : (scope.names.lookup y == some NameKind.cell) = true := z
      have z : scope.names.lookup y = some .cell := by simpa using z
      have e : cenv.cells.lookup y = some c := e
      rw [hcl] at e
      rcases cells_mem (PySem.mem_of_lookup e) with hm | ⟨_, h2, _⟩
      · rcases cloFrom_mem hm with hm | ⟨h1, _⟩
        · cases hm
        · have q := ok.uniq _ h1
          rw [z] at q; cases q
      · rw [Heap.size_push] at h2
        exact Nat.le_of_succ_le h2
    · show b ≠ cenv.locals
      rw [hL]; exact Nat.ne_of_lt (hfp b hb).2
    · have e : cenv.cells.lookup y = some c := e
      rcases mem e with ⟨h1, _⟩ | ⟨h1, _⟩
      · exact (hfp b hb).1.2.2.2.2.1 y c h1 z
      · have h2 : s.heap.objs.size + 1 ≤ b := by rw [← z]; exact h1
        exact absurd (Nat.lt_of_lt_of_le (hfp b hb).2 (Nat.le_of_succ_le h2)) (Nat.lt_irrefl _)
    · rcases (hfp b hb).1.2.2.2.1 with z | z
      · exact I.ok.noex b o e z
      · exact absurd (Nat.lt_of_lt_of_le (Heap.lt_size e) (Nat.le_trans I.ok.bsz z)) (Nat.lt_irrefl _)
    · rcases List.mem_cons.mp (I.stkSub b z) with z | z
      · exact (hfp b hb).1.2.1 z
      · exact (hfp b hb).1.2.2.1 z
  refine ⟨okB, rfl, I.bare, Un.kept kp, ⟨fun _ => none, ?_, fun i y av e1 e2 e3 => ?_⟩, fun y c e => ?_, ?_, fun y c e => ?_, fun p hp => ?_, I.hok.kept kp, by rw [wipe_length]; exact I.len⟩
  · show Heap.Ns _ cenv.locals _
    rw [hL]
    exact Heap.Ns.keeps (Heap.Ns.new ..) fun b o e => pushCells_keeps _ _ _ _ e
  · obtain ⟨e2, hne⟩ := wipe_some e2
    have hfr : scope.names.lookup y = some .free ∧ (cenv.kindOf y = some .cell ∨ cenv.kindOf y = some .free) := by
      have key : ∀ k, cenv.scope.names.lookup y = some k → k = .local ∨ k = .cell ∨ k = .free → scope.names.lookup y = some .free ∧ (cenv.kindOf y = some .cell ∨ cenv.kindOf y = some .free) := fun k hk hk' => by
        have hk0 := hk
        rw [hsc] at hk
        obtain ⟨k', e, r⟩ := lookup_relS hk
        have no : ¬ (k' = .local ∨ k' = .cell) := fun hh => by
          rcases ok.own _ (PySem.mem_of_lookup e) hh with e' | e'
          · obtain ⟨p, hp, hpy⟩ := List.mem_map.mp e'
            have e3 := ok.ix p hp
            have : p.1 = y := hpy
            rw [this] at e3
            exact hne (List.mem_map.mpr ⟨p, hp, nodup_ix hN e3 e1⟩)
          · exact e' (List.mem_of_getElem? e1)
        rcases r with rfl | ⟨rfl, rfl⟩
        · rcases hk' with rfl | rfl | rfl
          · exact absurd (.inl rfl) no
          · exact absurd (.inr rfl) no
          · exact ⟨e, .inr hk0⟩
        · exact ⟨e, .inl hk0⟩
      have e3 : Vis cenv.scope y := e3
      rcases e3 with e3 | e3 | e3
      · exact key _ e3 (.inl rfl)
      · exact key _ e3 (.inr (.inl rfl))
      · exact key _ e3 (.inr (.inr rfl))
    obtain ⟨m, hn, hl⟩ := I.loc
    have hvis : Vis X.env.scope y := (ok.free _ (PySem.mem_of_lookup hfr.1) rfl).elim (fun k => .inr (.inl k)) (fun k => .inr (.inr k))
    obtain ⟨w, r, q⟩ := hl i y av e1 e2 hvis
    refine ⟨w, r, .inr ⟨hfr.2, ?_⟩⟩
    obtain ⟨c, h1, h2⟩ := look hfr.1
    rcases q with ⟨k, _⟩ | ⟨_, c', e', z⟩
    · have k : X.env.scope.names.lookup y = some .local := k
      rcases ok.free _ (PySem.mem_of_lookup hfr.1) rfl with k' | k' <;> rw [show X.env.scope.names.lookup y = _ from k'] at k <;> cases k
    · rw [h2] at e'; cases e'
      exact ⟨c, h1, z.keeps kp⟩
  · have e : cenv.cells.lookup y = some c := e
    rcases mem e with ⟨h1, _⟩ | ⟨_, z⟩
    · obtain ⟨w, z⟩ := I.cell y c h1
      exact ⟨w, z.keeps kp⟩
    · exact ⟨_, z⟩
  · show H cenv.locals = none
    rw [hL]; exact I.hok.fresh (Nat.le_refl _)
  · have e : cenv.cells.lookup y = some c := e
    rcases mem e with ⟨h1, _⟩ | ⟨h1, _⟩
    · exact I.freeC y c h1
    · exact I.hok.fresh (Nat.le_of_succ_le h1)
  · exact absurd (show p ∈ ([] : List (Addr × Obj)) ++ [] from hp) (by simp)
theorem app_ok {E : Value → Shared → Prop} {D : Addr} {xs : List V} {y : V} {v : Value} {Q : Value → Shared → Prop} (I : Inv X pins σ H s) (hD : H D = some (.lst xs)) (hz : xs.length < sizeLine) (r : RelV y v)
    (h : ∀ s', Inv X pins σ (upd H D (.lst (xs ++ [y]))) s' → Q .none s') : wpAny (model X.prog X.w) X.A (call (.builtin "list.append") [.ref D, v]) Q E s := by
  obtain ⟨hz', its, n, ri, e⟩ := I.hok D _ hD
  have hl := ri.length
  refine append_at (hsz := by rw [List.size_toArray]; omega) e fun h' sb ho' => ?_
  refine h { s with heap := h' } (I.write (t' := s.toks) (by rw [hD]; trivial) (.inl rfl) (fun b u hb q => (sb.2 b hb).trans q) ⟨_, ho'⟩ ⟨by rw [List.length_append]; exact hz, its ++ [v], n + 1, ri.append (.cons r .nil), ?_⟩)
  rw [ho']
  simp
def PTs (X : Cx) (ifs : List Expr) (t : TT) : Prop :=
  ∀ (pins : List (Addr × Obj)) (s : Shared) (σ : St) (H : Hp) (Q : Bool → Hp → Prop), Inv X pins σ H s → t σ H Q →
    wpAny (model X.prog X.w) X.A (forIn ifs true fun c r => if r = true then do let ok ← isTrue c X.env (eval c X.env); pure (ForInStep.yield ok) else pure (ForInStep.yield r)) (TP X pins σ Q) X.xe s
def tYes : TT := fun _ H Q => Q true H
theorem pts_nil : PTs X [] tYes := fun _ _ _ H _ I h => wpAny_tests_nil ⟨H, I, h⟩
theorem pts_one {c : Expr} {t : TT} (h : PT X c t) : PTs X [c] t := fun pins s σ H Q I hw => wpAny_tests_one (h pins s σ H Q I hw)
end
theorem thnF {α : Type} {t : Sem α} {Q Q' : α → Shared → Prop} {M : Model} {A : Around} {E : Value → Shared → Prop} {s : Shared} (h : wpAny M A t Q (fun _ _ => False) s) (hQ : ∀ a s, Q a s → Q' a s) : wpAny M A t Q' E s := wpAny_mono h hQ fun _ _ z => False.elim z
theorem compLoop_any {prog : Program} {w : World} {A : Around} {R : Result → Shared → Prop} {s : Shared} {elt target iter : Expr} {ifs : List Expr} {scope : Scope} {pos : Pos} {it acc : Value} {env : Env} (I : Nat → Shared → Prop)
    (turn : ∀ n s, I n s → wpAny (model prog w) A (pyNext it) (fun r s₁ => match r with
      | none => R (.ok .next) s₁
      | some v => wpAny (model prog w) A (letOwnedTupleGo target it v) (fun _ s₁' => wpAny (model prog w) A (assign target env v) (fun _ s₂ =>
          wpAny (model prog w) A (forIn ifs true fun c r => if r = true then do let ok ← isTrue c env (eval c env); pure (ForInStep.yield ok) else pure (ForInStep.yield r)) (fun ok s₃ =>
            if ok = true then wpAny (model prog w) A (eval elt env) (fun x s₄ =>
              wpAny (model prog w) A (call (.builtin "list.append") [acc, x]) (fun _ s₅ => ∃ m, m < n ∧ I m s₅) (notedBy (model prog w) A env fun e s' => R (.error e) s') s₄) (notedBy (model prog w) A env fun e s' => R (.error e) s') s₃
            else ∃ m, m < n ∧ I m s₃) (notedBy (model prog w) A env fun e s' => R (.error e) s') s₂) (notedBy (model prog w) A env fun e s' => R (.error e) s') s₁') (notedBy (model prog w) A env fun e s' => R (.error e) s') s₁) (notedBy (model prog w) A env fun e s' => R (.error e) s') s)
    (n : Nat) (h : I n s) :
    codeAny (model prog w) A (.compLoop (.ListComp elt [⟨target, iter, ifs, 0⟩] scope pos) 0 it acc env) R s := by
  refine codeAny_loop rfl I (fun n s hI => ?_) n h
  show wpAny _ A ((compTurn (.ListComp elt [⟨target, iter, ifs, 0⟩] scope pos) 0 it acc env).onRaise (fun x => do noteFrame x env; theTreesLotGoes x)) _ _ s
  refine wpAny_noted ?_
  rw [compTurn_list]
  refine wpAny_bind (wpAny_standAt (wpAny_bind (wpAny_mono (turn n s hI) (fun r s₁ h₁ => ?_) fun _ _ h' => h')))
  cases r with
  | none => exact wpAny_pure h₁
  | some v =>
    refine wpAny_bind (wpAny_mono h₁ (fun _ s₁' h₁' => ?_) fun _ _ h' => h')
    refine wpAny_bind (wpAny_mono h₁' (fun _ s₂ h₂ => wpAny_bind (wpAny_mono h₂ (fun ok s₃ h₃ => ?_) fun _ _ h' => h')) fun _ _ h' => h')
    cases ok with
    | false => exact wpAny_pure ⟨rfl, h₃⟩
    | true =>
      exact wpAny_bind (wpAny_bind (wpAny_mono h₃ (fun x s₄ h₄ => wpAny_bind (wpAny_mono h₄ (fun _ s₅ h₅ => wpAny_pure (wpAny_pure ⟨rfl, h₅⟩)) fun _ _ h' => h')) fun _ _ h' => h'))
section
variable {X : Cx}
def tLc (wi : TI) (g : TG) (tt : TT) (te : TE) (vs : List Nat) : TE := fun σ H Q => wi σ H fun J H1 => ∀ D, H1 D = none → ∃ W : Nat → Nat → Hp → Prop, (∃ m, W 0 m (upd H1 D (.lst []))) ∧ ∀ i m H, W i m H →
  (J.stop i H ∧ Q (.ref D) H) ∨ (J.go i H ∧ ∃ Nx : Hp → Prop, (∀ H', Nx H' → ∃ m', m' < m ∧ W (i + 1) m' H') ∧ ∀ x H', J.yld i H x H' → g x (wipe σ vs) H' fun σ2 H2 => wipe σ2 vs = wipe σ vs ∧ tt σ2 H2 fun b H3 =>
    if b = true then te σ2 H3 fun y H4 => ∃ acc, H4 D = some (.lst acc) ∧ acc.length < sizeLine ∧ Nx (upd H4 D (.lst (acc ++ [y]))) else Nx H3)
theorem lc_core {pins : List (Addr × Obj)} {s : Shared} {σ : St} {H : Hp} {Q : VK} {elt tg iter : Expr} {ifs : List Expr} {scope : Scope} {own : List (Str × Nat)} {pos pos' : Pos} {wi : TI} {g : TG} {tt : TT} {te : TE} {use : Option (Value → Sem Unit)} {Qf : Value → Shared → Prop}
    (hc : X.calm = true) (hN : X.N.Nodup) (I : Inv X pins σ H s) (hi : PI X tg iter wi) (ok : BlkOk X.N X.env.scope scope own)
    (hg : ∀ (s : Shared) (H : Hp) (C : Addr) (cl : List (Str × Addr)) (fp : List Addr), PG (X.blk s H scope (compEnvC scope cl C X.env) fp) tg g) (ht : ∀ (s : Shared) (H : Hp) (C : Addr) (cl : List (Str × Addr)) (fp : List Addr), PTs (X.blk s H scope (compEnvC scope cl C X.env) fp) ifs tt)
    (he : ∀ (s : Shared) (H : Hp) (C : Addr) (cl : List (Str × Addr)) (fp : List Addr), PE (X.blk s H scope (compEnvC scope cl C X.env) fp) elt te) (hs : ∀ x, foldedSetIterable iter X.env x = pure x)
    (h : tLc wi g tt te (own.map (·.2)) σ H Q)
    (hRR : ∀ D C s' m H', Inv X pins σ H' s' → Q (.ref D) H' → s'.heap.Ns C m → FpOk X pins H' C → compPost (model X.prog X.w) X.A X.xe use Qf (.ref D) C (.ok .next) s') :
    wpAny (model X.prog X.w) X.A (comprehension (.ListComp elt [⟨tg, iter, ifs, 0⟩] scope pos) scope X.env pos' (newList []) false (eval iter X.env) use) Qf X.xe s := by
  have hfree : ∀ y ∈ scope.names, y.2 = .free → ∃ c, X.env.cells.lookup y.1 = some c := fun y hy e => by
    rcases ok.free y hy e with k | k
    · exact I.ok.has _ (.inl k)
    · exact I.ok.has _ (.inr k)
  refine wpAny_comprehension_free (use := use) rfl hs (closure_ok hfree) ok.kind (fun y hy e => by rw [ok.uniq y hy, e])
    (thn (hi pins s σ H _ I h) fun xv s1 hx => thn hx fun itv s2 h2 => ?_)
  obtain ⟨it, fp, tn, J, H2, e, I2, T, st2, f2, q⟩ := h2
  subst e
  refine wpAny_newObj_type (newEnv_comp ?_) (by show 0 ≤ sizeLine; decide)
  generalize hD : s2.heap.objs.size = D
  have hDn : H2 D = none := I2.hok.fresh (Nat.le_of_eq hD)
  obtain ⟨W, ⟨m0, w0⟩, turn⟩ := q D hDn
  generalize hs3 : ({ s2 with heap := s2.heap.push { cls := .type "list", data := .seq ([] : List Value).toArray } } : Shared) = s3
  have I3 : Inv X pins σ (upd H2 D (.lst [])) s3 := by
    rw [← hs3]
    refine I2.laid (t' := s2.toks) (fun b o e => Heap.get?_push_of_some _ e) (Nat.le_of_eq hD) ⟨Nat.zero_le _, [], 0, .nil, ?_⟩
    rw [← hD]
    exact Heap.get?_push_size _ rfl
  have h3 : s3.heap = s2.heap.push { cls := .type "list", data := .seq ([] : List Value).toArray } := by rw [← hs3]
  have sz : ∀ b ∈ fp, b < s2.heap.objs.size := fun b hb => by
    obtain ⟨o, e, _⟩ := T.obj _ _ st2 b hb
    exact Heap.lt_size e
  have f3 : ∀ b ∈ fp, FpOk X pins (upd H2 D (.lst [])) b ∧ b < s3.heap.objs.size := fun b hb => by
    have hlt := sz b hb
    refine ⟨⟨?_, (f2 b hb).2⟩, by rw [h3, Heap.size_push]; exact Nat.lt_succ_of_lt hlt⟩
    rw [upd_ne (by rw [← hD]; exact Nat.ne_of_lt hlt)]
    exact (f2 b hb).1
  have st3 : tn 0 s3.heap := T.keep _ _ _ st2 fun b _ o e => by rw [h3]; exact Heap.get?_push_of_some _ e
  have I4 := block_start I3 ok hN f3
  have pg := hg s3 (upd H2 D (.lst [])) s3.heap.objs.size (cellsFrom (s3.heap.objs.size + 1) scope.names (cloFrom X.env.cells scope.names [])) fp
  have pt := ht s3 (upd H2 D (.lst [])) s3.heap.objs.size (cellsFrom (s3.heap.objs.size + 1) scope.names (cloFrom X.env.cells scope.names [])) fp
  have pe := he s3 (upd H2 D (.lst [])) s3.heap.objs.size (cellsFrom (s3.heap.objs.size + 1) scope.names (cloFrom X.env.cells scope.names [])) fp
  show codeAny _ _ (.compStart (.ListComp elt [⟨tg, iter, ifs, 0⟩] scope pos) 0 (.ref it) (.ref D) (compEnvC scope (cellsFrom (s3.heap.objs.size + 1) scope.names (cloFrom X.env.cells scope.names [])) s3.heap.objs.size X.env)) (compPost (model X.prog X.w) X.A X.xe use Qf (.ref D) s3.heap.objs.size) { s3 with heap := pushCells (s3.heap.push { cls := .type "dict", data := .dict #[] }) scope.names }
  have nfp : ∀ b ∈ fp, (upd H2 D (.lst [])) b = none := fun b hb => (f3 b hb).1.1
  generalize hce : compEnvC scope (cellsFrom (s3.heap.objs.size + 1) scope.names (cloFrom X.env.cells scope.names [])) s3.heap.objs.size X.env = ce at I4 pg pt pe ⊢
  have cL : ce.locals = s3.heap.objs.size := by subst hce; rfl
  generalize hH3 : upd H2 D (.lst []) = H3 at I3 I4 pg pt pe w0 nfp f3
  generalize hs4 : ({ s3 with heap := pushCells (s3.heap.push { cls := .type "dict", data := .dict #[] }) scope.names } : Shared) = s4 at I4 ⊢
  have st4 : tn 0 s4.heap := T.keep _ _ _ st3 fun b _ o e => by rw [← hs4]; exact pushCells_keeps _ _ _ _ (Heap.get?_push_of_some _ e)
  have stat : ∀ {σ' : St} {H' : Hp} {s' : Shared}, Inv (X.blk s3 H3 scope ce fp) [] σ' H' s' → (∀ b ∈ fp, H' b = none) → ∀ b ∈ fp, FpOk (X.blk s3 H3 scope ce fp) [] H' b := fun {σ' H' s'} I' hn b hb =>
    ⟨hn b hb, (I'.ok.exf b hb).1, I'.ok.exfs b hb, .inl hb, fun x c e => (I'.ok.exf b hb).2 x c e, fun p hp => absurd (show p ∈ ([] : List (Addr × Obj)) ++ [] from hp) (by simp)⟩
  have loop : codeAny (model X.prog X.w) X.A (.compLoop (.ListComp elt [⟨tg, iter, ifs, 0⟩] scope pos) 0 (.ref it) (.ref D) ce) (compPost (model X.prog X.w) X.A X.xe use Qf (.ref D) s3.heap.objs.size) s4 := by
    refine compLoop_any (fun n s' => ∃ i H', Inv (X.blk s3 H3 scope ce fp) [] (wipe σ (own.map (·.2))) H' s' ∧ tn i s'.heap ∧ (∀ b ∈ fp, H' b = none) ∧ W i n H') ?_ m0 ⟨0, H3, I4, st4, nfp, w0⟩
    rintro n s5 ⟨i, H5, I5, st5, n5, w5⟩
    rcases turn i n H5 w5 with ⟨stop, qq⟩ | ⟨go, Nx, hNx, step⟩
    · have td := T.done (X.blk s3 H3 scope ce fp) rfl rfl rfl hc i [] s5 _ H5 (fun _ _ => False) I5 (stat I5 n5) st5 stop
      refine thnF td fun r s6 ⟨hr, I6⟩ => ?_
      subst hr
      have I7 : Inv X pins σ H5 s6 := I3.call' (ch := fp) I6.os I6.base I6.hok I6.bare fun b hb => ⟨(f3 b hb).1.2.2.2.1, (f3 b hb).1.2.1, (f3 b hb).1.2.2.2.2.1, (f3 b hb).1.2.2.2.2.2⟩
      have nC : H5 s3.heap.objs.size = none := by
        have z : H5 ce.locals = none := I6.free
        rw [cL] at z
        exact z
      obtain ⟨m, hn, _⟩ := I6.loc
      have hn : s6.heap.Ns ce.locals m := hn
      rw [cL] at hn
      exact hRR D s3.heap.objs.size s6 m H5 I7 qq hn (I3.fpOk (Nat.le_refl _) nC)
    · have ti := T.item (X.blk s3 H3 scope ce fp) rfl rfl rfl hc i [] s5 _ H5 (fun _ _ => False) I5 (stat I5 n5) st5 go
      refine thnF ti fun r s6 ⟨u, hr, h6⟩ => ?_
      subst hr
      refine thnF h6 fun _ s7 ⟨x, H7, I7, r7, y7, st7, n7⟩ => ?_
      have I7' := I7.pinned (stat I7 n7) (T.obj _ _ st7)
      refine thnF (pg _ s7 _ H7 x u _ I7' r7 (step x H7 y7)) fun _ s8 ⟨σ8, H8, I8, hw8, q8⟩ => ?_
      refine thnF (pt _ s8 σ8 H8 _ I8 q8) fun b s9 ⟨H9, I9, q9⟩ => ?_
      have fin : ∀ {s' : Shared} {H' : Hp}, Inv (X.blk s3 H3 scope ce fp) ([] ++ pinsAt fp s7.heap) σ8 H' s' → Nx H' → ∃ m, m < n ∧ ∃ i H', Inv (X.blk s3 H3 scope ce fp) [] (wipe σ (own.map (·.2))) H' s' ∧ tn i s'.heap ∧ (∀ b ∈ fp, H' b = none) ∧ W i m H' := fun {s' H'} I' nx => by
        obtain ⟨m', hm, w'⟩ := hNx H' nx
        have pin' : ∀ b ∈ fp, ∀ o, s7.heap.get? b = some o → s'.heap.get? b = some o ∧ H' b = none := fun b hb o e =>
          let z := I'.pin (b, o) (List.mem_append_right _ (List.mem_append_right _ (mem_pinsAt hb e)))
          ⟨z.1, z.2.1⟩
        have hl : (wipe σ (own.map (·.2))).length = σ8.length := by rw [← hw8, wipe_length]
        refine ⟨m', hm, i + 1, H', (I'.unpinned (pins := [])).weak hl (fun j v e => ?_), T.keep _ _ _ st7 fun b hb o e => (pin' b hb o e).1, fun b hb => ?_, w'⟩
        · rw [← hw8] at e
          exact (wipe_some e).1
        · obtain ⟨o, e, _⟩ := T.obj _ _ st7 b hb
          exact (pin' b hb o e).2
      cases b with
      | false =>
        simp only [Bool.false_eq_true, if_false] at q9 ⊢
        exact fin I9 q9
      | true =>
        simp only [if_true] at q9 ⊢
        refine thnF (pe _ s9 σ8 H9 _ I9 q9) fun z s10 ⟨yv, H10, I10, r10, acc, hD10, hz10, nx⟩ => ?_
        exact app_ok (X := X.blk s3 H3 scope ce fp) I10 hD10 hz10 r10 fun s11 I11 => fin I11 nx
  exact codeAny_compStart_list loop (T.self X.A 0 _ _ _ st4 loop)
theorem pe_lc {elt tg iter : Expr} {ifs : List Expr} {scope : Scope} {own : List (Str × Nat)} {pos : Pos} {wi : TI} {g : TG} {tt : TT} {te : TE} (hc : X.calm = true) (hN : X.N.Nodup) (hi : PI X tg iter wi) (ok : BlkOk X.N X.env.scope scope own)
    (hg : ∀ (s : Shared) (H : Hp) (C : Addr) (cl : List (Str × Addr)) (fp : List Addr), PG (X.blk s H scope (compEnvC scope cl C X.env) fp) tg g) (ht : ∀ (s : Shared) (H : Hp) (C : Addr) (cl : List (Str × Addr)) (fp : List Addr), PTs (X.blk s H scope (compEnvC scope cl C X.env) fp) ifs tt)
    (he : ∀ (s : Shared) (H : Hp) (C : Addr) (cl : List (Str × Addr)) (fp : List Addr), PE (X.blk s H scope (compEnvC scope cl C X.env) fp) elt te) (hs : ∀ x, foldedSetIterable iter X.env x = pure x := by intro _; rfl) :
    PE X (.ListComp elt [⟨tg, iter, ifs, 0⟩] scope pos) (tLc wi g tt te (own.map (·.2))) := by
  intro pins s σ H Q I h
  rw [eval_ListComp]
  refine lc_core hc hN I hi ok hg ht he hs h fun D C s' m H' I' q hn f => ⟨m, hn, fun h'' sb => ?_⟩
  obtain ⟨f0, f1, f2, f3, f4, f5⟩ := f
  exact ⟨.ref D, H', I'.turned (t' := s'.toks) (fun b o hb e => (sb.2 b hb).trans e) f0 f1 f3 f4 f5, rfl, q⟩
theorem ps_setLc {i : Nat} {y : Str} {py : Pos} {elt tg iter : Expr} {ifs : List Expr} {scope : Scope} {own : List (Str × Nat)} {pos spos : Pos} {wi : TI} {g : TG} {tt : TT} {te : TE} (hc : X.calm = true) (hN : X.N.Nodup) (hy : X.N[i]? = some y) (hyl : X.env.scope.names.lookup y = some .local)
    (hsw : swapsWith (.ListComp elt [⟨tg, iter, ifs, 0⟩] scope pos) (some (.Name y py)) spos.line X.env = pure true) (hi : PI X tg iter wi) (ok : BlkOk X.N X.env.scope scope own)
    (hg : ∀ (s : Shared) (H : Hp) (C : Addr) (cl : List (Str × Addr)) (fp : List Addr), PG (X.blk s H scope (compEnvC scope cl C X.env) fp) tg g) (ht : ∀ (s : Shared) (H : Hp) (C : Addr) (cl : List (Str × Addr)) (fp : List Addr), PTs (X.blk s H scope (compEnvC scope cl C X.env) fp) ifs tt)
    (he : ∀ (s : Shared) (H : Hp) (C : Addr) (cl : List (Str × Addr)) (fp : List Addr), PE (X.blk s H scope (compEnvC scope cl C X.env) fp) elt te) (hs : ∀ x, foldedSetIterable iter X.env x = pure x := by intro _; rfl) :
    PS X (.Assign [.Name y py] (.ListComp elt [⟨tg, iter, ifs, 0⟩] scope pos) spos) (tAsg (tLc wi g tt te (own.map (·.2))) (gName i)) := by
  intro pins s σ H D I h
  rw [exec_Assign_Name_used _ _ _ _ hsw]
  refine wpAny_bind (wpAny_standAt (wpAny_bind ?_))
  show wpAny _ X.A (do let _ ← comprehension (.ListComp elt [⟨tg, iter, ifs, 0⟩] scope pos) scope X.env (firstIterPos [⟨tg, iter, ifs, 0⟩] pos) (newList []) false (eval iter X.env) (some (assign (.Name y py) X.env))) _ _ s
  have h : tLc wi g tt te (own.map (·.2)) σ H (fun x H1 => gName i x σ H1 D.nx) := h
  refine wpAny_bind (thn (lc_core (Qf := fun _ s' => SP X pins D .next s') hc hN I hi ok hg ht he hs h fun L C s' m H' I' q hn f => ?_) fun _ s' hq => wpAny_pure (wpAny_pure hq))
  show wpAny _ _ (assign (.Name y py) X.env (.ref L)) _ _ _
  refine wpAny_assign_Name (store_ok2 (v := V.ref L) I' hN hy (.inl hyl) rfl (fun s2 I2 ⟨a, sb, ha⟩ => ?_) (.inr hyl))
  obtain ⟨f0, f1, f2, f3, f4, f5⟩ := f
  have haC : C ≠ a := by
    rcases ha with z | z
    · rw [z]; exact f1
    · exact fun e => f4 y a z e.symm
  refine ⟨m, hn.sameBut sb haC, fun h3 sb3 => ?_⟩
  exact ⟨_, H', I2.turned (t' := s2.toks) (fun b o hb e => (sb3.2 b hb).trans e) f0 f1 f3 f4 f5, q⟩
theorem sw_true {elt : Expr} {gs : List Comprehension} {scope : Scope} {pos py : Pos} {y : Str} {l : Nat} {env : Env} (hk : env.scope.kind = .function) (hy : env.scope.names.lookup y = some .local) (hl : (py.line == pos.line) = true)
    (ha : (scope.names.any fun (n, k) => n == y && (k == .local || k == .cell)) = false) : swapsWith (.ListComp elt gs scope pos) (some (.Name y py)) l env = pure true := by
  have ky : env.kindOf y = some .local := hy
  have hb : env.blockKind = .function := by unfold Env.blockKind; rw [hk]; rfl
  unfold swapsWith
  simp only [hb, ky, ha, Expr.pos, hl]
  rfl
end
def blkC (N : List Str) (sc scope : Scope) (own : List (Str × Nat)) : Bool :=
  (match scope.kind with | .function => true | _ => false) && (scope.names.all fun y => decide (scope.names.lookup y.1 = some y.2)) && (own.all fun p => decide (N[p.2]? = some p.1)) &&
    (scope.names.all fun y => match y.2 with
      | .free => (match sc.names.lookup y.1 with | some .cell => true | some .free => true | _ => false)
      | .local => decide (y.1 ∈ own.map (·.1)) || decide (y.1 ∉ N)
      | .cell => decide (y.1 ∈ own.map (·.1)) || decide (y.1 ∉ N)
      | _ => true)
theorem blkOk_by {N : List Str} {sc scope : Scope} {own : List (Str × Nat)} (h : blkC N sc scope own = true) : BlkOk N sc scope own := by
  unfold blkC at h
  simp only [Bool.and_eq_true, List.all_eq_true, decide_eq_true_eq] at h
  obtain ⟨⟨⟨h1, h2⟩, h3⟩, h4⟩ := h
  refine ⟨?_, h2, h3, fun y hy e => ?_, fun y hy e => ?_⟩
  · split at h1
    · assumption
    · cases h1
  · have q := h4 y hy
    simp only [e] at q
    split at q <;> first | exact .inl (by assumption) | exact .inr (by assumption) | cases q
  · have q := h4 y hy
    rcases e with e | e <;> (simp only [e, Bool.or_eq_true, decide_eq_true_eq] at q; exact q)
end L2
namespace L2
open PySem PySem.Spec PyProof.Rows
section
variable {prog : Program} {w : World} {A : Around} {R : Result → Shared → Prop} {s : Shared} {elt t0 i0 t1 i1 : Expr} {ifs0 ifs1 : List Expr} {scope : Scope} {pos : Pos} {it acc : Value} {env : Env}
end
theorem wipe_out {σ : St} {i : Nat} : ∀ {vs : List Nat}, i ∉ vs → (wipe σ vs)[i]? = σ[i]?
  | [], _ => rfl
  | v :: vs, h => by
    have h1 : v ≠ i := fun e => h (by rw [e]; exact List.mem_cons_self)
    have h2 : i ∉ vs := fun m => h (List.mem_cons_of_mem _ m)
    unfold wipe
    rw [List.getElem?_set_ne h1]
    exact wipe_out h2
section
variable {X : Cx}
end
end L2
namespace L2
open PySem PySem.Spec PyProof.Rows
section
variable {κ : Type} [DecidableEq κ]
def valV (kvs : List (κ × V)) (k : κ) : Option V := (kvs.find? fun kv => decide (kv.1 = k)).map (·.2)
def putK (kvs : List (κ × V)) (k : κ) (v : V) : List (κ × V) :=
  if (kvs.any fun kv => decide (kv.1 = k)) = true then kvs.map (fun kv => if kv.1 = k then (kv.1, v) else kv) else kvs ++ [(k, v)]
end
section
variable {P : Program} {w : World} {H : Hp} {h : Heap} {a : Addr}
end
def DGet (H : Hp) (a : Addr) (y : V) (r : Option V) : Prop :=
  (∃ kvs k, Rd H a (.dK kvs) ∧ y = kV k ∧ r = valV kvs k) ∨ ∃ kvs k b, Rd H a (.dT kvs) ∧ y = .ref b ∧ H b = some (.tup (k.map kV)) ∧ r = valV kvs k
def DPut (H : Hp) (a : Addr) (y v : V) (H' : Hp) : Prop :=
  (∃ kvs k, H a = some (.dK kvs) ∧ y = kV k ∧ kvs.length < sizeLine ∧ H' = upd H a (.dK (putK kvs k v))) ∨
  ∃ kvs k b, H a = some (.dT kvs) ∧ y = .ref b ∧ H b = some (.tup (k.map kV)) ∧ kvs.length < sizeLine ∧ H' = upd H a (.dT (putK kvs k v))
theorem DGet.k {H : Hp} {a : Addr} {kvs : List (Key × V)} {k : Key} (e : H a = some (.dK kvs)) : DGet H a (kV k) (valV kvs k) := .inl ⟨kvs, k, .inl e, rfl, rfl⟩
theorem DPut.k {H : Hp} {a : Addr} {kvs : List (Key × V)} {k : Key} {v : V} (e : H a = some (.dK kvs)) (hl : kvs.length < sizeLine) : DPut H a (kV k) v (upd H a (.dK (putK kvs k v))) := .inl ⟨kvs, k, e, rfl, hl, rfl⟩
section
variable {X : Cx} {pins : List (Addr × Obj)} {σ : St} {H : Hp} {s : Shared} {a : Addr} {y v : V} {u r : Value} {o : Option V} {A : Around} {E : Value → Shared → Prop}
end
section
variable {X : Cx} {pins : List (Addr × Obj)} {σ : St} {H : Hp} {s : Shared} {a : Addr} {kvs : List (Key × V)} {k : Key} {u : Value} {A : Around} {E : Value → Shared → Prop}
end
section
variable {X : Cx} {o i e value : Expr} {pos pos' tpos : Pos} {td ty tv : TE}
end
section
variable {X : Cx} {pos : Pos}
end
section
variable {X : Cx} {pins : List (Addr × Obj)} {σ : St} {H : Hp} {s : Shared} {a : Addr} {y d : V} {u r : Value} {o : Option V} {A : Around} {E : Value → Shared → Prop}
end
section
variable {X : Cx} {o e f : Expr} {apos cpos : Pos} {td ty tx : TE}
end
section
variable {X : Cx} {pins : List (Addr × Obj)} {σ : St} {H : Hp} {s : Shared} {a : Addr} {kvs : List (Key × V)} {A : Around} {E : Value → Shared → Prop}
end
section
variable {X : Cx} {pins : List (Addr × Obj)} {σ : St} {H : Hp} {s : Shared} {a : Addr} {y : V} {u : Value} {A : Around} {E : Value → Shared → Prop}
end
end L2
namespace L2
open PySem PySem.Spec PyProof.Rows
section
variable {prog : Program} {w : World} {A : Around} {E : Value → Shared → Prop}
end
section
variable {X : Cx}
end
end L2
namespace L2
open PySem PySem.Spec PyProof.Rows
section
variable {X : Cx} {pins : List (Addr × Obj)} {σ : St} {H : Hp} {s : Shared} {h' : Heap}
theorem Inv.turnedNew {t' : Nat} {ch : List Addr} {T : Addr} {ob : HO} (I : Inv X pins σ H s) (k : ∀ b o, b ∉ ch → s.heap.get? b = some o → h'.get? b = some o) (hf : ∀ b ∈ ch, FpOk X pins H b) (hT : s.heap.objs.size ≤ T)
    (new : ObjOk X.prog X.w (upd H T ob) h' T ob) : Inv X pins σ (upd H T ob) { s with heap := h', toks := t' } := by
  have hn : H T = none := I.hok.fresh hT
  have nit : ∀ b u, H b = some u → b ∉ ch := fun b u e z => by
    have q := (hf b z).1
    rw [q] at e; cases e
  refine I.step (g' := s.gens) (d' := s.drawn) (ch := ch) (fun b hb => ⟨(hf b hb).2.2.2.1, (hf b hb).2.1, (hf b hb).2.2.2.2.1, (hf b hb).2.2.2.2.2⟩) (fun b o _ _ hc e _ => k b o hc e) (fun b o _ _ hc e _ => ⟨o.slots, k b o hc e⟩)
    (fun b o _ e n => ?_) (fun b o hc e => ⟨o, k b o hc e⟩) (fun b xs e => ?_) (fun b o u e => ?_) (fun b ps e => ⟨#[], ?_⟩) (fun m hm => ?_) (fun b u e => ?_) I.bare
  · rw [upd_ne (Nat.ne_of_lt (Nat.lt_of_lt_of_le (Heap.lt_size e) hT))]; exact n
  · rw [upd_ne (ne_of_none e hn)]; exact e
  · rw [upd_ne (ne_of_none e hn)]; exact e
  · rw [upd_ne (ne_of_none e hn), e]; simp
  · obtain ⟨o, es, ep, ho, r⟩ := hm
    exact ⟨o, es, ep, k _ o (fun z => (hf _ z).2.1 rfl) ho, r⟩
  · by_cases hb : b = T
    · subst hb
      rw [upd_same] at e
      cases e
      exact new
    · rw [upd_ne hb] at e
      refine (I.hok b u e).stay (fun c v hc q => k c v ?_ q) (fun c q => by rw [upd_ne (ne_of_none q hn)]; exact q) fun c xs q => by rw [upd_ne (ne_of_none q hn)]; exact q
      rcases hc with z | z
      · rw [z]; exact nit b u e
      · exact nit c _ z
end
section
variable {X : Cx}
end
section
variable {X : Cx} {tg : Expr}
end
section
variable {X : Cx} {tg : Expr}
end
section
variable {prog : Program} {w : World} {A : Around} {E : Value → Shared → Prop} {s : Shared}
end
section
variable {X : Cx} {pins : List (Addr × Obj)} {σ : St} {H : Hp} {s : Shared} {d : Addr} {o : Obj}
end
section
variable {P : Program} {w : World} {K : PySem.W.Frag} {tg : Expr} {d : Addr} {o : Obj} {es : Array DictEntry} {ep : Nat}
end
section
variable {X : Cx} {tg e : Expr} {td : TE} {apos cpos : Pos}
end
def Ite (K : PySem.W.Frag) (a : Addr) : It :=
  ⟨fun i H => ∃ (xs : List V) (x : V), SqL K H a xs ∧ xs[i]? = some x, fun i H v H' => ∃ T x, v = .ref T ∧ H T = none ∧ H' = upd H T (.tup [.int (i : Nat), x]) ∧ ∀ xs, SqL K H a xs → xs[i]? = some x, fun i H => ∃ xs : List V, SqL K H a xs ∧ xs.length ≤ i⟩
theorem turn_enum {P : Program} {w : World} {K : PySem.W.Frag} {elts : List Expr} {kk : Nat} {tpos : Pos} (a e it : Addr) :
    Turn P w K (.Tuple elts kk tpos) (Ite K a) [e, it] e (fun i h => (∃ old, IsEnum h e it ((i : Nat) : Int) old) ∧ h.IsListIter it a i ∧ e ≠ it) where
  mem := by simp
  obj := fun i h st b hb => by
    obtain ⟨⟨old, he⟩, ⟨o, ho, hc, hd⟩, _⟩ := st
    have e' : b = e ∨ b = it := by simpa using hb
    rcases e' with z | z
    · rw [z]; exact ⟨_, he, fun v q => nomatch q⟩
    · rw [z]; exact ⟨o, ho, fun v q => by rw [hd] at q; cases q⟩
  keep := fun i h h' st k => let ⟨⟨old, he⟩, hi, hne⟩ := st; ⟨⟨old, k e (by simp) _ he⟩, hi.at fun o q => k it (by simp) o q, hne⟩
  item := by
    intro X hP hw hK hc i pins s σ H E I hf st hg
    subst hP hw hK
    obtain ⟨⟨old, he⟩, hit, hne⟩ := st
    obtain ⟨xs, x, hq, hx⟩ := hg
    obtain ⟨its, rv, p, hz⟩ := I.list hq
    obtain ⟨u, hu, ru⟩ := rv.get hx
    have hel : e < s.heap.objs.size := Heap.lt_size he
    have hil : it < s.heap.objs.size := by obtain ⟨_, q, _⟩ := hit; exact Heap.lt_size q
    refine wpAny_pyNext_enum_item he hit p.isList (x := u) (by simpa using hu) hne fun h' ho hit' hT hsz hk => ?_
    refine ⟨_, rfl, wpAny_letOwnedTupleGo_enum (s := { s with heap := h', toks := s.toks + 1 }) ho fun h'' he' sb => ?_⟩
    have hT2 : h''.get? s.heap.objs.size = some { cls := .type "tuple", data := .seq #[.int i s.toks, u] } := (sb.2 _ (Nat.ne_of_gt hel)).trans hT
    have new : ObjOk X.prog X.w (upd H s.heap.objs.size (.tup [.int (i : Nat), x])) h'' s.heap.objs.size (.tup [.int (i : Nat), x]) :=
      ⟨by show 2 ≤ sizeLine; decide, [.int i s.toks, u], .cons ⟨_, rfl⟩ (.cons ru .nil), ⟨_, hT2, rfl, _, rfl⟩⟩
    have I1 : Inv X pins σ (upd H s.heap.objs.size (.tup [.int (i : Nat), x])) { s with heap := h'', toks := s.toks + 1 } :=
      I.turnedNew (ch := [e, it]) (fun b ob hb q => (sb.2 b (fun z => hb (by simp [z]))).trans (hk b ob (fun z => hb (by simp [z])) (fun z => hb (by simp [z])) q)) hf (Nat.le_refl _) new
    refine ⟨.ref s.heap.objs.size, _, I1, rfl, ⟨_, x, rfl, I.hok.fresh (Nat.le_refl _), rfl, fun ys hy => by rw [I.list_inj hy hq]; exact hx⟩, ⟨⟨u, ?_⟩, hit'.at fun o q => (sb.2 it (Ne.symm hne)).trans q, hne⟩, fun b hb => ?_⟩
    · have e1 : ((i + 1 : Nat) : Int) = (i : Int) + 1 := by omega
      rw [e1]; exact he'
    · have hb' : b < s.heap.objs.size := by
        have e' : b = e ∨ b = it := by simpa using hb
        rcases e' with z | z
        · rw [z]; exact hel
        · rw [z]; exact hil
      rw [upd_ne (Nat.ne_of_lt hb')]
      exact (hf b hb).1
  done := by
    intro X hP hw hK hc i pins s σ H E I hf st hg
    subst hP hw hK
    obtain ⟨⟨old, he⟩, hit, hne⟩ := st
    obtain ⟨xs, hq, hx⟩ := hg
    obtain ⟨its, rv, p, hz⟩ := I.list hq
    obtain ⟨f0, f1, f2, f3, f4, f5⟩ := hf it (by simp)
    have hl := rv.length
    exact wpAny_pyNext_enum_end (I.ok.hd hc) he hit p.isList (by simp; omega) fun h' eb => ⟨rfl, I.turned (t' := s.toks) (fun b o hb q => eb b o hb q) f0 f1 f3 f4 f5⟩
  self := fun A i s Q E st h => let ⟨⟨_, he⟩, _⟩ := st; wpAny_pyIter_enum he h
def iEnum (K : PySem.W.Frag) (ta : TA) : TI := fun σ H R => ta σ H fun vs H1 => ∃ a xs, vs = [.ref a] ∧ SqL K H1 a xs ∧ R (Ite K a) H1
theorem pi_enum {X : Cx} {e : Expr} {ta : TA} {p pos tpos : Pos} {elts : List Expr} {kk : Nat} (hg : Gl X "enumerate") (hm : X.mg "enumerate" = none) (ha : PA X [e] ta) (hs : starEach [e] X.env = [(false, eval e X.env)] := by rfl) :
    PI X (.Tuple elts kk tpos) (.Call (.Name "enumerate" p) [e] [] pos) (iEnum X.K ta) := by
  intro pins s σ H R I h
  refine Call_ (ld_blt I hg hm boot_enumerate (PyProof.Rows.callWith_type1 (thn (ha pos pins s σ H _ I h) fun us s1 ⟨vs, H1, I1, r1, q1⟩ => ?_) hs rfl))
  obtain ⟨a, xs, ex, hq, q⟩ := q1
  subst ex
  cases r1 with
  | cons r rr =>
    cases rr
    cases r
    obtain ⟨its, rv, p', hz⟩ := I1.list hq
    refine call_enumerate_list p'.isList fun h' he hit hsz hk => wpAny_pyIter_enum he ?_
    have I2 : Inv X pins σ H1 { s1 with heap := h' } := I1.kept (t' := s1.toks) hk
    refine ⟨s1.heap.objs.size + 1, [s1.heap.objs.size + 1, s1.heap.objs.size], _, _, H1, rfl, I2, turn_enum a (s1.heap.objs.size + 1) s1.heap.objs.size, ⟨⟨.none, he⟩, hit, Nat.succ_ne_self _⟩, fun b hb => ?_, q⟩
    have e' : b = s1.heap.objs.size + 1 ∨ b = s1.heap.objs.size := by simpa using hb
    have hle : s1.heap.objs.size ≤ b := by
      rcases e' with z | z
      · rw [z]; exact Nat.le_add_right _ _
      · rw [z]; exact Nat.le_refl _
    exact I1.fpOk hle (I1.hok.fresh hle)
end L2
section 
namespace Bits
open PySem PyProof.Rows
end Bits
end 
section 
namespace TL
open PySem PySem.Builtin PySem.Builtin.Str PySem.StrLaws
abbrev tl (x : Str) : List Nat := x.cps.toList
theorem tl_mk (l : List Nat) : tl ⟨l.toArray⟩ = l := rfl
def pre (S l : List Nat) : Bool := l.take S.length == S
def par (S : List Nat) : List Nat → List Nat → Option (List Nat × List Nat)
  | _, [] => none
  | acc, c :: r => if pre S (c :: r) = true then some (acc, (c :: r).drop S.length) else par S (acc ++ [c]) r
theorem join_eq (y : Str) (parts : List Str) : Txt.join y parts = Str.join y parts := glued_eq_join y parts
end TL
end 
namespace L2
open PySem PySem.Spec PyProof.Rows
theorem strs_of_vals : ∀ {ys : List Str} {us : List Value}, Vals (ys.map V.str) us → StrsAre us ys
  | [], _, .nil => .nil
  | y :: ys, _, .cons r t => by
    obtain ⟨k, rfl⟩ := r
    exact .cons y k (strs_of_vals t)
section
variable {X : Cx} {pins : List (Addr × Obj)} {σ : St} {H : Hp} {s : Shared} {Q : VK}
end
section
variable {X : Cx}
theorem mt_join : MtR X "str.join" (fun x xs H Q => ∃ a p, ∃ ys : List Str, x = .str a ∧ xs = [.ref p] ∧ (SqL X.K H p (ys.map V.str) ∨ SqT X.K H p (ys.map V.str)) ∧
    (ys.map (·.length)).sum + ys.length * a.length ≤ 16777216 ∧ Q (.str (Txt.join a ys)) H) := by
  intro pins s σ H x xs v us Q I rx rs h
  obtain ⟨a, p, ys, rfl, rfl, hp, hz, h⟩ := h
  obtain ⟨t, rfl⟩ := rx
  cases rs with
  | cons r1 rs =>
    cases rs
    cases r1
    rcases hp with hp | hp
    · obtain ⟨its, r, ⟨o, n, ho, hc, _, hd⟩, _⟩ := I.list hp
      exact PyProof.Rows.join_list (items := its.toArray) ⟨o, ho, hc, n, hd⟩ (by rw [List.toList_toArray]; exact strs_of_vals r) hz fun t' k => ⟨.str _, H, I.tok k, ⟨t', rfl⟩, h⟩
    · obtain ⟨its, r, ht, _⟩ := I.tuple hp
      exact PyProof.Rows.join_tuple (items := its.toArray) ht (by rw [List.toList_toArray]; exact strs_of_vals r) hz fun t' k => ⟨.str _, H, I.tok k, ⟨t', rfl⟩, h⟩
end
section
variable {X : Cx} {o e : Expr} {to te : TE}
def tM1 (r : V → List V → Hp → VK → Prop) (to te : TE) : TE := fun σ H Q => to σ H fun x H1 => (∃ a, x = .str a) ∧ te σ H1 fun y H2 => r x [y] H2 Q
theorem pe_m1 {id : String} {name : Str} {apos pos : Pos} {r : V → List V → Hp → VK → Prop} (slot : Slot "str" name id) (ty : typeOf (.builtin id) = pure (.type "method_descriptor")) (rule : MtR X id r) (ho : PE X o to) (he : PE X e te)
    (hs : starEach [e] X.env = [(false, eval e X.env)] := by rfl) (hbase : attributeBase o name X.env (eval o X.env) = eval o X.env := by rfl) (hline : (apos.endLine == pos.line) = true := by rfl) :
    PE X (.Call (.Attribute o name apos) [e] [] pos) (tM1 r to te) := by
  intro pins s σ H Q I h
  refine PySem.Call_method1 hbase hs hline (thn (ho pins s σ H _ I h) fun v s1 ⟨x, H1, I1, r1, q1⟩ => ?_)
  obtain ⟨⟨a, rfl⟩, q1⟩ := q1
  obtain ⟨t, rfl⟩ := _root_.id r1
  refine ⟨"str", _, F.plainAttrs_str, slot, ty, typeIs_str _ _ _, (fun _ e => nomatch e), Calls.callWith_builtin rfl (Calls.evalArgs_plain (Calls.spliced_cons ?_))⟩
  exact thn (he pins s1 σ H1 _ I1 q1) fun u s2 ⟨y, H2, I2, r2, q2⟩ => Calls.spliced_nil (rule pins s2 σ H2 _ [y] _ [u] Q I2 r1 (.cons r2 .nil) q2)
theorem pe_join {apos pos : Pos} (ho : PE X o to) (he : PE X e te) (hs : starEach [e] X.env = [(false, eval e X.env)] := by rfl) (hbase : attributeBase o "join" X.env (eval o X.env) = eval o X.env := by rfl) (hline : (apos.endLine == pos.line) = true := by rfl) :
    PE X (.Call (.Attribute o "join" apos) [e] [] pos) (tM1 (fun x xs H Q => ∃ a p, ∃ ys : List Str, x = .str a ∧ xs = [.ref p] ∧ (SqL X.K H p (ys.map V.str) ∨ SqT X.K H p (ys.map V.str)) ∧
      (ys.map (·.length)).sum + ys.length * a.length ≤ 16777216 ∧ Q (.str (Txt.join a ys)) H) to te) :=
  pe_m1 F.slot_str_join F.type_str_join mt_join ho he hs hbase hline
end
end L2
namespace L2
open PySem PySem.Spec PyProof.Rows
section
variable {X : Cx}
end
theorem IsPart.raw {v : Value} {o : Option Int} (p : IsPart v o) : ∃ l : Option (Int × Tok), v = partValue l ∧ l.map (·.1) = o := by
  cases p with
  | none => exact ⟨none, rfl, rfl⟩
  | int i t => exact ⟨some (i, t), rfl, rfl⟩
def clipS (n d : Nat) : Option Int → Int
  | none => (d : Int)
  | some i => max 0 (min (if i < 0 then i + (n : Int) else i) (n : Int))
theorem clipS_eq (n d : Nat) (o : Option Int) : clipS n d o = ((HT.sIx n d o : Nat) : Int) := by
  cases o with
  | none => rfl
  | some v =>
    show max (0 : Int) (min (if v < 0 then v + (n : Int) else v) (n : Int)) = (((if v < 0 then (v + (n : Int)).toNat else min v.toNat n) : Nat) : Int)
    by_cases hv : v < 0
    · simp only [if_pos hv]
      omega
    · simp only [if_neg hv]
      omega
theorem sidx_clip (a b : Option Int) (n : Nat) : Builtin.Str.strSliceIndices a b 1 n = sliceRange (clipS n 0 a) (clipS n n b) 1 := by
  have h1 : ((1 : Int) > 0) = True := by simp
  cases a <;> cases b <;> first
    | rfl
    | (simp only [Builtin.Str.strSliceIndices, clipS, h1, if_true]; rfl)
    | simp [Builtin.Str.strSliceIndices, clipS]
theorem sidx (a b : Option Int) (n : Nat) : Builtin.Str.strSliceIndices a b 1 n = (List.range (HT.sIx n n b - HT.sIx n 0 a)).map (fun k => HT.sIx n 0 a + k) := by
  rw [sidx_clip, clipS_eq, clipS_eq]
  generalize HT.sIx n 0 a = p
  generalize HT.sIx n n b = q
  simp only [sliceRange, show ((1 : Int) > 0) = True from by simp, if_true]
  by_cases hlt : (p : Int) < q
  · have e3 : (((q : Int) - p + 1 - 1) / 1).toNat = q - p := by first | omega | (simp; done) | (simp; omega)
    simp only [hlt, if_true, e3]
    refine List.map_congr_left fun k _ => ?_
    omega
  · have : q - p = 0 := by omega
    simp [hlt, this]
def cutS (z : Str) (lo hi : Option Int) : Str :=
  ⟨((z.cps.toList.drop (HT.sIx z.length 0 lo)).take (HT.sIx z.length z.length hi - HT.sIx z.length 0 lo)).toArray⟩
theorem sliceText_cut (z : Str) (lo hi : Option Int) : PySem.StrLaws.sliceText z lo hi = cutS z lo hi := by
  have h1 : HT.sIx z.length 0 lo ≤ z.length := HT.sIx_le _ _ (Nat.zero_le _) _
  have h2 : HT.sIx z.length z.length hi ≤ z.length := HT.sIx_le _ _ (Nat.le_refl _) _
  have hp : HT.sIx z.length 0 lo ≤ max (HT.sIx z.length 0 lo) (HT.sIx z.length z.length hi) := Nat.le_max_left _ _
  have hq : max (HT.sIx z.length 0 lo) (HT.sIx z.length z.length hi) ≤ z.length := Nat.max_le.mpr ⟨h1, h2⟩
  have hd : max (HT.sIx z.length 0 lo) (HT.sIx z.length z.length hi) - HT.sIx z.length 0 lo = HT.sIx z.length z.length hi - HT.sIx z.length 0 lo := by omega
  have e : Builtin.Str.strSliceIndices lo hi 1 z.length =
      Builtin.Str.strSliceIndices (some ((HT.sIx z.length 0 lo : Nat) : Int)) (some ((max (HT.sIx z.length 0 lo) (HT.sIx z.length z.length hi) : Nat) : Int)) 1 z.length := by
    rw [PySem.StrLaws.strSliceIndices_plain hp hq, hd, sidx]
  have e2 : PySem.StrLaws.sliceText z lo hi =
      PySem.StrLaws.sliceText z (some ((HT.sIx z.length 0 lo : Nat) : Int)) (some ((max (HT.sIx z.length 0 lo) (HT.sIx z.length z.length hi) : Nat) : Int)) := by
    unfold PySem.StrLaws.sliceText
    rw [e]
  rw [e2, PySem.StrLaws.sliceText_nat z hp hq, hd]
  rfl
theorem cutS_length (z : Str) (lo hi : Option Int) : (cutS z lo hi).length ≤ z.length := by
  show (((z.cps.toList.drop (HT.sIx z.length 0 lo)).take (HT.sIx z.length z.length hi - HT.sIx z.length 0 lo)).toArray).size ≤ z.cps.size
  rw [List.size_toArray, List.length_take, List.length_drop, Array.length_toList]
  omega
def rSlS : V → Option Int → Option Int → Hp → VK → Prop := fun x lo hi H Q => ∃ z, x = .str z ∧ z.length ≤ sizeLine ∧ Q (.str (cutS z lo hi)) H
theorem sl_str {X : Cx} : SlR X rSlS := by
  intro pins s σ H x v vl vu lo hi sl Q I rx hs pl pu h
  obtain ⟨z, rfl, hz, q⟩ := h
  obtain ⟨t, rfl⟩ := rx
  obtain ⟨os, hos, hcs, hds⟩ := hs
  obtain ⟨l, rfl, rfl⟩ := IsPart.raw pl
  obtain ⟨u, rfl, rfl⟩ := IsPart.raw pu
  refine ⟨"str", _, F.slot_str_getitem.lookup, typeIs_str _ _ _, ?_⟩
  refine wpAny_getItem_str_slice (l := l) (u := u) (st := none) ⟨os, hos, hcs, hds⟩ rfl ?_
  have hl : (PySem.StrLaws.sliceText z (l.map (·.1)) (u.map (·.1))).length ≤ sizeLine := by
    rw [sliceText_cut]
    exact Nat.le_trans (cutS_length z _ _) hz
  rw [← sliceText_cut] at q
  unfold PySem.StrLaws.sliceText at q hl
  show Made.post (if ((1 : Int) == 1 && (Builtin.Str.strSliceIndices (l.map (·.1)) (u.map (·.1)) 1 z.length).length == z.length) = true then Made.val (.str z t)
    else Made.str ⟨((Builtin.Str.strSliceIndices (l.map (·.1)) (u.map (·.1)) 1 z.length).filterMap (z.cps[·]?)).toArray⟩) (EP X pins σ Q) s
  by_cases c : ((1 : Int) == 1 && (Builtin.Str.strSliceIndices (l.map (·.1)) (u.map (·.1)) 1 z.length).length == z.length) = true
  · rw [if_pos c] at q ⊢
    exact ⟨.str z, H, I, ⟨t, rfl⟩, q⟩
  · rw [if_neg c] at q hl ⊢
    exact ⟨hl, .str _, H, I.tok _, ⟨_, rfl⟩, q⟩
end L2
namespace Att
open PySem PySem.W PySem.Calls PyProof.Rows
theorem ints_of_wellAll {P : Params} {h : Heap} : ∀ (ns : List Int) (vs : List Value), WellAll P h vs (ns.map WData.int) → IntsAre vs ns := by
  intro ns
  induction ns with
  | nil =>
    intro vs w
    rw [List.map_nil] at w
    cases w
    exact .nil
  | cons n ns ih =>
    intro vs w
    rw [List.map_cons] at w
    cases w with
    | cons a b =>
      cases a
      exact .cons _ _ (ih _ b)
theorem script_of {l : OpenLaw} {n : Nat} (hn : l.most = some n) {P : Params} {h : Heap} {args : List WData} {vals : List Value}
    (hpre : l.row.toRowW.claim.pre args = true) (hwl : WellAll P h vals args) :
    ∃ a vs ns, vals = [Value.ref a] ∧ args = [WData.list (ns.map WData.int)] ∧ h.get? a = some { cls := .type "list", data := .seq vs.toArray } ∧ IntsAre vs ns ∧ ns.length ≤ n := by
  have hsh : WShape.hasAll [] args [.list .int] = true := (pre_splitW hpre).1
  have hc : l.pre.holds [] { args := args } = true := (pre_splitW hpre).2
  obtain ⟨d, r, rfl, h1, h2⟩ := hasAllW_cons hsh
  obtain rfl := hasAllW_nil h2
  obtain ⟨xs, rfl, h3⟩ := hasW_list h1
  obtain ⟨ns, rfl⟩ := items_int h3
  have hlen : ns.length ≤ n := by
    unfold OpenLaw.pre at hc
    have h4 : (WTm.not (.lt (.lit (.int (n : Int))) (.len (.arg 0)))).holds [] { args := [.list (ns.map .int)] } = true := by
      have h4 := (holds_andW hc).1
      rw [hn] at h4
      exact h4
    have h5 := condW_of h4 (w_not (w_lt w_lit (w_len_list (w_arg rfl))))
    rw [List.length_map] at h5
    refine Nat.le_of_not_lt fun q => ?_
    have q' : (n : Int) < ((ns.length : Nat) : Int) := by omega
    first
      | (rw [decide_eq_true q'] at h5; exact absurd h5 (by decide))
      | (simp at h5; omega)
  cases hwl with
  | cons w1 w2 =>
    cases w2
    cases w1 with
    | list ho hall => exact ⟨_, _, ns, rfl, rfl, ho, ints_of_wellAll ns _ hall, hlen⟩
theorem post_true (l : OpenLaw) (args : List WData) : l.row.toRowW.claim.post args (.bool true) args = true :=
  postW_of (r := l.row.toRowW) (X := (true == true))
    (show WShape.has [] (.bool true) .bool = true by first | rfl | decide | simp [WShape.has, WShape.arms, WShape.armsAll])
    (show (WTm.eq .res (.lit (.bool true))).value [] { args := args, res := some (.bool true), after := args } = some (.bool (true == true)) from w_eq_bool (w_res rfl) w_lit) rfl
theorem attach_call {l : OpenLaw} {n : Nat} {q : Program} {loose : List Str} {XP : (Str → Option Value) → Heap → Prop} {YP : World → Heap → Prop} {d : DefRec}
    (hn : l.most = some n) (hdf : d.params.defaults = [])
    (call : ∀ (w : World) (s₀ s₁ : Shared) (mg mb : Str → Option Value) (fa : Addr) (o : Obj) (pm cd doc : Value) (a : Addr) (vs : List Value) (ns : List Int),
      Ground q loose [] XP w s₀ mg mb s₁.heap → YP w s₁.heap →
      s₁.heap.get? fa = some o → o.data = .func (docDef d.name d.params d.body d.scope pm cd doc) → s₁.heap.CodeRec cd d.name → mg d.name = some (.ref fa) →
      s₁.heap.get? a = some { cls := .type "list", data := .seq vs.toArray } → IntsAre vs ns → ns.length ≤ n → s₁.gens = #[] →
      codeAny (model l.prog w) callerA (.call (.ref fa) ⟨[.ref a], []⟩) (fun r s' => r = .ok (.ret (.bool true)) ∧ OldK s₁.heap s'.heap ∧ s'.os = s₁.os ∧ AllBare s'.gens) s₁) :
    WalkO q loose XP YP l.row.toRowW d [] (fun f vs => PySem.call f vs) := by
  intro w s₀ s₁ mg mb G Y fa o pm cd doc dV kV ho hd hcd hD hmg hg args vals as hpre hlay hrd hwl hlo
  obtain rfl : dV = .none := Dflts.none hD hdf
  obtain rfl : kV = .none := Dflts.noKw hD
  obtain ⟨a, vs, ns, rfl, rfl, hobj, hints, hlen⟩ := script_of hn hpre hwl
  refine enter_call (codeAny_mono (call w s₀ s₁ mg mb fa o pm cd doc a vs ns G Y ho (fd_plain hd) hcd hmg hobj hints hlen hg) fun r s' hq => ?_)
  obtain ⟨rfl, h2, h3, h4⟩ := hq
  exact ⟨.inl ⟨.bool true, .bool true, [], rfl, fun _ => rfl, .bool true, post_true l _, fun _ => ⟨List.Pairwise.nil, fun _ hm => (nomatch hm)⟩⟩, h2, h3, h4⟩
section
variable {prog : Program} {w : World} {A : Around} {E : Value → Shared → Prop} {s : Shared} {K : Frag}
end
end Att
namespace L2
open PySem PySem.Spec PyProof.Rows
theorem vals_ints : ∀ {vs : List Value} {ns : List Int}, IntsAre vs ns → Vals (ns.map V.int) vs
  | _, _, .nil => .nil
  | _, _, .cons n t h => .cons ⟨t, rfl⟩ (vals_ints h)
def Only (H : Hp) : Prop := ∀ b, H b = none ∨ ∃ o xs, H b = some (.frz o (.lst xs))
theorem law_call {P : Program} {w : World} {K : PySem.W.Frag} {mg mb : Str → Option Value} {CX : CXT} {k : Nat} {fa a : Addr} {fd : FuncData} {x : Str} {sp : Sp} {s₁ : Shared} {vs : List Value} {ns : List Int}
    (KX : K.In s₁.heap) (hns : s₁.heap.Ns mainGlobals mg) (hb : s₁.heap.Ns builtinsNs mb) (hbb : ∀ x : Str, x ≠ "__name__" → mb x = bootBuiltins x) (hlim : s₁.heap.NoLimit) (hg : s₁.gens = #[])
    (ha : s₁.heap.get? a = some { cls := .type "list", data := .seq vs.toArray }) (hi : IntsAre vs ns) (hl : ns.length ≤ sizeLine) (hr : Room k callerA)
    (F : ∀ base : Heap, K.In base → base.Ns mainGlobals mg → FnOk P w K mg base CX k fa fd [x] sp) (hbind : ∀ (s : Shared) (u : Value), BindsTo s fd ⟨[u], []⟩ [(x, u)])
    (hsp : ∀ H : Hp, Only H → SqL K H a (ns.map V.int) → sp [.ref a] H (fun v _ => v = .bl true) fun _ _ _ => False)
    (hCX : ∀ H e s', CX [] H s₁ (fun _ _ _ => False) e s' → False) :
    codeAny (model P w) callerA (.call (.ref fa) ⟨[.ref a], []⟩) (fun r s' => r = .ok (.ret (.bool true)) ∧ OldK s₁.heap s'.heap ∧ s'.os = s₁.os ∧ AllBare s'.gens) s₁ := by
  have rv := vals_ints hi
  have lenV := hi.length
  have core : ∀ H : Hp, Only H → SqL K H a (ns.map V.int) → HOk P w H s₁.heap → (∀ b, H b ≠ none → b = a) → (H a ≠ none → K.lookup a = none) →
      codeAny (model P w) callerA (.call (.ref fa) ⟨[.ref a], []⟩) (fun r s' => r = .ok (.ret (.bool true)) ∧ OldK s₁.heap s'.heap ∧ s'.os = s₁.os ∧ AllBare s'.gens) s₁ := by
    intro H hO hS hok hA hK
    have base_of : ∀ {b : Addr} {o : Obj}, s₁.heap.get? b = some o → H b = none → (hidT s₁.heap H).get? b = some o := fun e n => hidT_get e n
    have noA : ∀ {b : Addr} {o : Obj} {es : Array DictEntry} {ep : Nat}, s₁.heap.get? b = some o → o.data = .dict es ep → H b = none := fun {b o es ep} e d => by
      cases q : H b with
      | none => rfl
      | some u =>
        have e' : b = a := hA b (by rw [q]; simp)
        subst e'
        rw [ha] at e; cases e
        have d' : Data.seq vs.toArray _ = Data.dict es ep := d
        cases d'
    have nsK : ∀ {b : Addr} {m : Str → Option Value}, s₁.heap.Ns b m → (hidT s₁.heap H).Ns b m := fun {b m} ⟨o, es, ep, e, d, r⟩ => ⟨o, es, ep, base_of e (noA e d), d, r⟩
    have hKb : K.In (hidT s₁.heap H) := fun b o e => base_of (KX b o e) (by
      cases q : H b with
      | none => rfl
      | some u =>
        have e' : b = a := hA b (by rw [q]; simp)
        subst e'
        rw [hK (by rw [q]; simp)] at e; cases e)
    have hM : Mod K mg (hidT s₁.heap H) := ⟨hKb, nsK hns, ⟨mb, nsK hb, hbb⟩, let ⟨mc, h1, h2⟩ := hlim; ⟨mc, nsK h1, h2⟩⟩
    have e0 : Env0 P w K mg (hidT s₁.heap H) callerA [] s₁ H := ⟨rfl, hM, fun b o e => of_hidT e, Nat.le_of_eq (hidT_size _ _), trivial, fun b hb => absurd (show b ∈ ([] : List Addr) from hb) (by simp), hok, .of_eq hg⟩
    refine codeAny_mono ((F _ hKb (nsK hns)).run callerA [] s₁ H ⟨[.ref a], []⟩ [.ref a] [.ref a] _ _ hr e0 (hbind s₁ (.ref a)) (.cons rfl .nil) (hsp H hO hS)) fun r s' h => ?_
    cases r with
    | error e => exact (hCX H e s' h).elim
    | ok fl =>
      cases fl with
      | next => exact False.elim h
      | brk => exact False.elim h
      | cont => exact False.elim h
      | ret u =>
        obtain ⟨v, H', os, bare, un, hok', r', q⟩ := h
        have q' : v = .bl true := q
        subst q'
        obtain rfl : u = Value.bool true := r'
        refine ⟨rfl, OldK.of_keep fun b o e => ?_, os, bare⟩
        cases q : H b with
        | none => exact un.keep b o e q (by intro z; exact absurd (show b ∈ ([] : List Addr) from z) (by simp)) (by simp)
        | some u =>
          rcases hO b with z | ⟨ob, xs, z⟩
          · rw [q] at z; cases z
          · have z2 := un.frzs b ob _ z
            obtain ⟨e1, _⟩ := hok b _ z
            obtain ⟨e2, _⟩ := hok' b _ z2
            rw [e] at e1; cases e1
            exact e2
  cases hk : K.lookup a with
  | some o =>
    have e := KX a o hk
    rw [ha] at e
    cases e
    refine core (fun _ => none) (fun _ => .inl rfl) (.inr ⟨_, vs.toArray, _, hk, rfl, rfl, rfl, by rw [List.size_toArray, lenV]; exact hl, by simpa using rv⟩) (fun b u z => by have z' : (none : Option HO) = some u := z; cases z') (fun b z => absurd rfl z) fun z => absurd rfl z
  | none =>
    refine core (fun b => if b = a then some (.frz { cls := .type "list", data := .seq vs.toArray } (.lst (ns.map V.int))) else none) (fun b => ?_) (.inl (.inr ⟨{ cls := .type "list", data := .seq vs.toArray }, if_pos rfl⟩)) (fun b u z => ?_) (fun b z => ?_) fun _ => hk
    · by_cases hb : b = a
      · exact .inr ⟨_, _, if_pos hb⟩
      · exact .inl (if_neg hb)
    · by_cases hb : b = a
      · have z' := (if_pos hb).symm.trans z
        cases z'
        subst hb
        exact ⟨ha, by rw [List.length_map]; exact hl, vs, _, rv, ha⟩
      · have z' := (if_neg hb).symm.trans z
        cases z'
    · by_cases hb : b = a
      · exact hb
      · exact absurd (if_neg hb) z
end L2
namespace L2
open PySem PySem.Spec PyProof.Rows
theorem walk_of {l : PySem.W.OpenLaw} {n k : Nat} {q : Program} {loose : List Str} {XP : (Str → Option Value) → Heap → Prop} {YP : World → Heap → Prop} {d : DefRec} {K : Params → PySem.W.Frag} {CX : World → CXT} {sp : World → Sp} {x : Str}
    (hn : l.most = some n) (hn2 : n ≤ sizeLine) (hdf : d.params.defaults = []) (hr : Room k callerA)
    (hY : ∀ (w : World) (h : Heap), YP w h → (K w.params).In h)
    (F : ∀ (w : World) (mg : Str → Option Value) (fa : Addr) (h : Heap), (K w.params).In h → h.Ns mainGlobals mg → mg d.name = some (.ref fa) →
      ∃ fd : FuncData, (∀ (s : Shared) (u : Value), BindsTo s fd ⟨[u], []⟩ [(x, u)]) ∧
        ∀ base : Heap, (K w.params).In base → base.Ns mainGlobals mg → FnOk l.prog w (K w.params) mg base (CX w) k fa fd [x] (sp w))
    (hsp : ∀ (w : World) (H : Hp) (a : Addr) (ns : List Int), ns.length ≤ n → Only H → SqL (K w.params) H a (ns.map V.int) → sp w [.ref a] H (fun v _ => v = .bl true) fun _ _ _ => False)
    (hCX : ∀ (w : World) (H : Hp) (s : Shared) (e : Value) (s' : Shared), CX w [] H s (fun _ _ _ => False) e s' → False) :
    PySem.W.WalkO q loose XP YP l.row.toRowW d [] (fun f vs => PySem.call f vs) := by
  refine Att.attach_call hn hdf fun w s₀ s₁ mg mb fa o pm cd doc a vs ns G Y ho hd hcd hmg hobj hints hlen hg => ?_
  have KX := hY w _ Y
  obtain ⟨fd, hb, hF⟩ := F w mg fa _ KX G.T.g hmg
  exact law_call KX G.T.g G.T.b G.T.builtins G.T.nolimit hg hobj hints (Nat.le_trans hlen hn2) hr hF hb (fun H hO hS => hsp w H a ns hlen hO hS) fun H e s' => hCX w H s₁ e s'
end L2
namespace L2
open PySem PySem.Spec PyProof.Rows
def defArgs (s : Stmt) : Arguments := match s with
  | .FunctionDef _ a _ _ _ _ _ _ _ _ => a
  | _ => { posonlyargs := [], args := [], vararg := none, kwonlyargs := [], kw_defaults := [], kwarg := none, defaults := [] }
def defBody (s : Stmt) : List Stmt := match s with
  | .FunctionDef _ _ b _ _ _ _ _ _ _ => b
  | _ => []
def defScope (s : Stmt) : Scope := match s with
  | .FunctionDef _ _ _ _ _ _ sc _ _ _ => sc
  | _ => { kind := .function, names := [], isGenerator := false, isCoroutine := false }
abbrev E0 : XK := fun _ _ _ => False
structure Fun (K : PySem.W.Frag) (x qual : Str) (st : Stmt) (f : Addr) (fd : FuncData) : Prop where
  ex : ∃ (oc : Value) (od : Option Addr) (kV doc pm : Value) (an : Option Addr) (cdv ct : Value) (osl : Array (Option Value)),
    fd = PySem.W.fnOf x qual (defArgs st) (defBody st) (defScope st) .none kV doc pm an cdv ct ∧ K.lookup f = some ⟨oc, od, .func fd, osl⟩ ∧ PySem.W.codeIn K cdv qual = true
  kp : PySem.W.keepIn K (.ref f) = true
section
variable {P : Program} {w : World} {K : PySem.W.Frag} {mg : Str → Option Value} {base : Heap}
theorem Fun.binds {x qual : Str} {st : Stmt} {f : Addr} {fd : FuncData} {ps : List Str} (F : Fun K x qual st f fd)
    (h : ∀ (kV doc pm : Value) (an : Option Addr) (cdv ct : Value) (us : List Value), us.length = ps.length → bindArgs (PySem.W.fnOf x qual (defArgs st) (defBody st) (defScope st) .none kV doc pm an cdv ct) ⟨us, []⟩ = pure (ps.zip us)) : Binds K fd ps [] := by
  obtain ⟨oc, od, kV, doc, pm, an, cdv, ct, osl, rfl, lk, hcd⟩ := F.ex
  exact .all (h kV doc pm an cdv ct)
theorem fun_mk {x qual : Str} {st : Stmt} {f : Addr} {oc : Value} {od an : Option Addr} {osl : Array (Option Value)} {kV doc pm cdv ct : Value} (l : K.lookup f = some ⟨oc, od, .func (PySem.W.fnOf x qual (defArgs st) (defBody st) (defScope st) .none kV doc pm an cdv ct), osl⟩)
    (c : PySem.W.codeIn K cdv qual = true) (k : PySem.W.keepIn K (.ref f) = true) : Fun K x qual st f (PySem.W.fnOf x qual (defArgs st) (defBody st) (defScope st) .none kV doc pm an cdv ct) := ⟨⟨oc, od, kV, doc, pm, an, cdv, ct, osl, rfl, l, c⟩, k⟩
end
section
variable {X : Cx}
theorem pv (i : Nat) {x : Str} {pos : Pos} (hN : X.N[i]? = some x := by rfl) (hv : Vis X.env.scope x := by first | exact Or.inl rfl | exact Or.inr (Or.inl rfl) | exact Or.inr (Or.inr rfl)) (hd : (x == ("__debug__" : Str)) = false := by decide)
    (hcd : (x == ("__classdict__" : Str)) = false := by decide) : PE X (.Name x pos) (tVar i) := pe_var hN hv hd hcd
end
def Same (H H' : Hp) : Prop := ∀ b o, H b = some o → H' b = some o
theorem Same.trans {H H1 H2 : Hp} (a : Same H H1) (b : Same H1 H2) : Same H H2 := fun c o h => b c o (a c o h)
section
variable {κ : Type} [DecidableEq κ]
end
end L2
set_option Elab.async false
set_option linter.all false
set_option maxRecDepth 100000
namespace Kx
open PySem L2 PyProof.Rows
def Bd (n : Nat) (i : Int) : Prop := i.natAbs < 2 ^ n
theorem Bd.mono {m n : Nat} {i : Int} (h : Bd m i) (hmn : m ≤ n := by decide) : Bd n i := Nat.lt_of_lt_of_le h (Nat.pow_le_pow_right (by decide) hmn)
theorem Bd.mul {m n : Nat} {i j : Int} (h : Bd m i) (h' : Bd n j) : Bd (m + n) (i * j) := by
  unfold Bd at *
  rw [Int.natAbs_mul, Nat.pow_add]
  exact Nat.mul_lt_mul'' h h'
theorem Bd.add {n : Nat} {i j : Int} (h : Bd n i) (h' : Bd n j) : Bd (n + 1) (i + j) := by
  unfold Bd at *
  rw [Nat.pow_succ]
  omega
theorem Bd.sub {n : Nat} {i j : Int} (h : Bd n i) (h' : Bd n j) : Bd (n + 1) (i - j) := by
  unfold Bd at *
  rw [Nat.pow_succ]
  omega
theorem Bd.log {n : Nat} {i : Int} (h : Bd n i) (hn : n ≤ 9000) (h0 : i ≠ 0) : i.natAbs.log2 < 9000 := by
  have h1 : i.natAbs.log2 < n := (Nat.log2_lt (by omega)).mpr h
  omega
theorem Bd.bits {n : Nat} {i : Int} (h : Bd n i) (hn : n ≤ 9000) : Builtin.Int.intBits i ≤ 2 ^ 20 := by
  unfold Builtin.Int.intBits
  split
  · exact Nat.zero_le _
  · rename_i h0
    have h1 : i.natAbs.log2 < 9000 := Bd.log h hn (by simpa using h0)
    omega
section
variable {X : Cx} {e : Expr} {es : List Expr} {t : TA} {x : Str} {p pos : Pos}
def CMulB (i j : Int) : Prop := (Bd 4000 i ∧ Bd 4000 j) ∨ (-(2 ^ 64) < i ∧ i < 2 ^ 64) ∨ (-(2 ^ 64) < j ∧ j < 2 ^ 64)
theorem CMulB.ok {i j : Int} (h : CMulB i j) : IntMulOk i j := by
  rcases h with ⟨h1, h2⟩ | h
  · exact .of_bits (h1.bits (by decide)) (h2.bits (by decide))
  · exact CMul.ok h
def CDivB (i j : Int) : Prop := j ≠ 0 ∧ Bd 8000 j
theorem op_mulB : OpR X (binaryOp .Mult) (rI CMulB fun i j => .int (i * j)) := opI fun _ _ _ _ _ _ _ hc q => mul_int q hc.ok
theorem op_fdivB : OpR X (binaryOp .FloorDiv) (rI CDivB fun i j => .int (i.fdiv j)) := opI fun _ _ _ _ _ _ _ hc q => floordiv_int hc.1 q (.inl (PyProof.noPylong_of_log2 (hc.2.log (by decide) hc.1)))
def CDivP (i j : Int) : Prop := 0 < j ∧ Bd 8000 j
theorem op_fdivP : OpR X (binaryOp .FloorDiv) (rI CDivP fun i j => .int (i / j)) := opI fun i j _ _ _ _ _ hc q => by
  have h1 : (0 : Int) < j := hc.1
  exact floordiv_int (by omega) (by rw [Int.fdiv_eq_ediv_of_nonneg i (by omega)]; exact q) (.inl (PyProof.noPylong_of_log2 (hc.2.log (by decide) (by omega))))
def isiB : V → String → Option Bool
  | .int _, "int" => some true | .int _, "bool" => some false | .int _, "str" => some false | .int _, "tuple" => some false
  | .bl _, "int" => some true | .bl _, "bool" => some true | .bl _, "str" => some false | .bl _, "tuple" => some false
  | .str _, "str" => some true | .str _, "int" => some false | .str _, "bool" => some false | .str _, "tuple" => some false
  | _, _ => none
theorem call_isi : CallR X (.builtin "isinstance") (fun xs H Q => ∃ y T b, xs = [y, .ty T] ∧ isiB y T = some b ∧ Q (.bl b) H) := by
  intro pins s σ H xs us Q I r h
  obtain ⟨y, T, b, rfl, hb, q⟩ := h
  obtain ⟨u1, u2, rfl, r1, r2⟩ : ∃ u1 u2, us = [u1, u2] ∧ RelV y u1 ∧ RelV (.ty T) u2 := by
    cases r with | cons a r => cases r with | cons b r => cases r with | nil => exact ⟨_, _, rfl, a, b⟩
  cases r2
  have f0 : EP X pins σ Q (.bool b) s := ⟨.bl b, H, I, rfl, q⟩
  have f1 : EP X pins σ Q (.bool b) { s with toks := s.toks + 1 } := ⟨.bl b, H, I.tok _, rfl, q⟩
  unfold isiB at hb
  split at hb <;> first
    | (cases hb; cases r1; first | exact IsiPair.bool_bool f0 | exact IsiPair.bool_int f0 | exact IsiPair.bool_str f1 | exact IsiPair.bool_tuple f1)
    | (cases hb; obtain ⟨k, rfl⟩ := r1; first | exact IsiPair.int_int f0 | exact IsiPair.int_bool f1 | exact IsiPair.int_str f1 | exact IsiPair.int_tuple f1 | exact IsiPair.str_str f0 | exact IsiPair.str_int f1 | exact IsiPair.str_bool f1 | exact IsiPair.str_tuple f1)
    | (cases hb)
theorem call_isiTT : CallR X (.builtin "isinstance") (fun xs H Q => ∃ a ys, xs = [.ref a, .ty "tuple"] ∧ SqT X.K H a ys ∧ Q (.bl true) H) := by
  intro pins s σ H xs us Q I r h
  obtain ⟨a, ys, rfl, ha, q⟩ := h
  obtain ⟨u1, u2, rfl, r1, r2⟩ : ∃ u1 u2, us = [u1, u2] ∧ RelV (.ref a) u1 ∧ RelV (.ty "tuple") u2 := by
    cases r with | cons a r => cases r with | cons b r => cases r with | nil => exact ⟨_, _, rfl, a, b⟩
  cases r1
  cases r2
  have f0 : EP X pins σ Q (.bool true) s := ⟨.bl true, H, I, rfl, q⟩
  obtain ⟨its, _, ht, _⟩ := I.tuple ha
  exact PyProof.Rows.call_isinstance_yes (Tx := "tuple") ht.typeIs PySem.F.isi_meta_tuple PySem.F.isi_self_tuple f0
def isStar : Expr → Bool
  | .Starred _ _ => true
  | _ => false
theorem star_cons {e : Expr} {es : List Expr} {env : Env} (h : isStar e = false) : starEach (e :: es) env = (false, eval e env) :: starEach es env := by
  cases e <;> first | rfl | cases h
theorem star_any : ∀ {es : List Expr} {env : Env} {pos : Pos}, es.any isStar = false → (backTo pos (starEach es env)).any (·.1) = false
  | [], _, _, _ => rfl
  | e :: es, env, pos, h => by
    have h2 : isStar e = false ∧ es.any isStar = false := by simpa using h
    rw [star_cons h2.1]
    have q := star_any (env := env) (pos := pos) h2.2
    show (((false : Bool)) || (backTo pos (starEach es env)).any (·.1)) = false
    rw [q]
    rfl
theorem pa_c {te : TE} (ha : PE X e te) (hr : PA X es t) (hs : isStar e = false := by rfl) : PA X (e :: es) (tCons te t) := pa_cons ha hr (star_cons hs)
theorem pe_cB {id : String} {r : List V → Hp → VK → Prop} (hc : CallR X (.builtin id) r) (hg : Gl X x) (hm : X.mg x = none) (hv : bootBuiltins x = some (.builtin id)) (ha : PA X (e :: es) t) (hn : x ≠ "__name__" := by decide) (hdb : (x == ("__debug__" : Str)) = false := by decide)
    (hs : (e :: es).any isStar = false := by rfl) : PE X (.Call (.Name x p) (e :: es) [] pos) (tCB r t) :=
  have h2 : isStar e = false ∧ es.any isStar = false := by simpa using hs
  pe_callB hc hg hm hv ha hn hdb (star_cons h2.1) (star_any h2.2)
theorem pe_cT {T : String} {r : List V → Hp → VK → Prop} (hc : CallR X (.type T) r) (hg : Gl X x) (hm : X.mg x = none) (hv : bootBuiltins x = some (.type T)) (ha : PA X (e :: es) t) (hn : x ≠ "__name__" := by decide) (hdb : (x == ("__debug__" : Str)) = false := by decide)
    (hs : (e :: es).any isStar = false := by rfl) : PE X (.Call (.Name x p) (e :: es) [] pos) (tCB r t) :=
  have h2 : isStar e = false ∧ es.any isStar = false := by simpa using hs
  pe_callTy hc hg hm hv ha hn hdb (star_cons h2.1) (star_any h2.2)
def plainTest : Expr → Bool
  | .BoolOp _ _ _ => false
  | .UnaryOp _ _ _ => false
  | .Compare _ _ _ _ => false
  | .IfExp _ _ _ _ => false
  | _ => true
theorem plain_test {e : Expr} {env : Env} (h : plainTest e = true) : ∀ whole, isTrue e env whole = (do let v ← whole; standAt e.pos; holding [v] (truthy v)) := by
  intro whole
  cases e <;> first | rfl | cases h
theorem pt_v {t : TE} (h : PE X e t) (he : plainTest e = true := by rfl) : PT X e (tB t) := pt_val h (plain_test he)
structure Cal (P : Program) (w : World) (K : PySem.W.Frag) (mg : Str → Option Value) (base : Heap) (CX : CXT) (k : Nat) (x : Str) (ps : List Str) (sp : Sp) : Prop where
  ex : ∃ (f : Addr) (fd : FuncData), FnOk P w K mg base CX k f fd ps sp ∧ Binds K fd ps [] ∧ PySem.W.keepIn K (.ref f) = true ∧ mg x = some (.ref f)
theorem pe_callC {CX : CXT} {j k : Nat} {ps : List Str} {sp : Sp} {E : XK} (C : Cal X.prog X.w X.K X.mg X.base CX j x ps sp) (hr : Room k X.A) (hx : Passes CX X E) (ha : PA X (e :: es) t) (hg : Gl X x := by rfl) (hj : j ≤ k := by decide)
    (hdb : (x == ("__debug__" : Str)) = false := by decide) (hs : (e :: es).any isStar = false := by rfl) :
    PE X (.Call (.Name x p) (e :: es) [] pos) (tCall sp [] E t) := by
  obtain ⟨f, fd, F, b, kp, m⟩ := C.ex
  have h2 : isStar e = false ∧ es.any isStar = false := by simpa using hs
  exact pe_call F (hr.mono hj) hg m kp b .nil hx ha hdb (star_cons h2.1) (star_any h2.2)
theorem Fun.cal {P : Program} {w : World} {K : PySem.W.Frag} {mg : Str → Option Value} {base : Heap} {CX : CXT} {k : Nat} {y qual : Str} {st : Stmt} {f : Addr} {fd : FuncData} {ps : List Str} {sp : Sp} (F : Fun K y qual st f fd) (h : FnOk P w K mg base CX k f fd ps sp) (b : Binds K fd ps []) (m : mg x = some (.ref f)) :
    Cal P w K mg base CX k x ps sp := ⟨f, fd, h, b, F.kp, m⟩
end
theorem same_new {H : Hp} {p : Addr} (h : H p = none) (o : HO) : Same H (upd H p o) := fun b u q => by rw [upd_ne (ne_of_none q h)]; exact q
def But (r : Addr) (H H' : Hp) : Prop := ∀ b o, b ≠ r → H b = some o → H' b = some o
theorem But.trans {r : Addr} {H H1 H2 : Hp} (a : But r H H1) (b : But r H1 H2) : But r H H2 := fun c o n h => b c o n (a c o n h)
theorem But.at {r b : Addr} {H H' : Hp} {o : HO} (g : But r H H') (h : H b = some o) (n : b ≠ r) : H' b = some o := g b o n h
end Kx
set_option Elab.async false
set_option linter.all false
set_option maxRecDepth 100000
set_option maxHeartbeats 1000000
set_option autoImplicit false
namespace Xk
open PySem
variable {α β : Type}
def FOk (f : Obj → Obj) : Prop := ∀ o, o.isFreed = false → (f o).isFreed = false ∧ (f o).dict = o.dict
def DOk : Sem α → Prop
  | .pure _ => True
  | .raise _ => True
  | .unsupported _ => True
  | .finish _ => True
  | .rule _ k => ∀ x, DOk (k x)
  | .at _ k => ∀ x, DOk (k x)
  | .load _ _ k => ∀ x, DOk (k x)
  | .update _ _ f k => FOk f ∧ ∀ x, DOk (k x)
  | .alloc _ k => ∀ x, DOk (k x)
  | .loadIfAlive _ k => ∀ x, DOk (k x)
  | .point _ k => ∀ x, DOk (k x)
  | .register _ k => ∀ x, DOk (k x)
  | .fresh k => ∀ x, DOk (k x)
  | .ask k => ∀ x, DOk (k x)
  | .choose _ _ k => ∀ x, DOk (k x)
  | .os _ _ k => ∀ x, DOk (k x)
  | .call _ _ _ _ _ => False
  | .handled _ k => ∀ x, DOk (k x)
  | .newGen _ k => ∀ x, DOk (k x)
  | .genState _ k => ∀ x, DOk (k x)
  | .resume _ _ _ _ => False
  | .yield _ _ _ _ => True
  | .stack k => ∀ x, DOk (k x)
  | .fork _ _ => True
  | .thread k => ∀ x, DOk (k x)
  | .await _ _ _ _ _ => True
def KD (h h' : Heap) : Prop := ∀ b o, h.get? b = some o → ∃ o', h'.get? b = some o' ∧ o'.dict = o.dict
theorem KD.trans {h1 h2 h3 : Heap} (x : KD h1 h2) (y : KD h2 h3) : KD h1 h3 := fun b o e =>
  let ⟨o1, e1, d1⟩ := x b o e
  let ⟨o2, e2, d2⟩ := y b o1 e1
  ⟨o2, e2, d2.trans d1⟩
theorem DOk.bind {m : Sem α} {f : α → Sem β} (h : DOk m) (h' : ∀ a, DOk (f a)) : DOk (m >>= f) := by
  show DOk (Sem.bind m f)
  induction m with
  | pure a => exact h' a
  | raise e => trivial
  | unsupported w => trivial
  | finish e => trivial
  | update a part f k ih => exact ⟨h.1, fun x => ih x (h.2 x)⟩
  | call c h2 g l k ih => exact h.elim
  | resume g r l k ih => exact h.elim
  | yield v g l k ih => trivial
  | fork c k ih => trivial
  | await a f d l k ih => trivial
  | rule _ k ih | «at» _ k ih | load _ _ k ih | alloc _ k ih | loadIfAlive _ k ih | point _ k ih | register _ k ih | fresh k ih | ask k ih | choose _ _ k ih | os _ _ k ih | handled _ k ih | newGen _ k ih | genState _ k ih | stack k ih | thread k ih => exact fun x => ih x (h x)
end Xk
namespace Xk
open PySem
theorem fok_fields (g : Array Value → Array Value) : FOk (Obj.mapFields g) := fun o h => by
  obtain ⟨c, d, dt, sl⟩ := o
  cases dt <;> first | exact ⟨rfl, rfl⟩ | exact ⟨h, rfl⟩
theorem fok_slots (g : Obj → Array (Option Value)) : FOk (fun o => { o with slots := g o }) := fun o h => by
  obtain ⟨c, d, dt, sl⟩ := o
  cases dt <;> first | exact ⟨rfl, rfl⟩ | exact ⟨h, rfl⟩
local macro_rules | `(tactic| walk_at "dok") => `(tactic| repeat (first | exact trivial | exact ⟨fok_fields _, fun _ => trivial⟩ | exact ⟨fok_slots _, fun _ => trivial⟩ | assumption | refine DOk.bind ?_ fun _ => ?_ | dsimp only | split | intro _))
end Xk
set_option Elab.async false
set_option linter.all false
set_option maxRecDepth 100000
namespace Kx
open PySem PySem.Spec L2 PyProof.Rows PySem.W
structure FlyOk (P : Program) (w : World) (outer : List Env) (H H' : Hp) (s : Shared) (s' : Shared) (a C : Addr) (t : Addr × Option Addr) (B : Heap) : Prop where
  os : s'.os = s.os
  bare : AllBare s'.gens
  hok : HOk P w H' B
  fly : Heap.FlyingW B outer a (.ref C) (.ref t.1) s'.heap
  dct : ∃ o, s'.heap.get? a = some o ∧ o.dict = t.2
  un : Un (frs outer) [] H H' s.heap s'.heap
  keep : ∀ b o, s.heap.get? b = some o → H b = none → b ∉ frs outer → B.get? b = some o
  there : ∀ b o, s.heap.get? b = some o → b ∉ frs outer → ∃ o', B.get? b = some o'
def CXE (P : Program) (w : World) : CXT := fun outer H s E e s' => ∃ (a C : Addr) (t : Addr × Option Addr) (B : Heap) (H' : Hp), e = .ref a ∧ E (.ref C) t.2 H' ∧ H' a = none ∧ FlyOk P w outer H H' s s' a C t B
section
variable {P : Program} {w : World} {K : PySem.W.Frag} {mg : Str → Option Value} {base : Heap} {N : List Str} {qual : Str} {scope : Scope} {f : Addr} {cdv : Value} {A : Around} {outer : List Env} {s : Shared} {H : Hp} {E : XK}
end
section
variable {P : Program} {w : World} {K : PySem.W.Frag} {mg : Str → Option Value} {base : Heap} {N : List Str} {qual : Str} {scope : Scope} {f : Addr} {cdv : Value} {A : Around} {outer : List Env} {s : Shared} {H : Hp} {E : XK}
end
def excH (a C : Addr) : HO := .ext fun h => ∃ o vs, h.get? a = some o ∧ o.cls = .ref C ∧ o.data = .fields vs
section
variable {X : Cx}
variable {j k : Nat} {x : Str} {p pos pos' : Pos} {e : Expr} {es : List Expr} {t : TA} {ps : List Str} {sp : Sp}
end
theorem passE0 {X : Cx} {P : Program} {w : World} : Passes (CXE P w) X E0 := fun _ _ _ _ _ _ _ h => by
  obtain ⟨_, _, _, _, _, _, q, _⟩ := h
  exact q.elim
section
variable {P : Program} {w : World} {K : PySem.W.Frag} {mg : Str → Option Value} {base : Heap} {x qual : Str} {st : Stmt} {f : Addr} {fd : FuncData} {N ps : List Str} {k : Nat} {sp : Sp}
theorem Fun.okT (F : Fun K x qual st f fd) (S : FnScope N ps (defScope st)) (len : ∀ vs H Q E, sp vs H Q E → vs.length = ps.length)
    (hbody : ∀ (cdv : Value) (A : Around) (outer : List Env) (s : Shared) (H : Hp) (vs : List V) (Q : VK) (E : XK), Room k (A.deeper (envOfC qual (defScope st) s.heap.objs.size f cdv)) → sp vs H Q E →
      ∃ t, PSs (cxOf (CXE P w) P w K mg base N qual (defScope st) f cdv A outer s H E).nox (defBody st) t ∧ t { nx := fun _ H' => Q .non H', rt := Q } (start N vs) H) : FnOk P w K mg base (CXE P w) (k + 1) f fd ps sp := by
  obtain ⟨oc, od, kV, doc, pm, an, cdv, ct, osl, rfl, lk, hcd⟩ := F.ex
  refine fn_of lk hcd S len fun A outer s H vs Q E hr hsp => ?_
  obtain ⟨t, h, q⟩ := hbody cdv A outer s H vs Q E hr hsp
  exact ⟨t, h.nox, q⟩
end
section
variable {X : Cx}
end
end Kx
set_option Elab.async false
set_option linter.all false
set_option maxRecDepth 100000
namespace Kx
open PySem PySem.Spec L2 PyProof.Rows PySem.W Builtin.ObjectAttr Builtin.Getset_descriptor
section
variable {prog : Program} {w : World} {A : Around} {E : Value → Shared → Prop} {h : Heap} {g : Array GenState} {d : Drawn} {t : Nat} {os : OsState} {a C : Addr} {o : Obj} {K : PySem.W.Frag}
end
section
variable {X : Cx}
end
end Kx
set_option Elab.async false
set_option linter.all false
set_option maxRecDepth 100000
namespace Kx
open PySem PySem.Spec L2 PyProof.Rows PySem.W
def Tab (H : Hp) (P : Addr) : Prop := ∃ ps, H P = some (.tbl ps) ∧ TriplesOk ps.toList
section
variable {X : Cx}
end
end Kx
set_option Elab.async false
set_option linter.all false
set_option maxRecDepth 100000
namespace Kx
open PySem PySem.Spec L2 PyProof.Rows PySem.W
end Kx
namespace L2
open PySem PySem.Spec PyProof.Rows
def CodeAt (H : Hp) (q : Str) (cv : Value) : Prop := ∃ (c : Addr) (oc : Obj) (vs : Array Value) (t : Tok), cv = .ref c ∧ H c = some (.frz oc (.own 0)) ∧ oc.data = .fields vs ∧ vs[1]? = some (.str q t)
def TabL (H : Hp) (P : Addr) (pos : Pos) (q : Str) : Prop := ∃ ps, H P = some (.tbl ps) ∧ TriplesOk ps.toList ∧ ∀ cv, codeAmong pos ps.toList = some cv → CodeAt H q cv
end L2
set_option Elab.async false
set_option linter.all false
set_option maxRecDepth 100000
namespace Kx
open PySem PySem.Spec L2 PyProof.Rows PySem.W
section
variable {X : Cx}
variable {o e e1 e2 : Expr} {to te te1 te2 : TE} {apos pos : Pos}
end
end Kx
namespace Kx
open PySem PySem.Spec L2 PyProof.Rows PySem.W
section
variable {X : Cx}
abbrev TJ := L2.St → Hp → Str → VK → Prop
end
end Kx
namespace Kx
open PySem PySem.Spec L2 PyProof.Rows PySem.W
section
variable {X : Cx}
end
end Kx
namespace Kx
open PySem PySem.Spec L2 PyProof.Rows PySem.W
section
variable {P : Program} {w : World} {K : PySem.W.Frag} {mg : Str → Option Value} {base : Heap} {x qual : Str} {st : Stmt} {f : Addr} {fd : FuncData} {N ps : List Str} {k : Nat} {sp : Sp}
end
end Kx
set_option Elab.async false
set_option linter.all false
set_option maxRecDepth 100000
namespace Kx
open PySem PySem.NumText
def mkS (l : List Nat) : Str := ⟨l.toArray⟩
theorem tl_mk (l : List Nat) : (mkS l).cps.toList = l := by unfold mkS; simp
theorem len_mk (l : List Nat) : (mkS l).length = l.length := by unfold mkS Str.length; simp
theorem ext_mk {x : Str} {l : List Nat} (h : x.cps.toList = l) : x = mkS l := by
  obtain ⟨a⟩ := x
  unfold mkS
  rw [← h]
theorem app_mk (a b : List Nat) : mkS a ++ mkS b = mkS (a ++ b) := ext_mk (by
  show ((mkS a).cps ++ (mkS b).cps).toList = _
  rw [Array.toList_append, tl_mk, tl_mk])
theorem one_cps (c : Nat) : (mkS [c]).cps = #[c] := rfl
theorem nought : (Str.ofString "0") = mkS [48] := by decide +kernel
theorem strip_take {p : Nat → Bool} (l : List Nat) : l.take (l.length - (l.reverse.takeWhile p).length) = (l.reverse.dropWhile p).reverse := by
  have e : l.reverse.takeWhile p ++ l.reverse.dropWhile p = l.reverse := List.takeWhile_append_dropWhile
  have e2 : l = (l.reverse.dropWhile p).reverse ++ (l.reverse.takeWhile p).reverse := by rw [← List.reverse_append, e, List.reverse_reverse]
  have e3 : (l.reverse.takeWhile p).length + (l.reverse.dropWhile p).length = l.length := by
    rw [← List.length_append, e, List.length_reverse]
  generalize l.reverse.takeWhile p = A at *
  generalize l.reverse.dropWhile p = B at *
  subst e2
  rw [List.take_append_of_le_length (by rw [List.length_reverse]; omega), List.take_of_length_le (by rw [List.length_reverse]; omega)]
theorem rs (l : List Nat) : Txt.rstripChars (mkS l) (Str.ofString "0") = mkS (l.reverse.dropWhile (· == 48)).reverse := by
  rw [nought]
  unfold Txt.rstripChars
  rw [PyProof.Rows.stripBy_eq]
  refine ext_mk ?_
  rw [StrLaws.strSub_toList, tl_mk]
  unfold stripLo stripHi
  rw [if_neg Bool.false_ne_true, if_pos rfl, List.drop_zero, tl_mk, List.drop_zero, Nat.sub_zero, len_mk]
  have e : (mkS [48]).cps.contains = fun c : Nat => c == 48 := by
    funext c
    rw [one_cps]
    simp [Array.contains, Bool.beq_comm]
  rw [e]
  exact strip_take l
end Kx
set_option Elab.async false
set_option linter.all false
set_option maxRecDepth 100000
namespace Kx
open PySem PySem.NumText L2
theorem at_last {α : Type} {l : List α} (h : l ≠ []) : atI l (-1) = some (l.getLast h) := by
  have : 0 < l.length := List.length_pos_iff.mpr h
  unfold atI ixN
  rw [if_neg (by decide)]
  have e : ∀ n : Nat, 0 < n → ((-1 : Int) + (n : Int)).toNat = n - 1 := fun n hn => by omega
  simp only [List.getLast_eq_getElem]
  split
  · simp only [Option.bind_some]
    first
      | (rw [List.getElem?_eq_getElem (by omega)]; congr 2; omega)
      | (simp; omega)
  · omega
end Kx
set_option Elab.async false
set_option linter.all false
set_option maxRecDepth 100000
namespace Kx
open PySem PySem.NumText L2
theorem join_mk (l : List Nat) : Txt.join (Str.ofString "") (l.map fun c => (⟨#[c]⟩ : Str)) = mkS l := by
  rw [show Str.ofString "" = mkS [] from by decide +kernel]
  rw [TL.join_eq]
  induction l with
  | nil => rfl
  | cons c r ih =>
    cases r with
    | nil => rfl
    | cons d q =>
      show mkS [c] ++ mkS [] ++ Str.join (mkS []) ((d :: q).map fun c => (⟨#[c]⟩ : Str)) = _
      rw [ih, app_mk, app_mk]
      rfl
end Kx
set_option Elab.async false
set_option linter.all false
set_option maxRecDepth 100000
namespace Kx
open PySem PySem.NumText L2
theorem tw {a b : List Nat} (h : 46 ∉ a) : (a ++ 46 :: b).takeWhile (· != 46) = a ∧ (a ++ 46 :: b).dropWhile (· != 46) = 46 :: b := by
  induction a with
  | nil => exact ⟨rfl, rfl⟩
  | cons c r ih =>
    have hc : (c != 46) = true := by
      have : c ≠ 46 := fun z => h (by rw [z]; simp)
      simp [this]
    have := ih (fun z => h (List.mem_cons_of_mem _ z))
    simp only [List.cons_append, List.takeWhile_cons, List.dropWhile_cons, hc, if_true]
    exact ⟨by rw [this.1], this.2⟩
end Kx
set_option Elab.async false
set_option linter.all false
set_option maxRecDepth 100000
namespace Kx
open PySem PySem.Spec L2 PyProof.Rows PySem.W
section
variable {X : Cx} {pos : Pos}
end
def lowG (t b : Int) : Int := if b < 0 then -((Int.gcd t b : Nat) : Int) else ((Int.gcd t b : Nat) : Int)
def lowT (t b : Int) : Int := t.fdiv (lowG t b)
def lowB (t b : Int) : Int := b.fdiv (lowG t b)
theorem lowG_pos {t b : Int} (hb : 0 < b) : lowG t b = ((Int.gcd t b : Nat) : Int) ∧ 0 < ((Int.gcd t b : Nat) : Int) := by
  have gp : 0 < Int.gcd t b := Int.gcd_pos_of_ne_zero_right t (by omega)
  exact ⟨by unfold lowG; rw [if_neg (by omega)], by omega⟩
theorem low_mul {t b : Int} (hb : 0 < b) : ∃ g : Int, 0 < g ∧ t = g * lowT t b ∧ b = g * lowB t b := by
  obtain ⟨hG, gp⟩ := lowG_pos (t := t) hb
  refine ⟨((Int.gcd t b : Nat) : Int), gp, ?_, ?_⟩
  · unfold lowT
    rw [hG, Int.fdiv_eq_ediv_of_nonneg _ (by omega)]
    exact (Int.mul_ediv_cancel' (Int.gcd_dvd_left t b)).symm
  · unfold lowB
    rw [hG, Int.fdiv_eq_ediv_of_nonneg _ (by omega)]
    exact (Int.mul_ediv_cancel' (Int.gcd_dvd_right t b)).symm
theorem low_scale {t b m : Int} (hb : 0 < b) (hm : 0 < m) : lowT (t * m) (b * m) = lowT t b ∧ lowB (t * m) (b * m) = lowB t b := by
  obtain ⟨hG, gp⟩ := lowG_pos (t := t) hb
  have hbm : 0 < b * m := Int.mul_pos hb hm
  have hG2 : lowG (t * m) (b * m) = ((Int.gcd t b : Nat) : Int) * m := by
    unfold lowG
    rw [if_neg (by omega), Int.gcd_mul_right, Int.natCast_mul, Int.natAbs_of_nonneg (by omega)]
  have hp2 : 0 ≤ ((Int.gcd t b : Nat) : Int) * m := Int.le_of_lt (Int.mul_pos (by omega) hm)
  unfold lowT lowB
  rw [hG, hG2, Int.fdiv_eq_ediv_of_nonneg _ hp2, Int.fdiv_eq_ediv_of_nonneg _ hp2, Int.fdiv_eq_ediv_of_nonneg _ (by omega), Int.fdiv_eq_ediv_of_nonneg _ (by omega)]
  exact ⟨Int.mul_ediv_mul_of_pos_left _ _ hm, Int.mul_ediv_mul_of_pos_left _ _ hm⟩
theorem low_pos {t b : Int} (hb : 0 < b) : 1 ≤ lowB t b ∧ lowB t b ≤ b ∧ (lowT t b).natAbs ≤ t.natAbs := by
  obtain ⟨g, g0, et, eb⟩ := low_mul (t := t) hb
  have b0 : 0 < lowB t b := by
    rcases Int.lt_or_le 0 (lowB t b) with h | h
    · exact h
    · have : g * lowB t b ≤ 0 := Int.mul_nonpos_of_nonneg_of_nonpos (by omega) h
      omega
  refine ⟨by omega, ?_, ?_⟩
  · have : 1 * lowB t b ≤ g * lowB t b := Int.mul_le_mul_of_nonneg_right (by omega) (by omega)
    omega
  · have e := congrArg Int.natAbs et
    rw [Int.natAbs_mul] at e
    rw [e]
    exact Nat.le_mul_of_pos_left _ (by omega)
theorem low_one (x : Int) : lowT x 1 = x ∧ lowB x 1 = 1 := by
  have hG : lowG x 1 = 1 := by unfold lowG; rw [if_neg (by decide)]; simp
  unfold lowT lowB
  rw [hG, Int.fdiv_one, Int.fdiv_one]
  exact ⟨rfl, rfl⟩
def R (j : Nat) : Int := (if j % 3 = 0 then 1 else if j % 3 = 1 then 2 else 5) * 10 ^ (j / 3)
theorem R0 (q : Nat) : R (3 * q) = 1 * 10 ^ q := by
  unfold R
  rw [if_pos (by omega), show 3 * q / 3 = q by omega]
theorem R1 (q : Nat) : R (3 * q + 1) = 2 * 10 ^ q := by
  unfold R
  rw [if_neg (by omega), if_pos (by omega), show (3 * q + 1) / 3 = q by omega]
theorem R2 (q : Nat) : R (3 * q + 2) = 5 * 10 ^ q := by
  unfold R
  rw [if_neg (by omega), if_neg (by omega), show (3 * q + 2) / 3 = q by omega]
theorem R3 (q : Nat) : R (3 * q + 3) = 10 * 10 ^ q := by
  rw [show 3 * q + 3 = 3 * (q + 1) by omega, R0, Int.pow_succ]
  omega
theorem ten_pos (n : Nat) : (0 : Int) < 10 ^ n := Int.pow_pos (by decide)
theorem R_pos (j : Nat) : 0 < R j := by
  unfold R
  refine Int.mul_pos ?_ (ten_pos _)
  split
  · decide
  · split <;> decide
def Nx (L : Nat) (t b : Int) (j : Nat) : Prop := t * 10 ^ L ≤ R j * b ∧ ∀ i, i < j → R i * b < t * 10 ^ L
end Kx
set_option Elab.async false
set_option linter.all false
set_option maxRecDepth 100000
namespace Kx
open PySem PySem.Spec L2 PyProof.Rows PySem.W
structure CalM (P : Program) (w : World) (K : PySem.W.Frag) (mg : Str → Option Value) (base : Heap) (CX : CXT) (k : Nat) (C : Addr) (m : Str) (ps : List Str) (sp : Sp) : Prop where
  ex : ∃ (f : Addr) (fd : FuncData), Meth K C m f ∧ FnOk P w K mg base CX k f fd ps sp ∧ Binds K fd ps []
structure CalK (P : Program) (w : World) (K : PySem.W.Frag) (mg : Str → Option Value) (base : Heap) (CX : CXT) (k : Nat) (C : Addr) (x : Str) (ps : List Str) (sp : Sp) : Prop where
  ex : ∃ (f : Addr) (fd : FuncData), Mk K C f ∧ FnOk P w K mg base CX k f fd ps sp ∧ Binds K fd ps [] ∧ mg x = some (.ref C)
section
variable {X : Cx} {CX : CXT} {j k : Nat} {ps : List Str} {sp : Sp} {E : XK} {C : Addr} {m x : Str} {o e : Expr} {es : List Expr} {apos p pos : Pos} {ta : TE} {t : TA}
theorem pe_makeC (M : CalK X.prog X.w X.K X.mg X.base CX j C x ps sp) (hr : Room k X.A) (hx : Passes CX X E) (ha : PA X (e :: es) t) (hg : Gl X x := by rfl) (hj : j + 1 ≤ k := by decide) (hdb : (x == ("__debug__" : Str)) = false := by decide) (hs : (e :: es).any isStar = false := by rfl) :
    PE X (.Call (.Name x p) (e :: es) [] pos) (tMake C sp [] E t) := by
  obtain ⟨f, fd, M, F, b, hm⟩ := M.ex
  have h2 : isStar e = false ∧ es.any isStar = false := by simpa using hs
  exact pe_make M F (hr.mono hj) hg hm b .nil hx ha hdb (star_cons h2.1) (star_any h2.2)
end
def clsBody (s : Stmt) (i : Nat) : Stmt := match s with
  | .ClassDef _ _ _ body _ _ _ _ _ _ _ => body.getD i (.Pass ⟨0, 0, 0, 0⟩)
  | _ => .Pass ⟨0, 0, 0, 0⟩
end Kx
set_option Elab.async false
set_option linter.all false
set_option maxRecDepth 100000
namespace Kx
open PySem L2
end Kx
set_option Elab.async false
set_option linter.all false
set_option maxRecDepth 100000
namespace Kx
open PySem PySem.Spec L2 PyProof.Rows PySem.W
section
variable {X : Cx} {tg : Expr}
end
end Kx
set_option Elab.async false
set_option linter.all false
set_option maxRecDepth 100000
namespace Kx
open PySem PySem.Spec L2 PyProof.Rows PySem.W
section
variable {X : Cx}
theorem call_isiLL : CallR X (.builtin "isinstance") (fun xs H Q => ∃ a ys, xs = [.ref a, .ty "list"] ∧ SqL X.K H a ys ∧ Q (.bl true) H) := by
  intro pins s σ H xs us Q I r h
  obtain ⟨a, ys, rfl, ha, q⟩ := h
  obtain ⟨u1, u2, rfl, r1, r2⟩ : ∃ u1 u2, us = [u1, u2] ∧ RelV (.ref a) u1 ∧ RelV (.ty "list") u2 := by
    cases r with | cons a r => cases r with | cons b r => cases r with | nil => exact ⟨_, _, rfl, a, b⟩
  cases r1
  cases r2
  have f0 : EP X pins σ Q (.bool true) s := ⟨.bl true, H, I, rfl, q⟩
  obtain ⟨its, _, ht, _⟩ := I.list ha
  exact PyProof.Rows.call_isinstance_yes (Tx := "list") ht.isList.typeIs PySem.F.isi_meta_list PySem.F.isi_self_list f0
end
end Kx
set_option Elab.async false
set_option linter.all false
set_option maxRecDepth 100000
namespace Kx
open PySem L2
end Kx
set_option Elab.async false
set_option linter.all false
set_option maxRecDepth 100000
set_option autoImplicit false
namespace Dt
open PySem L2 Kx
inductive D where
  | non | bl (b : Bool) | int (i : Int) | str (x : Str) | ty (n : String) | scr (xs : List D) | lst (xs : List D) | tup (xs : List D) | obj (c : Str) (ns : List Str) (xs : List D) | dic (ks : List Key) (xs : List D) | exc (c : Str) (ns : List Str) (xs : List D)
def excD (a C dx : Addr) : HO := .ext fun h => ∃ o vs, h.get? a = some o ∧ o.cls = .ref C ∧ o.data = .fields vs ∧ o.dict = some dx
def ExcC (F : Hp) (a C : Addr) (ns : List Str) (vs : List V) : Prop := (ns = [] ∧ F a = some (excH a C)) ∨ ns ≠ [] ∧ ∃ dx, F a = some (excD a C dx) ∧ F dx = some (.xd (ns.zip vs))
theorem ExcC.same {F F' : Hp} {a C : Addr} {ns : List Str} {vs : List V} (h : ExcC F a C ns vs) (g : Same F F') : ExcC F' a C ns vs := h.elim (fun h => .inl ⟨h.1, g _ _ h.2⟩) fun ⟨h0, dx, h1, h2⟩ => .inr ⟨h0, dx, g _ _ h1, g _ _ h2⟩
mutual
inductive Rep (K : PySem.W.Frag) (F : Hp) : V → D → Prop
  | non : Rep K F .non .non
  | bl (b : Bool) : Rep K F (.bl b) (.bl b)
  | int (i : Int) : Rep K F (.int i) (.int i)
  | str (x : Str) : Rep K F (.str x) (.str x)
  | ty (n : String) : Rep K F (.ty n) (.ty n)
  | scr {a : Addr} {vs : List V} {ds : List D} : SqL K F a vs → RepA K F vs ds → Rep K F (.ref a) (.scr ds)
  | lst {a : Addr} {vs : List V} {ds : List D} : F a = some (.lst vs) → RepA K F vs ds → Rep K F (.ref a) (.lst ds)
  | tup {a : Addr} {vs : List V} {ds : List D} : SqT K F a vs → RepA K F vs ds → Rep K F (.ref a) (.tup ds)
  | obj {a dx C : Addr} {c : Str} {ns : List Str} {vs : List V} {ds : List D} : PySem.W.nsIn K mainGlobals c = some (some (.ref C)) → F a = some (.ins C dx (ns.zip vs)) → RepA K F vs ds → Rep K F (.ref a) (.obj c ns ds)
  | dic {a : Addr} {ks : List Key} {vs : List V} {ds : List D} : F a = some (.dK (ks.zip vs)) → ks.length = vs.length → RepA K F vs ds → Rep K F (.ref a) (.dic ks ds)
  | exc {a C : Addr} {c : Str} {ns : List Str} {vs : List V} {ds : List D} : PySem.W.nsIn K mainGlobals c = some (some (.ref C)) → ExcC F a C ns vs → RepA K F vs ds → Rep K F (.ref a) (.exc c ns ds)
inductive RepA (K : PySem.W.Frag) (F : Hp) : List V → List D → Prop
  | nil : RepA K F [] []
  | cons {v : V} {d : D} {vs : List V} {ds : List D} : Rep K F v d → RepA K F vs ds → RepA K F (v :: vs) (d :: ds)
end
section
variable {K : PySem.W.Frag} {F F' H H' : Hp}
theorem rd_same {a : Addr} {o : HO} (h : L2.Rd H a o) (g : Same H H') : L2.Rd H' a o := by
  rcases h with h | ⟨x, h⟩
  · exact .inl (g _ _ h)
  · exact .inr ⟨x, g _ _ h⟩
theorem sql_same {a : Addr} {xs : List V} (h : SqL K H a xs) (g : Same H H') : SqL K H' a xs := h.elim (fun h => .inl (rd_same h g)) .inr
theorem sqt_same {a : Addr} {xs : List V} (h : SqT K H a xs) (g : Same H H') : SqT K H' a xs := h.elim (fun h => .inl (rd_same h g)) .inr
mutual
theorem Rep.mono (g : Same F F') : ∀ {v : V} {d : D}, Rep K F v d → Rep K F' v d
  | _, _, .non => .non
  | _, _, .bl b => .bl b
  | _, _, .int i => .int i
  | _, _, .str x => .str x
  | _, _, .ty n => .ty n
  | _, _, .scr h r => .scr (sql_same h g) (RepA.mono g r)
  | _, _, .lst h r => .lst (g _ _ h) (RepA.mono g r)
  | _, _, .tup h r => .tup (sqt_same h g) (RepA.mono g r)
  | _, _, .obj c h r => .obj c (g _ _ h) (RepA.mono g r)
  | _, _, .dic h l r => .dic (g _ _ h) l (RepA.mono g r)
  | _, _, .exc c h r => .exc c (h.same g) (RepA.mono g r)
theorem RepA.mono (g : Same F F') : ∀ {vs : List V} {ds : List D}, RepA K F vs ds → RepA K F' vs ds
  | _, _, .nil => .nil
  | _, _, .cons h r => .cons (Rep.mono g h) (RepA.mono g r)
end
theorem RepA.length : ∀ {vs : List V} {ds : List D}, RepA K F vs ds → vs.length = ds.length
  | _, _, .nil => rfl
  | _, _, .cons _ r => congrArg (· + 1) (RepA.length r)
theorem RepA.get : ∀ {vs : List V} {ds : List D} {i : Nat} {d : D}, RepA K F vs ds → ds[i]? = some d → ∃ v, vs[i]? = some v ∧ Rep K F v d
  | _, _, _, _, .nil, e => by simp at e
  | _, _, 0, _, .cons h _, e => by simp at e; subst e; exact ⟨_, rfl, h⟩
  | _, _, i + 1, d, .cons _ r, e => by
    obtain ⟨u, h1, h2⟩ := RepA.get (i := i) (d := d) r (by simpa using e)
    exact ⟨u, by simpa using h1, h2⟩
theorem RepA.append : ∀ {vs ws : List V} {ds es : List D}, RepA K F vs ds → RepA K F ws es → RepA K F (vs ++ ws) (ds ++ es)
  | _, _, _, _, .nil, s => s
  | _, _, _, _, .cons h r, s => .cons h (RepA.append r s)
theorem RepA.set {v : V} {d : D} (h : Rep K F v d) : ∀ {vs : List V} {ds : List D} (i : Nat), RepA K F vs ds → RepA K F (vs.set i v) (ds.set i d)
  | _, _, _, .nil => .nil
  | _, _, 0, .cons _ r => .cons h r
  | _, _, i + 1, .cons q r => .cons q (RepA.set h i r)
theorem RepA.take : ∀ {vs : List V} {ds : List D} (n : Nat), RepA K F vs ds → RepA K F (vs.take n) (ds.take n)
  | _, _, 0, _ => .nil
  | _, _, _ + 1, .nil => .nil
  | _, _, n + 1, .cons h r => .cons h (RepA.take n r)
theorem RepA.drop : ∀ {vs : List V} {ds : List D} (n : Nat), RepA K F vs ds → RepA K F (vs.drop n) (ds.drop n)
  | _, _, 0, r => r
  | _, _, _ + 1, .nil => .nil
  | _, _, n + 1, .cons _ r => RepA.drop n r
theorem RepA.ints : ∀ {vs : List V} {ns : List Int}, RepA K F vs (ns.map D.int) → vs = ns.map V.int
  | _, [], .nil => rfl
  | _, _ :: _, .cons h r => by cases h; rw [List.map_cons, RepA.ints r]
theorem RepA.ofInts : ∀ {ns : List Int}, RepA K F (ns.map V.int) (ns.map D.int)
  | [] => .nil
  | _ :: _ => .cons (.int _) RepA.ofInts
theorem RepA.strs : ∀ {vs : List V} {xs : List Str}, RepA K F vs (xs.map D.str) → vs = xs.map V.str
  | _, [], .nil => rfl
  | _, _ :: _, .cons h r => by cases h; rw [List.map_cons, RepA.strs r]
end
inductive En where
  | shr (d : D) | own (ds : List D)
def En.dat : En → D
  | .shr d => d
  | .own ds => .lst ds
abbrev Gm := List (Option En)
inductive R where
  | val (d : D) | new (ds : List D) | slot (i : Nat)
def R.at (Γ : Gm) : R → Option D
  | .val d => some d
  | .new ds => some (.lst ds)
  | .slot i => match Γ[i]? with
    | some (some e) => some e.dat
    | _ => none
structure Tb where
  K : PySem.W.Frag
  ts : List Addr
  ls : List (Addr × Pos × Str)
def RepE (K : PySem.W.Frag) (F H : Hp) (v : V) : En → Prop
  | .shr d => Rep K F v d
  | .own ds => ∃ a vs, v = .ref a ∧ H a = some (.lst vs) ∧ F a = none ∧ RepA K F vs ds
def Owns (σ : St) (Γ : Gm) (b : Addr) : Prop := ∃ (i : Nat) (ds : List D), Γ[i]? = some (some (En.own ds)) ∧ σ[i]? = some (some (V.ref b))
def NoT (o : HO) : Prop := ∀ ps, o ≠ .tbl ps
structure Ok (T : Tb) (F H : Hp) : Prop where
  sub : Same F H
  nt : ∀ b o, F b = some o → NoT o
  tabs : ∀ P ∈ T.ts, Tab H P
  labs : ∀ p ∈ T.ls, TabL H p.1 p.2.1 p.2.2
structure Rp (T : Tb) (F : Hp) (σ : St) (H : Hp) (Γ : Gm) : Prop extends Ok T F H where
  len : Γ.length = σ.length
  at_ : ∀ (i : Nat) (e : En), Γ[i]? = some (some e) → ∃ v, σ[i]? = some (some v) ∧ RepE T.K F H v e
  apart : ∀ (i j : Nat) (ds ds' : List D) (v : V), Γ[i]? = some (some (En.own ds)) → Γ[j]? = some (some (En.own ds')) → σ[i]? = some (some v) → σ[j]? = some (some v) → i = j
structure Nw (T : Tb) (F H F' H' : Hp) : Prop where
  ok : Ok T F' H'
  ff : Same F F'
  hh : ∀ b o, H b = some o → NoT o → H' b = some o
  gro : ∀ b o, H b = some o → ∃ o', H' b = some o'
  nf : ∀ b o, F' b = some o → F b = some o ∨ H b = none
section
variable {T : Tb} {F F1 F2 F' H H1 H2 H' : Hp} {σ : St} {Γ Γ1 Γ2 Γ' : Gm}
theorem Ok.refl (o : Ok T F H) : Nw T F H F H := ⟨o, fun _ _ h => h, fun _ _ h _ => h, fun _ o h => ⟨o, h⟩, fun _ _ h => .inl h⟩
theorem tab_new {P p : Addr} {o : HO} (h : H p = none) (t : Tab H P) : Tab (upd H p o) P := by
  obtain ⟨ps, e, q⟩ := t
  exact ⟨ps, same_new h o _ _ e, q⟩
theorem tab_lst {P p : Addr} {vs : List V} {o : HO} (h : H p = some (.lst vs)) (t : Tab H P) : Tab (upd H p o) P := by
  obtain ⟨ps, e, q⟩ := t
  refine ⟨ps, ?_, q⟩
  rw [upd_ne (ne_of e h (by intro z; cases z))]
  exact e
theorem codeAt_sub {q : Str} {cv : Value} (x : CodeAt H q cv) (h : ∀ b o, H b = some o → NoT o → H' b = some o ∨ ∃ vs, o = .lst vs) : CodeAt H' q cv := by
  obtain ⟨c, oc, vs, t, e, hc, r⟩ := x
  refine ⟨c, oc, vs, t, e, ?_, r⟩
  rcases h c _ hc (fun _ z => by cases z) with y | ⟨_, y⟩
  · exact y
  · cases y
theorem lab_new {P p : Addr} {pos : Pos} {q : Str} {o : HO} (h : H p = none) (t : TabL H P pos q) : TabL (upd H p o) P pos q := by
  obtain ⟨ps, e, r, c⟩ := t
  exact ⟨ps, same_new h o _ _ e, r, fun cv hcv => codeAt_sub (c cv hcv) fun b u e _ => .inl (same_new h o b u e)⟩
theorem lab_lst {P p : Addr} {pos : Pos} {q : Str} {vs : List V} {o : HO} (h : H p = some (.lst vs)) (t : TabL H P pos q) : TabL (upd H p o) P pos q := by
  obtain ⟨ps, e, r, c⟩ := t
  refine ⟨ps, ?_, r, fun cv hcv => codeAt_sub (c cv hcv) fun b u e _ => ?_⟩
  · rw [upd_ne (ne_of e h (by intro z; cases z))]
    exact e
  · by_cases hb : b = p
    · subst hb
      rw [h] at e
      cases e
      exact .inr ⟨_, rfl⟩
    · exact .inl (by rw [upd_ne hb]; exact e)
theorem Ok.lay (k : Ok T F H) {p : Addr} {o : HO} (hp : H p = none) (nt : NoT o) : Nw T F H (upd F p o) (upd H p o) := by
  have fp : F p = none := by
    cases e : F p with
    | none => rfl
    | some u => have := k.sub _ _ e; rw [hp] at this; cases this
  refine ⟨⟨fun b u e => ?_, fun b u e => ?_, fun P hP => tab_new hp (k.tabs P hP), fun p hP => lab_new hp (k.labs p hP)⟩, same_new fp o, fun b u e _ => same_new hp o b u e, fun b u e => ⟨u, same_new hp o b u e⟩, fun b u e => ?_⟩
  · by_cases hb : b = p
    · subst hb; rw [upd_same] at e ⊢; exact e
    · rw [upd_ne hb] at e ⊢; exact k.sub _ _ e
  · by_cases hb : b = p
    · subst hb; rw [upd_same] at e; cases e; exact nt
    · rw [upd_ne hb] at e; exact k.nt _ _ e
  · by_cases hb : b = p
    · subst hb; exact .inr hp
    · rw [upd_ne hb] at e; exact .inl e
theorem Ok.put (k : Ok T F H) {p : Addr} {o : HO} (hp : H p = none) : Nw T F H F (upd H p o) :=
  ⟨⟨fun b u e => same_new hp o _ _ (k.sub _ _ e), k.nt, fun P hP => tab_new hp (k.tabs P hP), fun p hP => lab_new hp (k.labs p hP)⟩, fun _ _ h => h, fun b u e _ => same_new hp o b u e, fun b u e => ⟨u, same_new hp o b u e⟩, fun _ _ h => .inl h⟩
theorem lst_nt {vs : List V} : NoT (.lst vs) := fun _ z => by cases z
theorem tup_nt {vs : List V} : NoT (.tup vs) := fun _ z => by cases z
theorem RepE.nw {v : V} {e : En} (n : Nw T F H F' H') (h : RepE T.K F H v e) : RepE T.K F' H' v e := by
  cases e with
  | shr d => exact Rep.mono n.ff h
  | own ds =>
    obtain ⟨a, vs, e, ha, fa, r⟩ := h
    refine ⟨a, vs, e, n.hh _ _ ha lst_nt, ?_, r.mono n.ff⟩
    cases q : F' a with
    | none => rfl
    | some o =>
      rcases n.nf a o q with z | z
      · rw [fa] at z; cases z
      · rw [ha] at z; cases z
theorem Rp.nw (r : Rp T F σ H Γ) (n : Nw T F H F' H') : Rp T F' σ H' Γ :=
  ⟨n.ok, r.len, fun i e h => let ⟨v, e1, h1⟩ := r.at_ i e h; ⟨v, e1, h1.nw n⟩, r.apart⟩
structure Po (T : Tb) (F : Hp) (σ : St) (H : Hp) (Γ : Gm) (F' H' : Hp) (Γ' : Gm) : Prop where
  rp : Rp T F' σ H' Γ'
  ff : Same F F'
  fr : ∀ b o, H b = some o → NoT o → ¬ Owns σ Γ b → H' b = some o
  ow : ∀ (i : Nat) (ds : List D), Γ'[i]? = some (some (En.own ds)) → ∃ ds', Γ[i]? = some (some (En.own ds'))
  gro : ∀ b o, H b = some o → ∃ o', H' b = some o'
  nf : ∀ b o, F' b = some o → F b = some o ∨ H b = none ∨ Owns σ Γ b
  sl : ∀ (i : Nat) (e : En), Γ[i]? = some (some e) → ∃ e', Γ'[i]? = some (some e')
theorem Po.ows {b : Addr} (p : Po T F σ H Γ F' H' Γ') (h : Owns σ Γ' b) : Owns σ Γ b := by
  obtain ⟨i, ds, h1, h2⟩ := h
  obtain ⟨ds', h3⟩ := p.ow i ds h1
  exact ⟨i, ds', h3, h2⟩
theorem Rp.po (r : Rp T F σ H Γ) (n : Nw T F H F' H') : Po T F σ H Γ F' H' Γ :=
  ⟨r.nw n, n.ff, fun b o h t _ => n.hh b o h t, fun _ ds h => ⟨ds, h⟩, n.gro, fun b o h => (n.nf b o h).elim .inl fun z => .inr (.inl z), fun _ e h => ⟨e, h⟩⟩
theorem Rp.refl (r : Rp T F σ H Γ) : Po T F σ H Γ F H Γ := r.po r.toOk.refl
theorem Po.trans (p : Po T F σ H Γ F1 H1 Γ1) (q : Po T F1 σ H1 Γ1 F2 H2 Γ2) : Po T F σ H Γ F2 H2 Γ2 where
  rp := q.rp
  ff := fun b o h => q.ff b o (p.ff b o h)
  fr := fun b o h t n => q.fr b o (p.fr b o h t n) t fun z => n (p.ows z)
  ow := fun i ds h => let ⟨ds1, h1⟩ := q.ow i ds h; p.ow i ds1 h1
  gro := fun b o h => let ⟨o1, h1⟩ := p.gro b o h; q.gro b o1 h1
  nf := fun b o h => by
    rcases q.nf b o h with z | z | z
    · exact p.nf b o z
    · cases e : H b with
      | none => exact .inr (.inl rfl)
      | some u => obtain ⟨u', z'⟩ := p.gro b u e; rw [z] at z'; cases z'
    · exact .inr (.inr (p.ows z))
  sl := fun i e h => let ⟨e1, h1⟩ := p.sl i e h; q.sl i e1 h1
theorem Po.nw (p : Po T F σ H Γ F1 H1 Γ1) (n : Nw T F1 H1 F2 H2) : Po T F σ H Γ F2 H2 Γ1 := p.trans (p.rp.po n)
theorem Po.none {b : Addr} (p : Po T F σ H Γ F' H' Γ') (h : H' b = none) : H b = none := by
  cases e : H b with
  | none => rfl
  | some u => obtain ⟨u', z⟩ := p.gro b u e; rw [h] at z; cases z
def RepR (T : Tb) (F : Hp) (σ : St) (H : Hp) (Γ : Gm) (Hs : Hp) (v : V) : R → Prop
  | .val d => Rep T.K F v d
  | .new ds => ∃ a vs, v = .ref a ∧ H a = some (.lst vs) ∧ F a = none ∧ Hs a = none ∧ RepA T.K F vs ds ∧ ¬ Owns σ Γ a
  | .slot i => σ[i]? = some (some v) ∧ ∃ e, Γ[i]? = some (some e)
def PRep (K : PySem.W.Frag) (F H : Hp) (v : V) (d : D) : Prop := Rep K F v d ∨ ∃ a vs ds, v = .ref a ∧ d = .lst ds ∧ H a = some (.lst vs) ∧ RepA K F vs ds
theorem RepR.peek {Hs : Hp} {v : V} {r : R} {d : D} (p : Rp T F σ H Γ) (h : RepR T F σ H Γ Hs v r) (e : r.at Γ = some d) : PRep T.K F H v d := by
  cases r with
  | val d' => cases e; exact .inl h
  | new ds =>
    cases e
    obtain ⟨a, vs, ev, ha, _, _, ra, _⟩ := h
    exact .inr ⟨a, vs, ds, ev, rfl, ha, ra⟩
  | slot i =>
    obtain ⟨e1, en, e2⟩ := h
    simp only [R.at, e2] at e
    cases e
    obtain ⟨v', e3, re⟩ := p.at_ i en e2
    rw [e1] at e3
    cases e3
    cases en with
    | shr d => exact .inl re
    | own ds =>
      obtain ⟨a, vs, ev, ha, _, ra⟩ := re
      exact .inr ⟨a, vs, ds, ev, rfl, ha, ra⟩
def R.hold : R → R
  | .new ds => .val (.lst ds)
  | r => r
theorem frz_new {Fs Hs : Hp} {Γs : Gm} {v : V} {ds : List D} (q : Po T Fs σ Hs Γs F H Γ) (h : RepR T F σ H Γ Hs v (.new ds)) : ∃ F', Po T Fs σ Hs Γs F' H Γ ∧ Same F F' ∧ Rep T.K F' v (.lst ds) := by
  obtain ⟨a, vs, rfl, ha, fa, hs, ra, no⟩ := h
  have p := q.rp
  have ff : Same F (upd F a (.lst vs)) := same_new fa _
  refine ⟨upd F a (.lst vs), ⟨⟨⟨fun b u e => ?_, fun b u e => ?_, p.tabs, p.labs⟩, p.len, fun i e h => ?_, p.apart⟩, fun b o h => ff _ _ (q.ff b o h), q.fr, q.ow, q.gro, fun b o h => ?_, q.sl⟩, ff, .lst upd_same (ra.mono ff)⟩
  · by_cases hb : b = a
    · subst hb; rw [upd_same] at e; cases e; exact ha
    · rw [upd_ne hb] at e; exact p.sub _ _ e
  · by_cases hb : b = a
    · subst hb; rw [upd_same] at e; cases e; exact lst_nt
    · rw [upd_ne hb] at e; exact p.nt _ _ e
  · obtain ⟨w, e1, re⟩ := p.at_ i e h
    refine ⟨w, e1, ?_⟩
    cases e with
    | shr d => exact Rep.mono ff re
    | own es =>
      obtain ⟨b, ws, rfl, hb, fb, rb⟩ := re
      refine ⟨b, ws, rfl, hb, ?_, rb.mono ff⟩
      rw [upd_ne (fun z : b = a => no ⟨i, es, h, by rw [← z]; exact e1⟩)]
      exact fb
  · by_cases hb : b = a
    · subst hb; exact .inr (.inl hs)
    · rw [upd_ne hb] at h; exact q.nf b o h
theorem RepR.held {Fs Hs : Hp} {Γs : Gm} {v : V} {r : R} (q : Po T Fs σ Hs Γs F H Γ) (h : RepR T F σ H Γ Hs v r) : ∃ F', Po T Fs σ Hs Γs F' H Γ ∧ Same F F' ∧ RepR T F' σ H Γ Hs v r.hold := by
  cases r with
  | val d => exact ⟨F, q, fun _ _ h => h, h⟩
  | new ds => exact frz_new q h
  | slot i => exact ⟨F, q, fun _ _ h => h, h⟩
theorem RepR.on {Hs : Hp} {v : V} {r : R} (h : RepR T F σ H Γ Hs v r.hold) (q : Po T F σ H Γ F' H' Γ') : RepR T F' σ H' Γ' Hs v r.hold := by
  cases r with
  | val d => exact Rep.mono q.ff h
  | new ds => exact Rep.mono q.ff h
  | slot i =>
    obtain ⟨e1, e, e2⟩ := h
    exact ⟨e1, q.sl i e e2⟩
def frz (Γ : Gm) : R → Option (D × Gm)
  | .val d => some (d, Γ)
  | .new ds => some (.lst ds, Γ)
  | .slot i => match Γ[i]? with
    | some (some (.shr d)) => some (d, Γ)
    | some (some (.own ds)) => some (.lst ds, Γ.set i (some (.shr (.lst ds))))
    | _ => none
theorem RepR.frz {Fs Hs : Hp} {Γs : Gm} {v : V} {r : R} {d : D} (q : Po T Fs σ Hs Γs F H Γ) (h : RepR T F σ H Γ Hs v r) (e : frz Γ r = some (d, Γ')) : ∃ F', Po T Fs σ Hs Γs F' H Γ' ∧ Same F F' ∧ Rep T.K F' v d := by
  cases r with
  | val d => cases e; exact ⟨F, q, fun _ _ h => h, h⟩
  | new ds => cases e; exact frz_new q h
  | slot i =>
    have p := q.rp
    obtain ⟨e1, en, e2⟩ := h
    simp only [Dt.frz, e2] at e
    obtain ⟨v', e3, re⟩ := p.at_ i en e2
    rw [e1] at e3
    cases e3
    cases en with
    | shr d' => cases e; exact ⟨F, q, fun _ _ h => h, re⟩
    | own ds =>
      cases e
      obtain ⟨a, vs, rfl, ha, fa, ra⟩ := re
      have ff : Same F (upd F a (.lst vs)) := same_new fa _
      have hil : i < Γ.length := (List.getElem?_eq_some_iff.mp e2).1
      have get : ∀ (j : Nat) (e : En), (Γ.set i (some (.shr (.lst ds))))[j]? = some (some e) → (j = i ∧ e = .shr (.lst ds)) ∨ (j ≠ i ∧ Γ[j]? = some (some e)) := fun j e hj => by
        by_cases hji : j = i
        · subst hji
          rw [List.getElem?_set_self hil] at hj
          cases hj
          exact .inl ⟨rfl, rfl⟩
        · rw [List.getElem?_set_ne (Ne.symm hji)] at hj
          exact .inr ⟨hji, hj⟩
      have ow : ∀ (j : Nat) (es : List D), (Γ.set i (some (.shr (.lst ds))))[j]? = some (some (En.own es)) → Γ[j]? = some (some (En.own es)) := fun j es h1 => by
        rcases get j _ h1 with ⟨_, z⟩ | ⟨_, z⟩
        · cases z
        · exact z
      have rr : Rep T.K (upd F a (.lst vs)) (.ref a) (.lst ds) := .lst upd_same (ra.mono ff)
      refine ⟨upd F a (.lst vs), ⟨⟨⟨fun b u e => ?_, fun b u e => ?_, p.tabs, p.labs⟩, by simpa using p.len, fun j e h => ?_, fun j k es es' w h1 h2 h3 h4 => ?_⟩, fun b o h => ff _ _ (q.ff b o h), q.fr, fun j es h => q.ow j es (ow j es h), q.gro, fun b o h => ?_, fun j e h => ?_⟩, ff, rr⟩
      · by_cases hb : b = a
        · subst hb; rw [upd_same] at e; cases e; exact ha
        · rw [upd_ne hb] at e; exact p.sub _ _ e
      · by_cases hb : b = a
        · subst hb; rw [upd_same] at e; cases e; exact lst_nt
        · rw [upd_ne hb] at e; exact p.nt _ _ e
      · rcases get j e h with ⟨rfl, rfl⟩ | ⟨hji, h⟩
        · exact ⟨_, e1, rr⟩
        · obtain ⟨w, e3, re⟩ := p.at_ j e h
          refine ⟨w, e3, ?_⟩
          cases e with
          | shr d => exact Rep.mono ff re
          | own es =>
            obtain ⟨b, ws, rfl, hb, fb, rb⟩ := re
            refine ⟨b, ws, rfl, hb, ?_, rb.mono ff⟩
            rw [upd_ne (fun z : b = a => hji (p.apart j i es ds _ h e2 e3 (by rw [z]; exact e1)))]
            exact fb
      · rcases get j _ h1 with ⟨_, z⟩ | ⟨_, h1⟩
        · cases z
        rcases get k _ h2 with ⟨_, z⟩ | ⟨_, h2⟩
        · cases z
        exact p.apart j k es es' w h1 h2 h3 h4
      · by_cases hb : b = a
        · subst hb; exact .inr (.inr (q.ows ⟨i, ds, e2, e1⟩))
        · rw [upd_ne hb] at h; exact q.nf b o h
      · obtain ⟨e', h'⟩ := q.sl j e h
        by_cases hji : j = i
        · subst hji
          exact ⟨_, List.getElem?_set_self hil⟩
        · exact ⟨e', by rw [List.getElem?_set_ne (Ne.symm hji)]; exact h'⟩
theorem PRep.int {K : PySem.W.Frag} {v : V} {i : Int} (h : PRep K F H v (.int i)) : v = .int i := by
  rcases h with h | ⟨_, _, _, _, z, _⟩
  · cases h; rfl
  · cases z
theorem PRep.str {K : PySem.W.Frag} {v : V} {x : Str} (h : PRep K F H v (.str x)) : v = .str x := by
  rcases h with h | ⟨_, _, _, _, z, _⟩
  · cases h; rfl
  · cases z
theorem PRep.bl {K : PySem.W.Frag} {v : V} {b : Bool} (h : PRep K F H v (.bl b)) : v = .bl b := by
  rcases h with h | ⟨_, _, _, _, z, _⟩
  · cases h; rfl
  · cases z
theorem PRep.non {K : PySem.W.Frag} {v : V} (h : PRep K F H v .non) : v = .non := by
  rcases h with h | ⟨_, _, _, _, z, _⟩
  · cases h; rfl
  · cases z
theorem PRep.lst {K : PySem.W.Frag} {v : V} {ds : List D} (s : Same F H) (h : PRep K F H v (.lst ds)) : ∃ a vs, v = .ref a ∧ L2.Rd H a (.lst vs) ∧ RepA K F vs ds := by
  rcases h with h | ⟨a, vs, ds, e, z, ha, r⟩
  · cases h with | lst h r => exact ⟨_, _, rfl, .inl (s _ _ h), r⟩
  · cases z; exact ⟨a, vs, e, .inl ha, r⟩
theorem PRep.scr {K : PySem.W.Frag} {v : V} {ds : List D} (s : Same F H) (h : PRep K F H v (.scr ds)) : ∃ a vs, v = .ref a ∧ SqL K H a vs ∧ RepA K F vs ds := by
  rcases h with h | ⟨_, _, _, _, z, _⟩
  · cases h with | scr h r => exact ⟨_, _, rfl, sql_same h s, r⟩
  · cases z
theorem PRep.tup {K : PySem.W.Frag} {v : V} {ds : List D} (s : Same F H) (h : PRep K F H v (.tup ds)) : ∃ a vs, v = .ref a ∧ SqT K H a vs ∧ RepA K F vs ds := by
  rcases h with h | ⟨_, _, _, _, z, _⟩
  · cases h with | tup h r => exact ⟨_, _, rfl, sqt_same h s, r⟩
  · cases z
inductive PRepA (K : PySem.W.Frag) (F H : Hp) : List V → List D → Prop
  | nil : PRepA K F H [] []
  | cons {v : V} {d : D} {vs : List V} {ds : List D} : PRep K F H v d → PRepA K F H vs ds → PRepA K F H (v :: vs) (d :: ds)
theorem PRepA.one {K : PySem.W.Frag} {vs : List V} {d : D} (h : PRepA K F H vs [d]) : ∃ v, vs = [v] ∧ PRep K F H v d := by
  cases h with | cons h r => cases r; exact ⟨_, rfl, h⟩
theorem PRepA.two {K : PySem.W.Frag} {vs : List V} {d e : D} (h : PRepA K F H vs [d, e]) : ∃ v w, vs = [v, w] ∧ PRep K F H v d ∧ PRep K F H w e := by
  cases h with | cons h r => cases r with | cons h2 r => cases r; exact ⟨_, _, rfl, h, h2⟩
def RepN (T : Tb) (F' H H' : Hp) (v : V) : R → Prop
  | .val d => Rep T.K F' v d
  | .new ds => ∃ a vs, v = .ref a ∧ H' a = some (.lst vs) ∧ F' a = none ∧ H a = none ∧ RepA T.K F' vs ds
  | .slot _ => False
theorem Rp.owns {b : Addr} (p : Rp T F σ H Γ) (h : Owns σ Γ b) : ∃ vs, H b = some (.lst vs) ∧ F b = none := by
  obtain ⟨i, ds, e1, e2⟩ := h
  obtain ⟨v, e3, a, vs, rfl, ha, fa, _⟩ := p.at_ i _ e1
  rw [e2] at e3
  cases e3
  exact ⟨vs, ha, fa⟩
theorem RepN.toR {Fs Hs : Hp} {Γs : Gm} {v : V} {r : R} (q : Po T Fs σ Hs Γs F H Γ) (h : RepN T F' H H' v r) : RepR T F' σ H' Γ Hs v r := by
  cases r with
  | val d => exact h
  | new ds =>
    obtain ⟨a, vs, e, ha, fa, na, ra⟩ := h
    refine ⟨a, vs, e, ha, fa, q.none na, ra, fun z => ?_⟩
    obtain ⟨ws, hb, _⟩ := q.rp.owns z
    rw [na] at hb
    cases hb
  | slot i => exact h.elim
structure XD where
  c : Str
  ns : List Str
  ds : List D
def XE (T : Tb) (F' H' : Hp) (E : XK) (xd : XD) : Prop := ∀ C : Addr, PySem.W.nsIn T.K mainGlobals xd.c = some (some (.ref C)) → (xd.ns = [] → E (.ref C) none H') ∧ ∀ (dx : Addr) (vs : List V), xd.ns ≠ [] → F' dx = some (.xd (xd.ns.zip vs)) → RepA T.K F' vs xd.ds → E (.ref C) (some dx) H'
def XO (T : Tb) (σ : St) (E : XK) (Ξ : XD → Prop) (F H : Hp) (Γ : Gm) : Prop := ∀ F' H' Γ' xd, Ξ xd → Po T F σ H Γ F' H' Γ' → XE T F' H' E xd
theorem XO.on {E : XK} {Ξ : XD → Prop} (x : XO T σ E Ξ F H Γ) (q : Po T F σ H Γ F' H' Γ') : XO T σ E Ξ F' H' Γ' := fun F2 H2 Γ2 xd h p => x F2 H2 Γ2 xd h (q.trans p)
abbrev WE := Gm → (R → Gm → Prop) → (XD → Prop) → Prop
abbrev WT := Gm → (Bool → Gm → Prop) → (XD → Prop) → Prop
abbrev WA := Gm → (List R → Gm → Prop) → (XD → Prop) → Prop
def ED (T : Tb) (E : XK) (t : TE) (w : WE) : Prop := ∀ (F : Hp) (σ : St) (H : Hp) (Γ : Gm) (Q : VK) (Ψ : R → Gm → Prop) (Ξ : XD → Prop), Rp T F σ H Γ → w Γ Ψ Ξ → XO T σ E Ξ F H Γ →
  (∀ F' H' Γ' v r, Ψ r Γ' → Po T F σ H Γ F' H' Γ' → RepR T F' σ H' Γ' H v r → Q v H') → t σ H Q
def TD (T : Tb) (E : XK) (t : TT) (w : WT) : Prop := ∀ (F : Hp) (σ : St) (H : Hp) (Γ : Gm) (Q : Bool → Hp → Prop) (Ψ : Bool → Gm → Prop) (Ξ : XD → Prop), Rp T F σ H Γ → w Γ Ψ Ξ → XO T σ E Ξ F H Γ →
  (∀ F' H' Γ' b, Ψ b Γ' → Po T F σ H Γ F' H' Γ' → Q b H') → t σ H Q
inductive RepRs (T : Tb) (F : Hp) (σ : St) (H : Hp) (Γ : Gm) (Hs : Hp) : List V → List R → Prop
  | nil : RepRs T F σ H Γ Hs [] []
  | cons {v : V} {r : R} {vs : List V} {rs : List R} : RepR T F σ H Γ Hs v r.hold → RepRs T F σ H Γ Hs vs rs → RepRs T F σ H Γ Hs (v :: vs) (r.hold :: rs)
def AD (T : Tb) (E : XK) (t : TA) (w : WA) : Prop := ∀ (F : Hp) (σ : St) (H : Hp) (Γ : Gm) (Q : List V → Hp → Prop) (Ψ : List R → Gm → Prop) (Ξ : XD → Prop), Rp T F σ H Γ → w Γ Ψ Ξ → XO T σ E Ξ F H Γ →
  (∀ F' H' Γ' vs rs, Ψ rs Γ' → Po T F σ H Γ F' H' Γ' → RepRs T F' σ H' Γ' H vs rs → Q vs H') → t σ H Q
variable {E : XK} {t ta tb tc te : TE} {w wa wb wc we : WE}
def wVar (i : Nat) : WE := fun Γ Ψ _ => ∃ e, Γ[i]? = some (some e) ∧ Ψ (match e with | .shr d => .val d | .own _ => .slot i) Γ
theorem ed_var (i : Nat) : ED T E (tVar i) (wVar i) := fun F σ H Γ Q Ψ Ξ p h _ k => by
  obtain ⟨e, h1, h2⟩ := h
  obtain ⟨v, e1, r⟩ := p.at_ i e h1
  refine ⟨v, e1, k F H Γ v _ h2 p.refl ?_⟩
  cases e with
  | shr d => exact r
  | own ds => exact ⟨e1, _, h1⟩
def wC (d : D) : WE := fun Γ Ψ _ => Ψ (.val d) Γ
theorem ed_c {v : V} {d : D} (h : ∀ F, Rep T.K F v d) : ED T E (tC v) (wC d) := fun F σ H Γ Q Ψ Ξ p h1 _ k => k F H Γ v _ h1 p.refl (h F)
def OD (T : Tb) (r : L2.R2) (g : D → D → (R → Prop) → Prop) : Prop := ∀ (F H : Hp) (x y : V) (d e : D) (Q : VK) (Ψ : R → Prop), Ok T F H → PRep T.K F H x d → PRep T.K F H y e → g d e Ψ →
  (∀ F' H' v r, Ψ r → Nw T F H F' H' → RepN T F' H H' v r → Q v H') → r x y H Q
def wOp (g : D → D → (R → Prop) → Prop) (wa wb : WE) : WE := fun Γ Ψ Ξ => wa Γ (fun r1 Γ1 => wb Γ1 (fun r2 Γ2 => ∃ d1 d2, r1.at Γ2 = some d1 ∧ r2.at Γ2 = some d2 ∧ g d1 d2 fun r => Ψ r Γ2) Ξ) Ξ
theorem R.at_hold (Γ : Gm) (r : R) : r.hold.at Γ = r.at Γ := by cases r <;> rfl
theorem ed_op {r : L2.R2} {g : D → D → (R → Prop) → Prop} (o : OD T r g) (ha : ED T E ta wa) (hb : ED T E tb wb) : ED T E (tOp r ta tb) (wOp g wa wb) := by
  intro F σ H Γ Q Ψ Ξ p h x k
  refine ha F σ H Γ _ _ Ξ p h x fun F1 H1 Γ1 v1 r1 h1 q1 e1 => ?_
  obtain ⟨F2, q2, s2, e2⟩ := RepR.held q1 e1
  refine hb F2 σ H1 Γ1 _ _ Ξ q2.rp h1 (x.on q2) fun F3 H3 Γ3 v2 r2 h3 q3 e3 => ?_
  obtain ⟨d1, d2, a1, a2, hg⟩ := h3
  have e2' := e2.on q3
  rw [← R.at_hold] at a1
  refine o F3 H3 v1 v2 d1 d2 Q _ q3.rp.toOk (e2'.peek q3.rp a1) (e3.peek q3.rp a2) hg fun F4 H4 v r h4 n4 e4 => ?_
  have q := q2.trans q3
  exact k F4 H4 Γ3 v r h4 (q.nw n4) (e4.toR q)
def UD (T : Tb) (r : V → Hp → VK → Prop) (g : D → (R → Prop) → Prop) : Prop := ∀ (F H : Hp) (x : V) (d : D) (Q : VK) (Ψ : R → Prop), Ok T F H → PRep T.K F H x d → g d Ψ →
  (∀ F' H' v r, Ψ r → Nw T F H F' H' → RepN T F' H H' v r → Q v H') → r x H Q
def wUn (g : D → (R → Prop) → Prop) (wa : WE) : WE := fun Γ Ψ Ξ => wa Γ (fun r1 Γ1 => ∃ d1, r1.at Γ1 = some d1 ∧ g d1 fun r => Ψ r Γ1) Ξ
theorem ed_un {r : V → Hp → VK → Prop} {g : D → (R → Prop) → Prop} (o : UD T r g) (ha : ED T E ta wa) : ED T E (tUn r ta) (wUn g wa) := by
  intro F σ H Γ Q Ψ Ξ p h x k
  refine ha F σ H Γ _ _ Ξ p h x fun F1 H1 Γ1 v1 r1 h1 q1 e1 => ?_
  obtain ⟨d1, a1, hg⟩ := h1
  exact o F1 H1 v1 d1 Q _ q1.rp.toOk (e1.peek q1.rp a1) hg fun F4 H4 v r h4 n4 e4 => k F4 H4 Γ1 v r h4 (q1.nw n4) (e4.toR q1)
def wB (w : WE) : WT := fun Γ Ψ Ξ => w Γ (fun r Γ1 => ∃ b, r.at Γ1 = some (.bl b) ∧ Ψ b Γ1) Ξ
theorem td_b (h : ED T E t w) : TD T E (tB t) (wB w) := fun F σ H Γ Q Ψ Ξ p h1 x k => h F σ H Γ _ _ Ξ p h1 x fun F' H' Γ' v r hr q e => by
  obtain ⟨b, a, hb⟩ := hr
  exact ⟨b, (e.peek q.rp a).bl, k F' H' Γ' b hb q⟩
variable {t1 t2 : TT} {w1 w2 : WT}
def wNot (w : WT) : WT := fun Γ Ψ Ξ => w Γ (fun b Γ1 => Ψ (!b) Γ1) Ξ
theorem td_not (h : TD T E t1 w1) : TD T E (tNot t1) (wNot w1) := fun F σ H Γ Q Ψ Ξ p h1 x k => h F σ H Γ _ _ Ξ p h1 x fun F' H' Γ' b hb q => k F' H' Γ' _ hb q
def wAnd (w1 w2 : WT) : WT := fun Γ Ψ Ξ => w1 Γ (fun b Γ1 => if b = true then w2 Γ1 Ψ Ξ else Ψ false Γ1) Ξ
def wOr (w1 w2 : WT) : WT := fun Γ Ψ Ξ => w1 Γ (fun b Γ1 => if b = true then Ψ true Γ1 else w2 Γ1 Ψ Ξ) Ξ
theorem td_or (h : TD T E t1 w1) (h' : TD T E t2 w2) : TD T E (tOr t1 t2) (wOr w1 w2) := fun F σ H Γ Q Ψ Ξ p h1 x k => h F σ H Γ _ _ Ξ p h1 x fun F' H' Γ' b hb q => by
  cases b with
  | false => exact h' F' σ H' Γ' _ _ Ξ q.rp hb (x.on q) fun F2 H2 Γ2 b2 hb2 q2 => k F2 H2 Γ2 b2 hb2 (q.trans q2)
  | true => exact k F' H' Γ' _ hb q
def wIf (w1 : WT) (wa wb : WE) : WE := fun Γ Ψ Ξ => w1 Γ (fun b Γ1 => if b = true then wa Γ1 Ψ Ξ else wb Γ1 Ψ Ξ) Ξ
theorem RepR.back {Hs : Hp} {v : V} {r : R} (q : Po T F1 σ Hs Γ1 F H Γ) (e : RepR T F' σ H' Γ' H v r) : RepR T F' σ H' Γ' Hs v r := by
  cases r with
  | val d => exact e
  | new ds => obtain ⟨a, vs, e1, e2, e3, e4, e5⟩ := e; exact ⟨a, vs, e1, e2, e3, q.none e4, e5⟩
  | slot i => exact e
def wAndV (wa wb : WE) : WE := fun Γ Ψ Ξ => wa Γ (fun r Γ1 => ∃ c, r.at Γ1 = some (.bl c) ∧ if c = true then wb Γ1 Ψ Ξ else Ψ (.val (.bl false)) Γ1) Ξ
theorem ed_and (ha : ED T E ta wa) (hb : ED T E tb wb) : ED T E (tAndV ta tb) (wAndV wa wb) := fun F σ H Γ Q Ψ Ξ p h1 x k => ha F σ H Γ _ _ Ξ p h1 x fun F' H' Γ' v r hr q e => by
  obtain ⟨c, a, hc⟩ := hr
  refine ⟨c, (e.peek q.rp a).bl, ?_⟩
  cases c with
  | true => exact hb F' σ H' Γ' _ _ Ξ q.rp hc (x.on q) fun F2 H2 Γ2 v r hr q2 e => k F2 H2 Γ2 v r hr (q.trans q2) (e.back q)
  | false => exact k F' H' Γ' _ _ hc q (Rep.bl _)
def wOrV (wa wb : WE) : WE := fun Γ Ψ Ξ => wa Γ (fun r Γ1 => ∃ c, r.at Γ1 = some (.bl c) ∧ if c = true then Ψ (.val (.bl true)) Γ1 else wb Γ1 Ψ Ξ) Ξ
def wNotV (wa : WE) : WE := fun Γ Ψ Ξ => wa Γ (fun r Γ1 => ∃ c, r.at Γ1 = some (.bl c) ∧ Ψ (.val (.bl (!c))) Γ1) Ξ
theorem ed_not (ha : ED T E ta wa) : ED T E (tNotV ta) (wNotV wa) := fun F σ H Γ Q Ψ Ξ p h1 x k => ha F σ H Γ _ _ Ξ p h1 x fun F' H' Γ' v r hr q e => by
  obtain ⟨c, a, hc⟩ := hr
  exact ⟨c, (e.peek q.rp a).bl, k F' H' Γ' _ _ hc q (Rep.bl _)⟩
def BD (T : Tb) (r : L2.R2) (g : D → D → (Bool → Prop) → Prop) : Prop := ∀ (F H : Hp) (x y : V) (d e : D) (Q : VK) (Ψ : Bool → Prop), Ok T F H → PRep T.K F H x d → PRep T.K F H y e → g d e Ψ → (∀ b, Ψ b → Q (.bl b) H) → r x y H Q
theorem BD.od {r : L2.R2} {g : D → D → (Bool → Prop) → Prop} (h : BD T r g) : OD T r (fun d e Ψ => g d e fun b => Ψ (.val (.bl b))) := fun F H x y d e Q Ψ o h1 h2 hg k =>
  h F H x y d e Q _ o h1 h2 hg fun b hb => k F H _ _ hb o.refl (Rep.bl _)
def wChain (g g' : D → D → (Bool → Prop) → Prop) (wa wb wc : WE) : WE := fun Γ Ψ Ξ => wa Γ (fun r1 Γ1 => wb Γ1 (fun r2 Γ2 => ∃ d1 d2, r1.at Γ2 = some d1 ∧ r2.at Γ2 = some d2 ∧ g d1 d2 fun b => if b = true then wc Γ2 (fun r3 Γ3 => ∃ d2 d3, r2.at Γ3 = some d2 ∧ r3.at Γ3 = some d3 ∧ g' d2 d3 fun b => Ψ (.val (.bl b)) Γ3) Ξ else Ψ (.val (.bl false)) Γ2) Ξ) Ξ
variable {tA : TA} {wA : WA}
def wANil : WA := fun Γ Ψ _ => Ψ [] Γ
theorem ad_nil : AD T E tNil wANil := fun F σ H Γ Q Ψ Ξ p h x k => k F H Γ _ _ h p.refl .nil
def wACons (w : WE) (u : WA) : WA := fun Γ Ψ Ξ => w Γ (fun r Γ1 => u Γ1 (fun rs Γ2 => Ψ (r.hold :: rs) Γ2) Ξ) Ξ
theorem RepRs.back {Hs : Hp} {vs : List V} {rs : List R} (q : Po T F1 σ Hs Γ1 F H Γ) : RepRs T F' σ H' Γ' H vs rs → RepRs T F' σ H' Γ' Hs vs rs
  | .nil => .nil
  | .cons h r => .cons (h.back q) (RepRs.back q r)
theorem ad_cons (h : ED T E t w) (h' : AD T E tA wA) : AD T E (tCons t tA) (wACons w wA) := by
  intro F σ H Γ Q Ψ Ξ p h1 x k
  refine h F σ H Γ _ _ Ξ p h1 x fun F1 H1 Γ1 v r hr q e => ?_
  obtain ⟨F2, q2, s2, e2⟩ := RepR.held q e
  exact h' F2 σ H1 Γ1 _ _ Ξ q2.rp hr (x.on q2) fun F3 H3 Γ3 vs rs hrs q3 e3 => k F3 H3 Γ3 _ _ hrs (q2.trans q3) (.cons (e2.on q3) (e3.back q2))
def ats (Γ : Gm) : List R → Option (List D)
  | [] => some []
  | r :: rs => match r.at Γ, ats Γ rs with
    | some d, some ds => some (d :: ds)
    | _, _ => none
theorem RepRs.peek {Hs : Hp} (p : Rp T F σ H Γ) : ∀ {vs : List V} {rs : List R} {ds : List D}, RepRs T F σ H Γ Hs vs rs → ats Γ rs = some ds → PRepA T.K F H vs ds
  | _, _, _, .nil, e => by cases e; exact .nil
  | _, _, _, .cons (r := r) (rs := rs) h rr, e => by
    unfold ats at e
    split at e
    · rename_i d ds' e1 e2
      cases e
      exact .cons (h.peek p e1) (RepRs.peek p rr e2)
    · cases e
def CD (T : Tb) (r : List V → Hp → VK → Prop) (g : List D → (R → Prop) → Prop) : Prop := ∀ (F H : Hp) (vs : List V) (ds : List D) (Q : VK) (Ψ : R → Prop), Ok T F H → PRepA T.K F H vs ds → g ds Ψ →
  (∀ F' H' v r, Ψ r → Nw T F H F' H' → RepN T F' H H' v r → Q v H') → r vs H Q
def wCB (g : List D → (R → Prop) → Prop) (wA : WA) : WE := fun Γ Ψ Ξ => wA Γ (fun rs Γ1 => ∃ ds, ats Γ1 rs = some ds ∧ g ds fun r => Ψ r Γ1) Ξ
theorem ed_cb {r : List V → Hp → VK → Prop} {g : List D → (R → Prop) → Prop} (c : CD T r g) (h : AD T E tA wA) : ED T E (tCB r tA) (wCB g wA) := fun F σ H Γ Q Ψ Ξ p h1 x k => h F σ H Γ _ _ Ξ p h1 x fun F1 H1 Γ1 vs rs hr q e => by
  obtain ⟨ds, a, hg⟩ := hr
  exact c F1 H1 vs ds Q _ q.rp.toOk (e.peek q.rp a) hg fun F4 H4 v r h4 n4 e4 => k F4 H4 Γ1 v r h4 (q.nw n4) (e4.toR q)
def frzL (Γ : Gm) : List R → Option (List D × Gm)
  | [] => some ([], Γ)
  | r :: rs => match frz Γ r with
    | some (d, Γ1) => match frzL Γ1 rs with
      | some (ds, Γ2) => some (d :: ds, Γ2)
      | none => none
    | none => none
theorem frz_sl {r : R} {d : D} (e : frz Γ r = some (d, Γ')) : ∀ (i : Nat) (en : En), Γ[i]? = some (some en) → ∃ e', Γ'[i]? = some (some e') := fun i en h => by
  cases r with
  | val d => cases e; exact ⟨_, h⟩
  | new ds => cases e; exact ⟨_, h⟩
  | slot j =>
    simp only [frz] at e
    split at e
    · cases e; exact ⟨_, h⟩
    · rename_i ds e1
      cases e
      have hil : j < Γ.length := (List.getElem?_eq_some_iff.mp e1).1
      by_cases hj : i = j
      · subst hj; exact ⟨_, List.getElem?_set_self hil⟩
      · exact ⟨en, by rw [List.getElem?_set_ne (Ne.symm hj)]; exact h⟩
    · cases e
theorem RepRs.sl {Hs : Hp} (ff : Same F F') (sl : ∀ (i : Nat) (en : En), Γ[i]? = some (some en) → ∃ e', Γ'[i]? = some (some e')) : ∀ {vs : List V} {rs : List R}, RepRs T F σ H Γ Hs vs rs → RepRs T F' σ H Γ' Hs vs rs
  | _, _, .nil => .nil
  | _, _, .cons (r := r) h rr => by
    refine .cons ?_ (RepRs.sl ff sl rr)
    cases r with
    | val d => exact Rep.mono ff h
    | new ds => exact Rep.mono ff h
    | slot i => obtain ⟨e1, e, e2⟩ := h; exact ⟨e1, sl i e e2⟩
theorem RepRs.frz {Fs Hs : Hp} {Γs : Gm} : ∀ {vs : List V} {rs : List R} {ds : List D} {F : Hp} {Γ Γ' : Gm}, Po T Fs σ Hs Γs F H Γ → RepRs T F σ H Γ Hs vs rs → frzL Γ rs = some (ds, Γ') → ∃ F', Po T Fs σ Hs Γs F' H Γ' ∧ Same F F' ∧ RepA T.K F' vs ds
  | _, _, _, F, _, _, q, .nil, e => by cases e; exact ⟨F, q, fun _ _ h => h, .nil⟩
  | _, _, _, F, Γ, Γ', q, .cons (r := r) (rs := rs) h rr, e => by
    unfold frzL at e
    split at e
    · rename_i d Γ1 e1
      split at e
      · rename_i ds' Γ2 e2
        cases e
        obtain ⟨F1, q1, s1, r1⟩ := h.frz q e1
        obtain ⟨F2, q2, s2, r2⟩ := RepRs.frz q1 (rr.sl s1 (frz_sl e1)) e2
        exact ⟨F2, q2, fun b o h => s2 b o (s1 b o h), .cons (r1.mono s2) r2⟩
      · cases e
    · cases e
def wTup (wA : WA) : WE := fun Γ Ψ Ξ => wA Γ (fun rs Γ1 => ∃ ds Γ2, frzL Γ1 rs = some (ds, Γ2) ∧ ds.length ≤ sizeLine ∧ Ψ (.val (.tup ds)) Γ2) Ξ
theorem ed_tup (h : AD T E tA wA) : ED T E (tTup tA) (wTup wA) := fun F σ H Γ Q Ψ Ξ p h1 x k => h F σ H Γ _ _ Ξ p h1 x fun F1 H1 Γ1 vs rs hr q e => by
  obtain ⟨ds, Γ2, a, hl, hp⟩ := hr
  obtain ⟨F2, q2, s2, r2⟩ := e.frz q a
  refine ⟨by rw [r2.length]; exact hl, fun p hp0 => ?_⟩
  have n := q2.rp.toOk.lay (o := .tup vs) hp0 tup_nt
  exact k _ _ Γ2 _ _ hp (q2.nw n) (Rep.tup (.inl (.inl upd_same)) (r2.mono n.ff))
def wLst (wA : WA) : WE := fun Γ Ψ Ξ => wA Γ (fun rs Γ1 => ∃ ds Γ2, frzL Γ1 rs = some (ds, Γ2) ∧ ds.length ≤ sizeLine ∧ Ψ (.new ds) Γ2) Ξ
theorem ed_lst (h : AD T E tA wA) : ED T E (tLst tA) (wLst wA) := fun F σ H Γ Q Ψ Ξ p h1 x k => h F σ H Γ _ _ Ξ p h1 x fun F1 H1 Γ1 vs rs hr q e => by
  obtain ⟨ds, Γ2, a, hl, hp⟩ := hr
  obtain ⟨F2, q2, s2, r2⟩ := e.frz q a
  refine ⟨by rw [r2.length]; exact hl, fun p hp0 => ?_⟩
  have n := q2.rp.toOk.put (o := .lst vs) hp0
  have fp : F2 p = none := by
    cases e : F2 p with
    | none => rfl
    | some u => have := q2.rp.sub _ _ e; rw [hp0] at this; cases this
  exact k _ _ Γ2 _ _ hp (q2.nw n) (RepN.toR (F' := F2) (H' := upd H1 p (.lst vs)) q2 (r := .new ds) ⟨p, vs, rfl, upd_same, fp, hp0, r2⟩)
end
end Dt
set_option Elab.async false
set_option linter.all false
set_option maxRecDepth 100000
set_option autoImplicit false
namespace Dt
open PySem L2 Kx
section
variable {T : Tb} {F F1 F2 F' H H1 H2 H' : Hp} {σ : St} {Γ Γ1 Γ2 Γ' : Gm} {E : XK} {t ta tb tc te : TE} {w wa wb wc we : WE} {tA : TA} {wA : WA}
abbrev WF := List D → List D → (R → List D → Prop) → (XD → Prop) → Prop
structure Fx (T : Tb) (io : Bool) (ra : Addr) (F H F' H' : Hp) : Prop where
  ok : Ok T F' H'
  ff : Same F F'
  hh : ∀ b o, H b = some o → NoT o → ¬ (io = true ∧ b = ra) → H' b = some o
  gro : ∀ b o, H b = some o → ∃ o', H' b = some o'
  nf : ∀ b o, F' b = some o → F b = some o ∨ H b = none ∨ (io = true ∧ b = ra)
theorem Fx.nw {ra : Addr} (x : Fx T false ra F H F' H') : Nw T F H F' H' :=
  ⟨x.ok, x.ff, fun b o h n => x.hh b o h n (fun z => by cases z.1), x.gro, fun b o h => (x.nf b o h).elim .inl fun z => z.elim .inr fun y => by cases y.1⟩
def spD (T : Tb) (io : Bool) (wf : WF) : Sp := fun vs H Q E => ∃ (F : Hp) (ra : Addr) (rv : List V) (row : List D) (vs' : List V) (ds : List D) (Ψ : R → List D → Prop) (Ξ : XD → Prop),
  Ok T F H ∧ vs = (if io then .ref ra :: vs' else vs') ∧ (io = true → H ra = some (.lst rv) ∧ F ra = none ∧ RepA T.K F rv row) ∧ RepA T.K F vs' ds ∧ wf ds row Ψ Ξ ∧
  (∀ F' H' v r row', Ψ r row' → Fx T io ra F H F' H' → (io = true → ∃ rv', H' ra = some (.lst rv') ∧ F' ra = none ∧ RepA T.K F' rv' row') → RepN T F' H H' v r → Q v H') ∧
  ∀ F' H' xd, Ξ xd → Fx T io ra F H F' H' → XE T F' H' E xd
theorem po_io {i : Nat} {row row' : List D} {ra : Addr} {rv' : List V} (p : Rp T F σ H Γ) (hi : Γ[i]? = some (some (.own row))) (hσ : σ[i]? = some (some (.ref ra))) (x : Fx T true ra F H F' H') (h' : H' ra = some (.lst rv')) (f' : F' ra = none) (r' : RepA T.K F' rv' row') :
    Po T F σ H Γ F' H' (Γ.set i (some (.own row'))) := by
  have hil : i < Γ.length := (List.getElem?_eq_some_iff.mp hi).1
  have get : ∀ (j : Nat) (e : En), (Γ.set i (some (.own row')))[j]? = some (some e) → (j = i ∧ e = .own row') ∨ (j ≠ i ∧ Γ[j]? = some (some e)) := fun j e hj => by
    by_cases hji : j = i
    · subst hji
      rw [List.getElem?_set_self hil] at hj
      cases hj
      exact .inl ⟨rfl, rfl⟩
    · rw [List.getElem?_set_ne (Ne.symm hji)] at hj
      exact .inr ⟨hji, hj⟩
  have own : Owns σ Γ ra := ⟨i, row, hi, hσ⟩
  refine ⟨⟨x.ok, by simpa using p.len, fun j e h => ?_, fun j k es es' v h1 h2 h3 h4 => ?_⟩, x.ff, fun b o h n no => x.hh b o h n fun z => no (z.2 ▸ own), fun j es h => ?_, x.gro, fun b o h => ?_, fun j e h => ?_⟩
  · rcases get j e h with ⟨rfl, rfl⟩ | ⟨hji, h⟩
    · exact ⟨_, hσ, ra, rv', rfl, h', f', r'⟩
    · obtain ⟨v, e1, re⟩ := p.at_ j e h
      refine ⟨v, e1, ?_⟩
      cases e with
      | shr d => exact Rep.mono x.ff re
      | own es =>
        obtain ⟨b, ws, rfl, hb, fb, rb⟩ := re
        have hne : b ≠ ra := fun z => hji (p.apart j i es row _ h hi e1 (by rw [z]; exact hσ))
        refine ⟨b, ws, rfl, x.hh b _ hb lst_nt fun z => hne z.2, ?_, rb.mono x.ff⟩
        cases q : F' b with
        | none => rfl
        | some o =>
          rcases x.nf b o q with z | z | z
          · rw [fb] at z; cases z
          · rw [hb] at z; cases z
          · exact absurd z.2 hne
  · have one : ∀ (j : Nat) (es : List D), (Γ.set i (some (.own row')))[j]? = some (some (.own es)) → ∃ es', Γ[j]? = some (some (.own es')) := fun j es h => by
      rcases get j _ h with ⟨rfl, _⟩ | ⟨_, h⟩
      · exact ⟨row, hi⟩
      · exact ⟨es, h⟩
    obtain ⟨_, h1⟩ := one j es h1
    obtain ⟨_, h2⟩ := one k es' h2
    exact p.apart j k _ _ v h1 h2 h3 h4
  · rcases get j _ h with ⟨rfl, _⟩ | ⟨_, h1⟩
    · exact ⟨row, hi⟩
    · exact ⟨es, h1⟩
  · rcases x.nf b o h with z | z | z
    · exact .inl z
    · exact .inr (.inl z)
    · exact .inr (.inr (z.2 ▸ own))
  · by_cases hji : j = i
    · subst hji; exact ⟨_, List.getElem?_set_self hil⟩
    · exact ⟨e, by rw [List.getElem?_set_ne (Ne.symm hji)]; exact h⟩
def callW (io : Bool) (wf : WF) (rs : List R) (Γ : Gm) (Ψ : R → Gm → Prop) (Ξ : XD → Prop) : Prop := match io with
  | false => ∃ ds Γ1, frzL Γ rs = some (ds, Γ1) ∧ wf ds [] (fun r _ => Ψ r Γ1) Ξ
  | true => ∃ i rest ds Γ1 row, rs = .slot i :: rest ∧ frzL Γ rest = some (ds, Γ1) ∧ Γ1[i]? = some (some (.own row)) ∧ wf ds row (fun r row' => Ψ r (Γ1.set i (some (.own row')))) fun _ => False
def wCall (io : Bool) (wf : WF) (wA : WA) : WE := fun Γ Ψ Ξ => wA Γ (fun rs Γ1 => callW io wf rs Γ1 Ψ Ξ) Ξ
theorem RepRs.cons_inv {Hs : Hp} {v : V} {vs : List V} {r : R} {rs : List R} (h : RepRs T F σ H Γ Hs (v :: vs) (r :: rs)) : RepR T F σ H Γ Hs v r ∧ RepRs T F σ H Γ Hs vs rs := by
  generalize e1 : v :: vs = vv at h
  generalize e2 : r :: rs = rr at h
  cases h with
  | nil => cases e1
  | cons h1 h2 => cases e1; cases e2; exact ⟨h1, h2⟩
theorem RepRs.len {Hs : Hp} : ∀ {vs : List V} {rs : List R}, RepRs T F σ H Γ Hs vs rs → vs.length = rs.length
  | _, _, .nil => rfl
  | _, _, .cons _ r => congrArg (· + 1) (RepRs.len r)
theorem call_d {io : Bool} {wf : WF} {Fs Hs : Hp} {Γs : Gm} {vs : List V} {rs : List R} {Ψ : R → Gm → Prop} {Ξ : XD → Prop} {Q : VK} (q : Po T Fs σ Hs Γs F H Γ) (e : RepRs T F σ H Γ Hs vs rs) (h : callW io wf rs Γ Ψ Ξ) (x : XO T σ E Ξ Fs Hs Γs)
    (k : ∀ F' H' Γ' v r, Ψ r Γ' → Po T Fs σ Hs Γs F' H' Γ' → RepR T F' σ H' Γ' Hs v r → Q v H') : spD T io wf vs H Q E := by
  cases io with
  | false =>
    obtain ⟨ds, Γ1, a, hw⟩ := h
    obtain ⟨F1, q1, s1, r1⟩ := e.frz q a
    refine ⟨F1, 0, [], [], vs, ds, _, Ξ, q1.rp.toOk, rfl, (fun z => by cases z), r1, hw, fun F' H' v r row' hr f _ e' => ?_, fun F' H' xd hx f => x F' H' Γ1 xd hx (q1.nw f.nw)⟩
    exact k F' H' Γ1 v r hr (q1.nw f.nw) (e'.toR q1)
  | true =>
    obtain ⟨i, rest, ds, Γ1, row, rfl, a, hi, hw⟩ := h
    cases vs with
    | nil => have := e.len; simp at this
    | cons v0 vs =>
    obtain ⟨⟨e1, en, e2⟩, er⟩ := e.cons_inv
    obtain ⟨F1, q1, s1, r1⟩ := er.frz q a
    obtain ⟨v', e3, ra, rv, rfl, hra, fra, rra⟩ := q1.rp.at_ i _ hi
    rw [e1] at e3
    cases e3
    refine ⟨F1, ra, rv, row, vs, ds, _, _, q1.rp.toOk, rfl, fun _ => ⟨hra, fra, rra⟩, r1, hw, fun F' H' v r row' hr f hrow e' => ?_, fun F' H' xd hx f => hx.elim⟩
    obtain ⟨rv', h1, h2, h3⟩ := hrow rfl
    have q2 := po_io q1.rp hi e1 f h1 h2 h3
    refine k F' H' _ v r hr (q1.trans q2) ?_
    cases r with
    | val d => exact e'
    | new es =>
      obtain ⟨b, ws, eb, hb, fb, nb, rb⟩ := e'
      refine ⟨b, ws, eb, hb, fb, q1.none nb, rb, fun z => ?_⟩
      obtain ⟨ws', hb', _⟩ := q1.rp.owns (q2.ows z)
      rw [nb] at hb'
      cases hb'
    | slot j => exact e'.elim
theorem ed_call {io : Bool} {wf : WF} (h : AD T E tA wA) : ED T E (tCall (spD T io wf) [] E tA) (wCall io wf wA) := fun F σ H Γ Q Ψ Ξ p h1 x k => h F σ H Γ _ _ Ξ p h1 x fun F1 H1 Γ1 vs rs hr q e => by
  rw [List.append_nil]
  exact call_d q e hr x k
structure WEnds where
  nx : Gm → Prop
  rt : R → Gm → Prop
  bk : Gm → Prop
  ct : Gm → Prop
  xe : XD → Prop
abbrev WS := WEnds → Gm → Prop
structure Rs (T : Tb) (io : Bool) (H0 F0 : Hp) (ra : Addr) (F : Hp) (σ : St) (H : Hp) (Γ : Gm) : Prop where
  rp : Rp T F σ H Γ
  ff : Same F0 F
  en : ∀ b o, H0 b = some o → NoT o → ¬ (io = true ∧ b = ra) → H b = some o
  fr : ∀ b, Owns σ Γ b → (io = true ∧ b = ra) ∨ H0 b = none
  gro : ∀ b o, H0 b = some o → ∃ o', H b = some o'
  nf : ∀ b o, F b = some o → F0 b = some o ∨ H0 b = none ∨ (io = true ∧ b = ra)
  par : io = true → σ[0]? = some (some (.ref ra))
theorem Rs.po {io : Bool} {H0 F0 : Hp} {ra : Addr} (s : Rs T io H0 F0 ra F σ H Γ) (q : Po T F σ H Γ F' H' Γ') : Rs T io H0 F0 ra F' σ H' Γ' where
  rp := q.rp
  ff := fun b o h => q.ff b o (s.ff b o h)
  en := fun b o h n z => q.fr b o (s.en b o h n z) n fun y => (s.fr b y).elim z fun u => by rw [h] at u; cases u
  fr := fun b h => s.fr b (q.ows h)
  gro := fun b o h => let ⟨o1, h1⟩ := s.gro b o h; q.gro b o1 h1
  nf := fun b o h => by
    rcases q.nf b o h with z | z | z
    · exact s.nf b o z
    · cases e : H0 b with
      | none => exact .inr (.inl rfl)
      | some u => obtain ⟨u', z'⟩ := s.gro b u e; rw [z] at z'; cases z'
    · rcases s.fr b z with y | y
      · exact .inr (.inr y)
      · exact .inr (.inl y)
  par := s.par
theorem Rs.none {io : Bool} {H0 F0 : Hp} {ra b : Addr} (s : Rs T io H0 F0 ra F σ H Γ) (h : H b = none) : H0 b = none := by
  cases e : H0 b with
  | none => rfl
  | some u => obtain ⟨u', z⟩ := s.gro b u e; rw [h] at z; cases z
structure EO (T : Tb) (io : Bool) (H0 F0 : Hp) (ra : Addr) (E : XK) (D : Ends) (Ψ : WEnds) : Prop where
  nx : ∀ F σ H Γ, Ψ.nx Γ → Rs T io H0 F0 ra F σ H Γ → D.nx σ H
  bk : ∀ F σ H Γ, Ψ.bk Γ → Rs T io H0 F0 ra F σ H Γ → D.bk σ H
  ct : ∀ F σ H Γ, Ψ.ct Γ → Rs T io H0 F0 ra F σ H Γ → D.ct σ H
  rt : ∀ F σ H Γ v r, Ψ.rt r Γ → Rs T io H0 F0 ra F σ H Γ → RepR T F σ H Γ H0 v r → D.rt v H
  xe : ∀ F σ H Γ xd, Ψ.xe xd → Rs T io H0 F0 ra F σ H Γ → XE T F H E xd
theorem EO.xo {io : Bool} {H0 F0 : Hp} {ra : Addr} {D : Ends} {Ψ : WEnds} (e : EO T io H0 F0 ra E D Ψ) (s : Rs T io H0 F0 ra F σ H Γ) : XO T σ E Ψ.xe F H Γ := fun F' H' Γ' xd h q => e.xe F' σ H' Γ' xd h (s.po q)
def SD (T : Tb) (io : Bool) (E : XK) (t : TS) (w : WS) : Prop := ∀ (H0 F0 : Hp) (ra : Addr) (F : Hp) (σ : St) (H : Hp) (Γ : Gm) (D : Ends) (Ψ : WEnds), Rs T io H0 F0 ra F σ H Γ → w Ψ Γ → EO T io H0 F0 ra E D Ψ → t D σ H
variable {io : Bool} {s1 s2 : TS} {u1 u2 : WS} {t1 : TT} {w1 : WT}
def wNext : WS := fun Ψ Γ => Ψ.nx Γ
theorem sd_next : SD T io E tNext wNext := fun H0 F0 ra F σ H Γ D Ψ s h e => e.nx F σ H Γ h s
def wSeq (u1 u2 : WS) : WS := fun Ψ Γ => u1 { Ψ with nx := u2 Ψ } Γ
theorem sd_seq (h : SD T io E s1 u1) (h' : SD T io E s2 u2) : SD T io E (tSeq s1 s2) (wSeq u1 u2) := fun H0 F0 ra F σ H Γ D Ψ s hw e =>
  h H0 F0 ra F σ H Γ _ _ s hw ⟨fun F1 σ1 H1 Γ1 h1 s1 => h' H0 F0 ra F1 σ1 H1 Γ1 D Ψ s1 h1 e, e.bk, e.ct, e.rt, e.xe⟩
def wBreak : WS := fun Ψ Γ => Ψ.bk Γ
def wCont : WS := fun Ψ Γ => Ψ.ct Γ
def wDrop (w : WE) : WS := fun Ψ Γ => w Γ (fun _ Γ1 => Ψ.nx Γ1) Ψ.xe
theorem sd_drop (h : ED T E t w) : SD T io E (tDrop t) (wDrop w) := fun H0 F0 ra F σ H Γ D Ψ s hw e => h F σ H Γ _ _ _ s.rp hw (e.xo s) fun F1 H1 Γ1 v r hr q _ => e.nx F1 σ H1 Γ1 hr (s.po q)
def wRet (w : WE) : WS := fun Ψ Γ => w Γ Ψ.rt Ψ.xe
theorem sd_ret (h : ED T E t w) : SD T io E (tRet t) (wRet w) := fun H0 F0 ra F σ H Γ D Ψ s hw e => h F σ H Γ _ _ _ s.rp hw (e.xo s) fun F1 H1 Γ1 v r hr q er => e.rt F1 σ H1 Γ1 v r hr (s.po q) (by
  cases r with
  | val d => exact er
  | new ds => obtain ⟨a, vs, e1, e2, e3, e4, e5⟩ := er; exact ⟨a, vs, e1, e2, e3, s.none e4, e5⟩
  | slot i => exact er)
def wRetN : WS := fun Ψ Γ => Ψ.rt (.val .non) Γ
def wIfS (w : WT) (u1 u2 : WS) : WS := fun Ψ Γ => w Γ (fun b Γ1 => if b = true then u1 Ψ Γ1 else u2 Ψ Γ1) Ψ.xe
theorem sd_if (h : TD T E t1 w1) (h1 : SD T io E s1 u1) (h2 : SD T io E s2 u2) : SD T io E (tIfS t1 s1 s2) (wIfS w1 u1 u2) := fun H0 F0 ra F σ H Γ D Ψ s hw e => h F σ H Γ _ _ _ s.rp hw (e.xo s) fun F1 H1 Γ1 b hb q => by
  cases b with
  | true => exact h1 H0 F0 ra F1 σ H1 Γ1 D Ψ (s.po q) hb e
  | false => exact h2 H0 F0 ra F1 σ H1 Γ1 D Ψ (s.po q) hb e
theorem sd_never : SD T io E tNever (fun _ _ => False) := fun H0 F0 ra F σ H Γ D Ψ s h e => h
theorem Rs.set {H0 F0 : Hp} {ra : Addr} {i : Nat} {v : V} {e : En} (s : Rs T io H0 F0 ra F σ H Γ) (h : RepE T.K F H v e) (hi : i ≠ 0 ∨ io = false) (hn : ∀ ds, e = .own ds → ∀ a, v = .ref a → ¬ Owns σ Γ a ∧ H0 a = Option.none) :
    Rs T io H0 F0 ra F (σ.set i (some v)) H (Γ.set i (some e)) := by
  have p := s.rp
  have get : ∀ (j : Nat) (e' : En), (Γ.set i (some e))[j]? = some (some e') → (j = i ∧ i < Γ.length ∧ e' = e) ∨ (j ≠ i ∧ Γ[j]? = some (some e')) := fun j e' hj => by
    by_cases hji : j = i
    · subst hji
      have hl : j < (Γ.set j (some e)).length := (List.getElem?_eq_some_iff.mp hj).1
      rw [List.length_set] at hl
      rw [List.getElem?_set_self hl] at hj
      cases hj
      exact .inl ⟨rfl, hl, rfl⟩
    · rw [List.getElem?_set_ne (Ne.symm hji)] at hj
      exact .inr ⟨hji, hj⟩
  have ne : ∀ {j : Nat}, j ≠ i → (σ.set i (some v))[j]? = σ[j]? := fun {j} h => List.getElem?_set_ne (Ne.symm h)
  have self : i < Γ.length → (σ.set i (some v))[i]? = some (some v) := fun h => List.getElem?_set_self (by rw [← p.len]; exact h)
  have ow : ∀ b, Owns (σ.set i (some v)) (Γ.set i (some e)) b → Owns σ Γ b ∨ (v = .ref b ∧ ∃ ds, e = .own ds) := fun b ⟨j, ds, h1, h2⟩ => by
    rcases get j _ h1 with ⟨rfl, hl, z⟩ | ⟨hj, z⟩
    · rw [self hl] at h2
      cases h2
      exact .inr ⟨rfl, ds, z.symm⟩
    · rw [ne hj] at h2
      exact .inl ⟨j, ds, z, h2⟩
  refine ⟨⟨p.toOk, by simpa using p.len, fun j e' hj => ?_, fun j k es es' x h1 h2 h3 h4 => ?_⟩, s.ff, s.en, fun b hb => ?_, s.gro, s.nf, fun z => ?_⟩
  · rcases get j e' hj with ⟨rfl, hl, rfl⟩ | ⟨hji, hj⟩
    · exact ⟨v, self hl, h⟩
    · rw [ne hji]
      exact p.at_ j e' hj
  · rcases get j _ h1 with ⟨rfl, hl, z⟩ | ⟨hj, h1'⟩
    · rcases get k _ h2 with ⟨rfl, _, _⟩ | ⟨hk, h2'⟩
      · rfl
      · rw [self hl] at h3
        cases h3
        rw [ne hk] at h4
        obtain ⟨a, vs, ev, _⟩ := z ▸ h
        subst ev
        exact absurd ⟨k, es', h2', h4⟩ (hn es z.symm a rfl).1
    · rcases get k _ h2 with ⟨rfl, hl, z⟩ | ⟨hk, h2'⟩
      · rw [self hl] at h4
        cases h4
        rw [ne hj] at h3
        obtain ⟨a, vs, ev, _⟩ := z ▸ h
        subst ev
        exact absurd ⟨j, es, h1', h3⟩ (hn es' z.symm a rfl).1
      · rw [ne hj] at h3
        rw [ne hk] at h4
        exact p.apart j k es es' x h1' h2' h3 h4
  · rcases ow b hb with z | ⟨rfl, ds, z⟩
    · exact s.fr b z
    · exact .inr (hn ds z b rfl).2
  · have h0 := s.par z
    have hi0 : i ≠ 0 := hi.elim id fun y => by rw [y] at z; cases z
    rw [ne (Ne.symm hi0)]
    exact h0
def putW (i : Nat) (r : R) (Γ : Gm) (k : Gm → Prop) : Prop := match r with
  | .val d => k (Γ.set i (some (.shr d)))
  | .new ds => k (Γ.set i (some (.own ds)))
  | .slot j => ∃ d Γ1, frz Γ (.slot j) = some (d, Γ1) ∧ k (Γ1.set i (some (.shr d)))
theorem put_d {H0 F0 : Hp} {ra : Addr} {i : Nat} {v : V} {r : R} {k : Gm → Prop} (s : Rs T io H0 F0 ra F σ H Γ) (q : Po T F σ H Γ F' H' Γ') (e : RepR T F' σ H' Γ' H v r) (hi : i ≠ 0 ∨ io = false) (h : putW i r Γ' k) :
    ∃ F2 Γ2, k Γ2 ∧ Rs T io H0 F0 ra F2 (σ.set i (some v)) H' Γ2 := by
  cases r with
  | val d => exact ⟨F', _, h, (s.po q).set (e := .shr d) e hi (fun _ z => by cases z)⟩
  | new ds =>
    obtain ⟨a, vs, rfl, ha, fa, na, ra', no⟩ := e
    exact ⟨F', _, h, (s.po q).set (e := .own ds) ⟨a, vs, rfl, ha, fa, ra'⟩ hi fun _ _ b z => by cases z; exact ⟨no, s.none na⟩⟩
  | slot j =>
    obtain ⟨d, Γ1, a, h⟩ := h
    obtain ⟨F2, q2, s2, r2⟩ := RepR.frz q e a
    exact ⟨F2, _, h, (s.po q2).set (e := .shr d) r2 hi (fun _ z => by cases z)⟩
def wSet (i : Nat) (w : WE) : WS := fun Ψ Γ => w Γ (fun r Γ1 => putW i r Γ1 Ψ.nx) Ψ.xe
theorem sd_set {i : Nat} (h : ED T E t w) (hi : i ≠ 0 ∨ io = false) : SD T io E (tAsg t (gName i)) (wSet i w) := fun H0 F0 ra F σ H Γ D Ψ s hw e => h F σ H Γ _ _ _ s.rp hw (e.xo s) fun F1 H1 Γ1 v r hr q er => by
  obtain ⟨F2, Γ2, k, s2⟩ := put_d s q er hi hr
  exact e.nx F2 _ H1 Γ2 k s2
abbrev WG := D → Gm → (Gm → Prop) → Prop
abbrev WGs := List D → Gm → (Gm → Prop) → Prop
def GD (T : Tb) (io : Bool) (g : TG) (w : WG) : Prop := ∀ (H0 F0 : Hp) (ra : Addr) (F : Hp) (σ : St) (H : Hp) (Γ : Gm) (v : V) (d : D) (Q : St → Hp → Prop) (k : Gm → Prop), Rs T io H0 F0 ra F σ H Γ → Rep T.K F v d → w d Γ k → (∀ F' σ' Γ', k Γ' → Same F F' → Rs T io H0 F0 ra F' σ' H Γ' → Q σ' H) → g v σ H Q
def GDs (T : Tb) (io : Bool) (g : TGs) (w : WGs) : Prop := ∀ (H0 F0 : Hp) (ra : Addr) (F : Hp) (σ : St) (H : Hp) (Γ : Gm) (vs : List V) (ds : List D) (Q : St → Hp → Prop) (k : Gm → Prop), Rs T io H0 F0 ra F σ H Γ → RepA T.K F vs ds → w ds Γ k → (∀ F' σ' Γ', k Γ' → Same F F' → Rs T io H0 F0 ra F' σ' H Γ' → Q σ' H) → g vs σ H Q
variable {g : TG} {gs : TGs} {wg : WG} {wgs : WGs}
def wgName (i : Nat) : WG := fun d Γ k => k (Γ.set i (some (.shr d)))
theorem gd_name {i : Nat} (hi : i ≠ 0 ∨ io = false) : GD T io (gName i) (wgName i) := fun H0 F0 ra F σ H Γ v d Q k s r h z => z F _ _ h (fun _ _ h => h) (s.set (e := .shr d) r hi (fun _ z => by cases z))
def wgNil : WGs := fun ds Γ k => ds = [] ∧ k Γ
theorem gd_nil : GDs T io gNil wgNil := fun H0 F0 ra F σ H Γ vs ds Q k s r h z => by
  obtain ⟨rfl, h⟩ := h
  cases r
  exact ⟨rfl, z F σ Γ h (fun _ _ h => h) s⟩
def wgCons (w : WG) (u : WGs) : WGs := fun ds Γ k => ∃ d es, ds = d :: es ∧ w d Γ fun Γ1 => u es Γ1 k
theorem gd_cons (h : GD T io g wg) (h' : GDs T io gs wgs) : GDs T io (gCons g gs) (wgCons wg wgs) := fun H0 F0 ra F σ H Γ vs ds Q k s r hw z => by
  obtain ⟨d, es, rfl, hw⟩ := hw
  cases r with
  | cons r1 r2 =>
    refine ⟨_, _, rfl, h H0 F0 ra F σ H Γ _ _ _ _ s r1 hw fun F1 σ1 Γ1 h1 f1 s1 => ?_⟩
    exact h' H0 F0 ra F1 σ1 H Γ1 _ _ _ _ s1 (r2.mono f1) h1 fun F2 σ2 Γ2 h2 f2 s2 => z F2 σ2 Γ2 h2 (fun b o h => f2 b o (f1 b o h)) s2
def wgTup (n : Nat) (u : WGs) : WG := fun d Γ k => ∃ ds, d = .tup ds ∧ ds.length = n ∧ u ds Γ k
theorem gd_tup {n : Nat} (h : GDs T io gs wgs) : GD T io (gTup T.K n gs) (wgTup n wgs) := fun H0 F0 ra F σ H Γ v d Q k s r hw z => by
  obtain ⟨ds, rfl, hn, hw⟩ := hw
  cases r with
  | tup hs ra' => exact ⟨_, _, rfl, sqt_same hs s.rp.sub, by rw [ra'.length]; exact hn, h H0 F0 ra F σ H Γ _ _ _ _ s ra' hw z⟩
def wAsg (w : WE) (wg : WG) : WS := fun Ψ Γ => w Γ (fun r Γ1 => ∃ d Γ2, frz Γ1 r = some (d, Γ2) ∧ wg d Γ2 Ψ.nx) Ψ.xe
theorem sd_asg (h : ED T E t w) (h' : GD T io g wg) : SD T io E (tAsg t g) (wAsg w wg) := fun H0 F0 ra F σ H Γ D Ψ s hw e => h F σ H Γ _ _ _ s.rp hw (e.xo s) fun F1 H1 Γ1 v r hr q er => by
  obtain ⟨d, Γ2, a, hg⟩ := hr
  obtain ⟨F2, q2, s2, r2⟩ := RepR.frz q er a
  exact h' H0 F0 ra F2 σ H1 Γ2 v d _ _ (s.po q2) r2 hg fun F3 σ3 Γ3 h3 _ s3 => e.nx F3 σ3 H1 Γ3 h3 s3
theorem po_own {i : Nat} {ds ds' : List D} {a : Addr} {vs vs' : List V} (p : Rp T F σ H Γ) (hi : Γ[i]? = some (some (.own ds))) (hσ : σ[i]? = some (some (.ref a))) (ha : H a = some (.lst vs)) (fa : F a = none) (r : RepA T.K F vs' ds') :
    Po T F σ H Γ F (upd H a (.lst vs')) (Γ.set i (some (.own ds'))) := by
  refine po_io p hi hσ (rv' := vs') ⟨⟨fun b o h => ?_, p.nt, fun P hP => tab_lst ha (p.tabs P hP), fun l hP => lab_lst ha (p.labs l hP)⟩, fun _ _ h => h, fun b o h _ n => ?_, fun b o h => ?_, fun b o h => .inl h⟩ upd_same fa r
  · rw [upd_ne fun z => by rw [z, fa] at h; cases h]
    exact p.sub _ _ h
  · rw [upd_ne fun z => n ⟨rfl, z⟩]
    exact h
  · by_cases hb : b = a
    · subst hb; exact ⟨_, upd_same⟩
    · exact ⟨o, by rw [upd_ne hb]; exact h⟩
def wPutAt (i : Nat) (w wk : WE) : WS := fun Ψ Γ => w Γ (fun r Γ1 => ∃ d Γ2 en, frz Γ1 r = some (d, Γ2) ∧ Γ2[i]? = some (some en) ∧ wk Γ2 (fun rk Γ3 => ∃ k ds j, rk.at Γ3 = some (.int k) ∧ Γ3[i]? = some (some (.own ds)) ∧ ixN ds.length k = some j ∧ Ψ.nx (Γ3.set i (some (.own (ds.set j d))))) Ψ.xe) Ψ.xe
theorem sd_putAt {i : Nat} {tk : TE} {wk : WE} (h : ED T E t w) (hk : ED T E tk wk) : SD T io E (tAsg t (gSub (tVar i) tk rSetL)) (wPutAt i w wk) := fun H0 F0 ra F σ H Γ D Ψ s hw e => h F σ H Γ _ _ _ s.rp hw (e.xo s) fun F1 H1 Γ1 v r hr q er => by
  obtain ⟨d, Γ2, en, a, hen, hg⟩ := hr
  obtain ⟨F2, q2, s2, r2⟩ := RepR.frz q er a
  have s2' := s.po q2
  obtain ⟨u, hu, _⟩ := q2.rp.at_ i en hen
  refine ⟨u, hu, ?_⟩
  refine hk F2 σ H1 Γ2 _ _ _ q2.rp hg (e.xo s2') fun F3 H3 Γ3 y rk hr3 q3 e3 => ?_
  obtain ⟨k, ds, j, a1, hi, hj, hn⟩ := hr3
  obtain ⟨u', e4, b, vs, rfl, hb, fb, rb⟩ := q3.rp.at_ i _ hi
  rw [hu] at e4
  cases e4
  refine ⟨b, vs, k, j, rfl, (e3.peek q3.rp a1).int, hb, by rw [rb.length]; exact hj, ?_⟩
  exact e.nx F3 σ _ _ hn (s2'.po (q3.trans (po_own q3.rp hi hu hb fb (RepA.set (r2.mono q3.ff) j rb))))
def wAugAt (i : Nat) (wk w : WE) (g : D → D → (R → Prop) → Prop) : WS := fun Ψ Γ => ∃ en, Γ[i]? = some (some en) ∧ wk Γ (fun rk Γ1 => ∃ k ds j d, rk.at Γ1 = some (.int k) ∧ Γ1[i]? = some (some (.own ds)) ∧ ixN ds.length k = some j ∧ ds[j]? = some d ∧
  w Γ1 (fun r Γ2 => ∃ e ds2, r.at Γ2 = some e ∧ Γ2[i]? = some (some (.own ds2)) ∧ ds2.length = ds.length ∧ g d e fun r => ∃ z, r = .val z ∧ Ψ.nx (Γ2.set i (some (.own (ds2.set j z))))) Ψ.xe) Ψ.xe
def wPar (i j : Nat) (wA : WA) : WS := fun Ψ Γ => wA Γ (fun rs Γ1 => ∃ d e Γ2, frzL Γ1 rs = some ([d, e], Γ2) ∧ Ψ.nx ((Γ2.set i (some (.shr d))).set j (some (.shr e)))) Ψ.xe
theorem sd_par {i j : Nat} (h : AD T E tA wA) (hi : (i ≠ 0 ∧ j ≠ 0) ∨ io = false) : SD T io E (tPar i j tA) (wPar i j wA) := fun H0 F0 ra F σ H Γ D Ψ s hw e => h F σ H Γ _ _ _ s.rp hw (e.xo s) fun F1 H1 Γ1 vs rs hr q er => by
  obtain ⟨d, e', Γ2, a, hn⟩ := hr
  obtain ⟨F2, q2, s2, r2⟩ := RepRs.frz q er a
  cases r2 with
  | cons r1 r2 =>
    cases r2 with
    | cons r2 r3 =>
      cases r3
      refine ⟨_, _, rfl, e.nx F2 _ H1 _ hn (((s.po q2).set (e := .shr d) r1 (hi.imp (·.1) id) (fun _ z => by cases z)).set (e := .shr e') r2 (hi.imp (·.2) id) (fun _ z => by cases z))⟩
def wAug (i : Nat) (w : WE) (g : D → D → (R → Prop) → Prop) : WS := fun Ψ Γ => ∃ d, Γ[i]? = some (some (.shr d)) ∧ w Γ (fun r Γ1 => ∃ e, r.at Γ1 = some e ∧ g d e fun r => putW i r Γ1 Ψ.nx) Ψ.xe
def Wk (T : Tb) (F : Hp) (J : It) (ds : List D) : Prop := ∀ (F' H' : Hp) (i : Nat), Same F F' → Ok T F' H' → (i = ds.length → J.stop i H') ∧ ∀ d, ds[i]? = some d → J.go i H' ∧ ∀ x H'', J.yld i H' x H'' → ∃ F'', Nw T F' H' F'' H'' ∧ Rep T.K F'' x d
abbrev WI := Gm → (List D → Gm → Prop) → (XD → Prop) → Prop
def ID (T : Tb) (E : XK) (wi : TI) (w : WI) : Prop := ∀ (F : Hp) (σ : St) (H : Hp) (Γ : Gm) (Q : It → Hp → Prop) (Ψ : List D → Gm → Prop) (Ξ : XD → Prop), Rp T F σ H Γ → w Γ Ψ Ξ → XO T σ E Ξ F H Γ →
  (∀ F' H' Γ' J ds, Ψ ds Γ' → Po T F σ H Γ F' H' Γ' → Wk T F' J ds → Q J H') → wi σ H Q
def wFor (wi : WI) (wg : WG) (u : WS) : WS := fun Ψ Γ => wi Γ (fun ds Γ1 => ∃ I : Nat → Gm → Prop, I 0 Γ1 ∧ (∀ i Γ d, I i Γ → ds[i]? = some d → wg d Γ fun Γ2 => u { Ψ with nx := I (i + 1), ct := I (i + 1), bk := Ψ.nx } Γ2) ∧ ∀ Γ, I ds.length Γ → Ψ.nx Γ) Ψ.xe
theorem sd_for {wi : TI} {wI : WI} {s1 : TS} {u1 : WS} (hi : ID T E wi wI) (hg : GD T io g wg) (hb : SD T io E s1 u1) : SD T io E (tFor wi g s1) (wFor wI wg u1) := fun H0 F0 ra F σ H Γ D Ψ s hw e => hi F σ H Γ _ _ _ s.rp hw (e.xo s) fun F1 H1 Γ1 J ds hr q wk => by
  obtain ⟨I, h0, hs, hd⟩ := hr
  refine ⟨fun i m σ H => m = ds.length - i ∧ i ≤ ds.length ∧ ∃ F Γ, I i Γ ∧ Same F1 F ∧ Rs T io H0 F0 ra F σ H Γ, ⟨ds.length, by simp, Nat.zero_le _, F1, Γ1, h0, fun _ _ h => h, s.po q⟩, ?_⟩
  rintro i m σ2 H2 ⟨rfl, hle, F2, Γ2, h2, f2, s2⟩
  by_cases hlt : i < ds.length
  · refine .inr ?_
    obtain ⟨go, yl⟩ := (wk F2 H2 i f2 s2.rp.toOk).2 _ (List.getElem?_eq_getElem hlt)
    refine ⟨go, fun σ H => ∃ F Γ, I (i + 1) Γ ∧ Same F1 F ∧ Rs T io H0 F0 ra F σ H Γ, fun σ' H' h => ⟨ds.length - (i + 1), by omega, rfl, hlt, h⟩, fun x H3 hy => ?_⟩
    obtain ⟨F3, n3, r3⟩ := yl x H3 hy
    have s3 := s2.po (s2.rp.po n3)
    refine hg H0 F0 ra F3 σ2 H3 Γ2 x _ _ _ s3 r3 (hs i Γ2 _ h2 (List.getElem?_eq_getElem hlt)) fun F4 σ4 Γ4 h4 f4 s4 => ?_
    have f14 : Same F1 F4 := fun b o h => f4 b o (n3.ff b o (f2 b o h))
    refine hb H0 F4 ra F4 σ4 H3 Γ4 _ { Ψ with nx := I (i + 1), ct := I (i + 1), bk := Ψ.nx } ⟨s4.rp, fun _ _ h => h, s4.en, s4.fr, s4.gro, fun _ _ h => .inl h, s4.par⟩ h4 ⟨fun F5 σ5 H5 Γ5 h5 s5 => ?_, fun F5 σ5 H5 Γ5 h5 s5 => ?_, fun F5 σ5 H5 Γ5 h5 s5 => ?_, fun F5 σ5 H5 Γ5 v r h5 s5 e5 => ?_, fun F5 σ5 H5 Γ5 xd h5 s5 => ?_⟩
    all_goals
      have s5' : Rs T io H0 F0 ra F5 σ5 H5 Γ5 := ⟨s5.rp, fun b o h => s5.ff b o (s4.ff b o h), s5.en, s5.fr, s5.gro, fun b o h => (s5.nf b o h).elim (s4.nf b o) .inr, s5.par⟩
    · exact ⟨F5, Γ5, h5, fun b o h => s5.ff b o (f14 b o h), s5'⟩
    · exact e.nx F5 σ5 H5 Γ5 h5 s5'
    · exact ⟨F5, Γ5, h5, fun b o h => s5.ff b o (f14 b o h), s5'⟩
    · exact e.rt F5 σ5 H5 Γ5 v r h5 s5' e5
    · exact e.xe F5 σ5 H5 Γ5 xd h5 s5'
  · have ei : i = ds.length := by omega
    subst ei
    exact .inl ⟨(wk F2 H2 _ f2 s2.rp.toOk).1 rfl, e.nx F2 σ2 H2 Γ2 (hd Γ2 h2) s2⟩
def wWhile (w : WT) (u : WS) : WS := fun Ψ Γ => ∃ I : Nat → Gm → Prop, (∃ m, I m Γ) ∧ ∀ m Γ, I m Γ → w Γ (fun b Γ1 => if b = true then u { Ψ with nx := fun Γ => ∃ m', m' < m ∧ I m' Γ, ct := fun Γ => ∃ m', m' < m ∧ I m' Γ, bk := Ψ.nx } Γ1 else Ψ.nx Γ1) Ψ.xe
end
end Dt
set_option Elab.async false
set_option linter.all false
set_option maxRecDepth 100000
set_option autoImplicit false
namespace Dt
open PySem L2 Kx
section
variable {T : Tb} {F F1 F2 F' H H1 H2 H' : Hp} {σ σ2 : St} {Γ Γ1 Γ2 Γ' Γw : Gm} {E : XK} {t ta tb tc te : TE} {w wa wb wc we : WE} {tA : TA} {wA : WA} {io : Bool} {s1 : TS} {u1 : WS} {t1 tt : TT} {w1 wt : WT}
theorem sd_while (h : TD T E t1 w1) (hb : SD T io E s1 u1) : SD T io E (tWhile t1 s1) (wWhile w1 u1) := fun H0 F0 ra F σ H Γ D Ψ s hw e => by
  obtain ⟨I, ⟨m0, h0⟩, hs⟩ := hw
  refine ⟨fun m σ H => ∃ F Γ, I m Γ ∧ Rs T io H0 F0 ra F σ H Γ, ⟨m0, F, Γ, h0, s⟩, fun m σ2 H2 h2 => ?_⟩
  obtain ⟨F2, Γ2, i2, s2⟩ := h2
  refine h F2 σ2 H2 Γ2 _ _ _ s2.rp (hs m Γ2 i2) (e.xo s2) fun F3 H3 Γ3 b hb3 q3 => ?_
  cases b with
  | false => exact e.nx F3 σ2 H3 Γ3 hb3 (s2.po q3)
  | true =>
    refine ⟨fun σ H => ∃ m', m' < m ∧ ∃ F Γ, I m' Γ ∧ Rs T io H0 F0 ra F σ H Γ, fun σ' H' h => h, ?_⟩
    exact hb H0 F0 ra F3 σ2 H3 Γ3 _ _ (s2.po q3) hb3 ⟨fun F4 σ4 H4 Γ4 ⟨m', hm, i4⟩ s4 => ⟨m', hm, F4, Γ4, i4, s4⟩, fun F4 σ4 H4 Γ4 h4 s4 => e.nx F4 σ4 H4 Γ4 h4 s4, fun F4 σ4 H4 Γ4 ⟨m', hm, i4⟩ s4 => ⟨m', hm, F4, Γ4, i4, s4⟩, e.rt, e.xe⟩
def wipeG (Γ : Gm) : List Nat → Gm
  | [] => Γ
  | v :: vs => (wipeG Γ vs).set v none
def rstG (Γ Γw : Gm) : List Nat → Gm
  | [] => Γw
  | v :: vs => (rstG Γ Γw vs).set v (match Γ[v]? with | some e => e | none => none)
theorem wipe_out {σ : St} {j : Nat} : ∀ {vs : List Nat}, j ∉ vs → (wipe σ vs)[j]? = σ[j]?
  | [], _ => rfl
  | v :: vs, h => by
    simp only [List.mem_cons, not_or] at h
    unfold wipe
    rw [List.getElem?_set_ne (Ne.symm h.1), wipe_out h.2]
theorem wipeG_length {Γ : Gm} : ∀ {vs : List Nat}, (wipeG Γ vs).length = Γ.length
  | [] => rfl
  | v :: vs => by unfold wipeG; rw [List.length_set, wipeG_length]
theorem wipeG_out {Γ : Gm} {j : Nat} : ∀ {vs : List Nat}, j ∉ vs → (wipeG Γ vs)[j]? = Γ[j]?
  | [], _ => rfl
  | v :: vs, h => by
    simp only [List.mem_cons, not_or] at h
    unfold wipeG
    rw [List.getElem?_set_ne (Ne.symm h.1), wipeG_out h.2]
theorem wipeG_in {Γ : Gm} {j : Nat} {e : En} : ∀ {vs : List Nat}, (wipeG Γ vs)[j]? = some (some e) → j ∉ vs ∧ Γ[j]? = some (some e)
  | [], h => ⟨by simp, h⟩
  | v :: vs, h => by
    unfold wipeG at h
    by_cases hv : v = j
    · subst hv
      by_cases hl : v < (wipeG Γ vs).length
      · rw [List.getElem?_set_self hl] at h; cases h
      · rw [List.getElem?_eq_none (by simpa using hl)] at h; cases h
    · rw [List.getElem?_set_ne hv] at h
      obtain ⟨h1, h2⟩ := wipeG_in h
      exact ⟨by simp only [List.mem_cons, not_or]; exact ⟨fun z => hv z.symm, h1⟩, h2⟩
theorem wipeG_at {Γ : Gm} {j : Nat} {vs : List Nat} (h : j ∈ vs) (hl : j < Γ.length) : (wipeG Γ vs)[j]? = some none := by
  have h1 : j < (wipeG Γ vs).length := by rw [wipeG_length]; exact hl
  cases e : (wipeG Γ vs)[j]? with
  | none => rw [List.getElem?_eq_none_iff] at e; omega
  | some o =>
    cases o with
    | none => rfl
    | some x => exact absurd h (wipeG_in e).1
theorem wipeG_ext {Γ Γ' : Gm} {vs : List Nat} (hl : Γ.length = Γ'.length) (h : ∀ j : Nat, j ∉ vs → Γ[j]? = Γ'[j]?) : wipeG Γ vs = wipeG Γ' vs := by
  refine List.ext_getElem? fun j => ?_
  by_cases hj : j ∈ vs
  · by_cases hlt : j < Γ.length
    · rw [wipeG_at hj hlt, wipeG_at hj (hl ▸ hlt)]
    · rw [List.getElem?_eq_none (by rw [wipeG_length]; omega), List.getElem?_eq_none (by rw [wipeG_length]; omega)]
  · rw [wipeG_out hj, wipeG_out hj, h j hj]
theorem wipeG_idem {Γ : Gm} {vs : List Nat} : wipeG (wipeG Γ vs) vs = wipeG Γ vs := wipeG_ext wipeG_length fun j hj => wipeG_out hj
theorem rstG_out {Γ Γw : Gm} {j : Nat} : ∀ {vs : List Nat}, j ∉ vs → (rstG Γ Γw vs)[j]? = Γw[j]?
  | [], _ => rfl
  | v :: vs, h => by
    simp only [List.mem_cons, not_or] at h
    unfold rstG
    rw [List.getElem?_set_ne (Ne.symm h.1), rstG_out h.2]
theorem rstG_length {Γ Γw : Gm} : ∀ {vs : List Nat}, (rstG Γ Γw vs).length = Γw.length
  | [] => rfl
  | v :: vs => by unfold rstG; rw [List.length_set, rstG_length]
theorem rstG_in {Γ Γw : Gm} {j : Nat} {e : En} : ∀ {vs : List Nat}, j ∈ vs → (rstG Γ Γw vs)[j]? = some (some e) → Γ[j]? = some (some e)
  | v :: vs, hj, h => by
    unfold rstG at h
    by_cases hv : v = j
    · subst hv
      by_cases hl : v < (rstG Γ Γw vs).length
      · rw [List.getElem?_set_self hl] at h
        cases q : Γ[v]? with
        | none => rw [q] at h; cases h
        | some o => rw [q] at h; exact h
      · rw [List.getElem?_eq_none (by simpa using hl)] at h; cases h
    · rw [List.getElem?_set_ne hv] at h
      exact rstG_in ((List.mem_cons.mp hj).elim (fun z => absurd z.symm hv) id) h
theorem rstG_keep {Γ Γw : Gm} {j : Nat} {e : En} : ∀ {vs : List Nat}, j ∈ vs → Γ[j]? = some (some e) → j < Γw.length → (rstG Γ Γw vs)[j]? = some (some e)
  | v :: vs, hj, h, hl => by
    unfold rstG
    by_cases hv : v = j
    · subst hv
      rw [List.getElem?_set_self (by rw [rstG_length]; exact hl), h]
    · rw [List.getElem?_set_ne hv]
      exact rstG_keep ((List.mem_cons.mp hj).elim (fun z => absurd z.symm hv) id) h hl
def NoOwn (vs : List Nat) (Γ : Gm) : Prop := ∀ i ∈ vs, ∀ ds, Γ[i]? ≠ some (some (En.own ds))
theorem Rp.wipe {vs : List Nat} (p : Rp T F σ H Γ) : Rp T F (wipe σ vs) H (wipeG Γ vs) :=
  ⟨p.toOk, by rw [wipeG_length, wipe_length, p.len], fun i e h => by
    obtain ⟨h1, h2⟩ := wipeG_in h
    rw [wipe_out h1]
    exact p.at_ i e h2, fun i j ds ds' v h1 h2 h3 h4 => p.apart i j ds ds' v (wipeG_in h1).2 (wipeG_in h2).2 (wipe_some h3).1 (wipe_some h4).1⟩
theorem owns_wipe {vs : List Nat} {b : Addr} (h : Owns (wipe σ vs) (wipeG Γ vs) b) : Owns σ Γ b := let ⟨i, ds, h1, h2⟩ := h; ⟨i, ds, (wipeG_in h1).2, (wipe_some h2).1⟩
theorem owns_wipe' {vs : List Nat} {b : Addr} (n : NoOwn vs Γ) (h : Owns σ Γ b) : Owns (wipe σ vs) (wipeG Γ vs) b := by
  obtain ⟨i, ds, h1, h2⟩ := h
  have hi : i ∉ vs := fun z => n i z ds h1
  exact ⟨i, ds, by rw [wipeG_out hi]; exact h1, by rw [wipe_out hi]; exact h2⟩
theorem Po.wipe {vs : List Nat} (n : NoOwn vs Γ) (q : Po T F σ H Γ F' H' Γ') : Po T F (L2.wipe σ vs) H (wipeG Γ vs) F' H' (wipeG Γ' vs) :=
  ⟨q.rp.wipe, q.ff, fun b o h t no => q.fr b o h t fun z => no (owns_wipe' n z), fun i ds h => by
    obtain ⟨h1, h2⟩ := wipeG_in h
    obtain ⟨ds', h3⟩ := q.ow i ds h2
    exact ⟨ds', by rw [wipeG_out h1]; exact h3⟩, q.gro, fun b o h => (q.nf b o h).imp id (Or.imp id (owns_wipe' n)), fun i e h => by
    obtain ⟨h1, h2⟩ := wipeG_in h
    obtain ⟨e', h3⟩ := q.sl i e h2
    exact ⟨e', by rw [wipeG_out h1]; exact h3⟩⟩
theorem Po.unwipe {vs : List Nat} (p : Rp T F σ H Γ) (q : Po T F (L2.wipe σ vs) H (wipeG Γ vs) F' H' Γw) : Po T F σ H Γ F' H' (rstG Γ Γw vs) := by
  have len : Γw.length = Γ.length := by
    have := q.rp.len
    rw [wipe_length] at this
    rw [this, p.len]
  have get : ∀ (j : Nat) (e : En), (rstG Γ Γw vs)[j]? = some (some e) → (j ∈ vs ∧ Γ[j]? = some (some e)) ∨ (j ∉ vs ∧ Γw[j]? = some (some e)) := fun j e h => by
    by_cases hj : j ∈ vs
    · exact .inl ⟨hj, rstG_in hj h⟩
    · rw [rstG_out hj] at h
      exact .inr ⟨hj, h⟩
  have hid : ∀ (j : Nat) (ds : List D) (a : Addr), j ∈ vs → Γ[j]? = some (some (.own ds)) → σ[j]? = some (some (.ref a)) → ¬ Owns (L2.wipe σ vs) (wipeG Γ vs) a := fun j ds a hj h1 h2 ⟨k, es, h3, h4⟩ => by
    obtain ⟨hk, h3⟩ := wipeG_in h3
    exact hk (p.apart j k ds es _ h1 h3 h2 (wipe_some h4).1 ▸ hj)
  have ow : ∀ (j : Nat) (ds : List D), (rstG Γ Γw vs)[j]? = some (some (En.own ds)) → ∃ ds', Γ[j]? = some (some (En.own ds')) := fun j ds h1 => by
    rcases get j _ h1 with ⟨_, h1⟩ | ⟨hj, h1⟩
    · exact ⟨ds, h1⟩
    · obtain ⟨ds', h2⟩ := q.ow j ds h1
      exact ⟨ds', (wipeG_in h2).2⟩
  refine ⟨⟨q.rp.toOk, by rw [rstG_length, len, p.len], fun j e h => ?_, fun i j ds ds' v h1 h2 h3 h4 => ?_⟩, q.ff, fun b o h t no => q.fr b o h t fun z => no (owns_wipe z), ow, q.gro, fun b o h => (q.nf b o h).imp id (Or.imp id owns_wipe), fun j e h => ?_⟩
  · rcases get j e h with ⟨hj, h⟩ | ⟨hj, h⟩
    · obtain ⟨v, e1, re⟩ := p.at_ j e h
      refine ⟨v, e1, ?_⟩
      cases e with
      | shr d => exact Rep.mono q.ff re
      | own ds =>
        obtain ⟨a, ws, rfl, ha, fa, rw'⟩ := re
        have no := hid j ds a hj h e1
        refine ⟨a, ws, rfl, q.fr a _ ha lst_nt no, ?_, rw'.mono q.ff⟩
        cases z : F' a with
        | none => rfl
        | some o =>
          rcases q.nf a o z with y | y | y
          · rw [fa] at y; cases y
          · rw [ha] at y; cases y
          · exact absurd y no
    · obtain ⟨v, e1, re⟩ := q.rp.at_ j e h
      rw [wipe_out hj] at e1
      exact ⟨v, e1, re⟩
  · rcases get i _ h1 with ⟨hi, g1⟩ | ⟨hi, g1⟩
    · rcases get j _ h2 with ⟨hj, g2⟩ | ⟨hj, g2⟩
      · exact p.apart i j ds ds' v g1 g2 h3 h4
      · obtain ⟨v', e1, a, ws, rfl, _⟩ := q.rp.at_ j _ g2
        rw [wipe_out hj, h4] at e1
        cases e1
        exact absurd (q.ows ⟨j, ds', g2, by rw [wipe_out hj]; exact h4⟩) (hid i ds a hi g1 h3)
    · rcases get j _ h2 with ⟨hj, g2⟩ | ⟨hj, g2⟩
      · obtain ⟨v', e1, a, ws, rfl, _⟩ := q.rp.at_ i _ g1
        rw [wipe_out hi, h3] at e1
        cases e1
        exact absurd (q.ows ⟨i, ds, g1, by rw [wipe_out hi]; exact h3⟩) (hid j ds' a hj g2 h4)
      · exact q.rp.apart i j ds ds' v g1 g2 (by rw [wipe_out hi]; exact h3) (by rw [wipe_out hj]; exact h4)
  · by_cases hj : j ∈ vs
    · exact ⟨e, rstG_keep hj h (by rw [len]; exact (List.getElem?_eq_some_iff.mp h).1)⟩
    · obtain ⟨e', h'⟩ := q.sl j e (by rw [wipeG_out hj]; exact h)
      exact ⟨e', by rw [rstG_out hj]; exact h'⟩
def CG (T : Tb) (vs : List Nat) (g : TG) (w : WG) : Prop := ∀ (F : Hp) (σ : St) (H : Hp) (Γ : Gm) (v : V) (d : D) (Q : St → Hp → Prop) (k : Gm → Prop), Rp T F σ H Γ → NoOwn vs Γ → Rep T.K F v d → w d Γ k →
  (∀ σ' Γ', k Γ' → Rp T F σ' H Γ' → NoOwn vs Γ' → σ'.length = σ.length → (∀ j, j ∉ vs → σ'[j]? = σ[j]? ∧ Γ'[j]? = Γ[j]?) → Q σ' H) → g v σ H Q
theorem Rp.set {i : Nat} {v : V} {d : D} (p : Rp T F σ H Γ) (h : Rep T.K F v d) : Rp T F (σ.set i (some v)) H (Γ.set i (some (.shr d))) := by
  have get : ∀ (j : Nat) (e' : En), (Γ.set i (some (.shr d)))[j]? = some (some e') → (j = i ∧ i < Γ.length ∧ e' = .shr d) ∨ (j ≠ i ∧ Γ[j]? = some (some e')) := fun j e' hj => by
    by_cases hji : j = i
    · subst hji
      have hl : j < (Γ.set j (some (.shr d))).length := (List.getElem?_eq_some_iff.mp hj).1
      rw [List.length_set] at hl
      rw [List.getElem?_set_self hl] at hj
      cases hj
      exact .inl ⟨rfl, hl, rfl⟩
    · rw [List.getElem?_set_ne (Ne.symm hji)] at hj
      exact .inr ⟨hji, hj⟩
  refine ⟨p.toOk, by simpa using p.len, fun j e' hj => ?_, fun j k es es' x h1 h2 h3 h4 => ?_⟩
  · rcases get j e' hj with ⟨rfl, hl, rfl⟩ | ⟨hji, hj⟩
    · exact ⟨v, List.getElem?_set_self (by rw [← p.len]; exact hl), h⟩
    · rw [List.getElem?_set_ne (Ne.symm hji)]
      exact p.at_ j e' hj
  · rcases get j _ h1 with ⟨_, _, z⟩ | ⟨hj, h1'⟩
    · cases z
    rcases get k _ h2 with ⟨_, _, z⟩ | ⟨hk, h2'⟩
    · cases z
    rw [List.getElem?_set_ne (Ne.symm hj)] at h3
    rw [List.getElem?_set_ne (Ne.symm hk)] at h4
    exact p.apart j k es es' x h1' h2' h3 h4
variable {g : TG} {gs : TGs} {wg : WG} {wgs : WGs}
theorem cg_name {i : Nat} {vs : List Nat} (hi : i ∈ vs) : CG T vs (gName i) (wgName i) := fun F σ H Γ v d Q k p n r h z => by
  refine z _ _ h (p.set r) (fun j hj ds q => ?_) (by simp) fun j hj => ?_
  · by_cases hji : j = i
    · subst hji
      have hl : j < (Γ.set j (some (.shr d))).length := (List.getElem?_eq_some_iff.mp q).1
      rw [List.length_set] at hl
      rw [List.getElem?_set_self hl] at q
      cases q
    · rw [List.getElem?_set_ne (Ne.symm hji)] at q
      exact n j hj ds q
  · have hji : i ≠ j := fun z => hj (z ▸ hi)
    exact ⟨List.getElem?_set_ne hji, List.getElem?_set_ne hji⟩
def wLc (wi : WI) (wg : WG) (wt : WT) (we : WE) (vs : List Nat) : WE := fun Γ Ψ Ξ => wi Γ (fun ds Γ1 => ds.length ≤ sizeLine ∧ ∃ I : Nat → List D → Gm → Prop, I 0 [] (wipeG Γ1 vs) ∧
  (∀ i acc Γ d, I i acc Γ → ds[i]? = some d → wg d Γ fun Γ2 => wt Γ2 (fun b Γ3 => if b = true then we Γ3 (fun r Γ4 => ∃ y Γ5, frz Γ4 r = some (y, Γ5) ∧ I (i + 1) (acc ++ [y]) (wipeG Γ5 vs)) (fun _ => False) else I (i + 1) acc (wipeG Γ3 vs)) fun _ => False) ∧
  ∀ acc Γ, I ds.length acc Γ → Ψ (.new acc) (rstG Γ1 Γ vs)) Ξ
theorem wipe_ext {σ σ' : St} {vs : List Nat} (hl : σ.length = σ'.length) (h : ∀ j : Nat, j ∉ vs → σ[j]? = σ'[j]?) : wipe σ vs = wipe σ' vs := by
  refine List.ext_getElem? fun j => ?_
  by_cases hj : j ∈ vs
  · have one : ∀ {ρ : St}, j < ρ.length → (wipe ρ vs)[j]? = some none := fun {ρ} hlt => by
      have h1 : j < (wipe ρ vs).length := by rw [wipe_length]; exact hlt
      cases e : (wipe ρ vs)[j]? with
      | none => rw [List.getElem?_eq_none_iff] at e; omega
      | some o =>
        cases o with
        | none => rfl
        | some x => exact absurd hj (wipe_some e).2
    by_cases hlt : j < σ.length
    · rw [one hlt, one (hl ▸ hlt)]
    · rw [List.getElem?_eq_none (by rw [wipe_length]; omega), List.getElem?_eq_none (by rw [wipe_length]; omega)]
  · rw [wipe_out hj, wipe_out hj, h j hj]
theorem noOwn_wipe {vs : List Nat} : NoOwn vs (wipeG Γ vs) := fun i hi ds h => (wipeG_in h).1 hi
theorem Po.grow {Fs Hs : Hp} {Γs : Gm} {Dn : Addr} {ws ws' : List V} (p0 : Rp T Fs σ Hs Γs) (q : Po T Fs σ Hs Γs F H Γ) (hn : Hs Dn = Option.none) (fd : F Dn = Option.none) (hd : H Dn = some (.lst ws)) : Po T Fs σ Hs Γs F (upd H Dn (.lst ws')) Γ := by
  have p := q.rp
  refine ⟨⟨⟨fun b o h => ?_, p.nt, fun P hP => tab_lst hd (p.tabs P hP), fun l hP => lab_lst hd (p.labs l hP)⟩, p.len, fun i e h => ?_, p.apart⟩, q.ff, fun b o h t no => ?_, q.ow, fun b o h => ?_, q.nf, q.sl⟩
  · rw [upd_ne fun z => by rw [z, fd] at h; cases h]
    exact p.sub _ _ h
  · obtain ⟨v, e1, re⟩ := p.at_ i e h
    refine ⟨v, e1, ?_⟩
    cases e with
    | shr d => exact re
    | own ds =>
      obtain ⟨a, us, rfl, ha, fa, ra⟩ := re
      refine ⟨a, us, rfl, ?_, fa, ra⟩
      rw [upd_ne fun z => ?_]
      · exact ha
      · subst z
        obtain ⟨us', h1, _⟩ := p0.owns (q.ows ⟨i, ds, h, e1⟩)
        rw [hn] at h1
        cases h1
  · rw [upd_ne fun z => by rw [z, hn] at h; cases h]
    exact q.fr b o h t no
  · rw [upd_ne fun z => by rw [z, hn] at h; cases h]
    exact q.gro b o h
theorem Po.known {b : Addr} {o : HO} (q : Po T F σ H Γ F' H' Γ') (hb : H b = some o) (fb : F b = Option.none) (no : ¬ Owns σ Γ b) : F' b = Option.none := by
  cases z : F' b with
  | none => rfl
  | some u =>
    rcases q.nf b u z with y | y | y
    · rw [fb] at y; cases y
    · rw [hb] at y; cases y
    · exact absurd y no
theorem lc_d {vs : List Nat} {J : It} {ds : List D} {F1 H1 : Hp} {Γ1 : Gm} {σ : St} {Qd : Addr → Hp → Prop} (hlen : ds.length ≤ sizeLine) (p1 : Rp T F1 σ H1 Γ1) (hg : CG T vs g wg) (ht : TD T E0 tt wt) (he : ED T E0 te we) (I : Nat → List D → Gm → Prop) (h0 : I 0 [] (wipeG Γ1 vs))
    (hs : ∀ i acc Γ d, I i acc Γ → ds[i]? = some d → wg d Γ fun Γ2 => wt Γ2 (fun b Γ3 => if b = true then we Γ3 (fun r Γ4 => ∃ y Γ5, frz Γ4 r = some (y, Γ5) ∧ I (i + 1) (acc ++ [y]) (wipeG Γ5 vs)) (fun _ => False) else I (i + 1) acc (wipeG Γ3 vs)) fun _ => False)
    (wk : ∀ i acc F2 H2 Γ2, I i acc Γ2 → Same F1 F2 → Rp T F2 (wipe σ vs) H2 Γ2 → (i = ds.length → J.stop i H2) ∧ ∀ d, ds[i]? = some d → J.go i H2 ∧ ∀ x H3, J.yld i H2 x H3 → ∃ F3, Nw T F2 H2 F3 H3 ∧ Rep T.K F3 x d)
    (k : ∀ F2 H2 Γ2 acc Dn, I ds.length acc Γ2 → Po T F1 σ H1 Γ1 F2 H2 (rstG Γ1 Γ2 vs) → RepR T F2 σ H2 (rstG Γ1 Γ2 vs) H1 (.ref Dn) (.new acc) → Qd Dn H2) :
    ∀ Dn, H1 Dn = none → ∃ W : Nat → Nat → Hp → Prop, (∃ m, W 0 m (upd H1 Dn (.lst []))) ∧ ∀ i m H, W i m H →
      (J.stop i H ∧ Qd Dn H) ∨ (J.go i H ∧ ∃ Nx : Hp → Prop, (∀ H', Nx H' → ∃ m', m' < m ∧ W (i + 1) m' H') ∧ ∀ x H', J.yld i H x H' → g x (wipe σ vs) H' fun σ2 H2 => wipe σ2 vs = wipe σ vs ∧ tt σ2 H2 fun b H3 =>
        if b = true then te σ2 H3 fun y H4 => ∃ acc, H4 Dn = some (.lst acc) ∧ acc.length < sizeLine ∧ Nx (upd H4 Dn (.lst (acc ++ [y]))) else Nx H3) := by
  intro Dn hDn
  have pw := p1.wipe (vs := vs)
  have xo0 : ∀ {ρ : St} {F H : Hp} {Γ : Gm}, XO T ρ E0 (fun _ => False) F H Γ := fun {ρ F H Γ} _ _ _ _ h => h.elim
  have noW : ¬ Owns (wipe σ vs) (wipeG Γ1 vs) Dn := fun z => by
    obtain ⟨us, h1, _⟩ := pw.owns z
    rw [hDn] at h1
    cases h1
  have f1D : F1 Dn = none := by
    cases e : F1 Dn with
    | none => rfl
    | some u => have := p1.sub _ _ e; rw [hDn] at this; cases this
  refine ⟨fun i m H => m = ds.length - i ∧ i ≤ ds.length ∧ ∃ F Γw acc ws, I i acc Γw ∧ acc.length ≤ i ∧ Γw = wipeG Γw vs ∧ Po T F1 (wipe σ vs) H1 (wipeG Γ1 vs) F H Γw ∧ Same F1 F ∧ H Dn = some (.lst ws) ∧ F Dn = none ∧ RepA T.K F ws acc,
    ⟨ds.length, by simp, Nat.zero_le _, F1, _, [], [], h0, Nat.le_refl _, wipeG_idem.symm, pw.po (pw.toOk.put hDn), fun _ _ h => h, upd_same, f1D, .nil⟩, ?_⟩
  rintro i m H2 ⟨rfl, hle, F2, Γ2, acc, ws, i2, hacc, hw2, q2, f2, hD2, fD2, r2⟩
  by_cases hlt : ¬ i < ds.length
  · have ei : i = ds.length := by omega
    subst ei
    refine .inl ⟨(wk _ acc F2 H2 Γ2 i2 f2 q2.rp).1 rfl, ?_⟩
    have q3 := Po.unwipe p1 q2
    refine k F2 H2 Γ2 acc Dn i2 q3 ⟨Dn, ws, rfl, hD2, fD2, hDn, r2, fun z => ?_⟩
    obtain ⟨us, h1, _⟩ := p1.owns (q3.ows z)
    rw [hDn] at h1
    cases h1
  · have hlt : i < ds.length := by omega
    refine .inr ?_
    obtain ⟨go, yl⟩ := (wk i acc F2 H2 Γ2 i2 f2 q2.rp).2 _ (List.getElem?_eq_getElem hlt)
    refine ⟨go, fun H => ∃ F Γw acc ws, I (i + 1) acc Γw ∧ acc.length ≤ i + 1 ∧ Γw = wipeG Γw vs ∧ Po T F1 (wipe σ vs) H1 (wipeG Γ1 vs) F H Γw ∧ Same F1 F ∧ H Dn = some (.lst ws) ∧ F Dn = none ∧ RepA T.K F ws acc, fun H' h => ⟨ds.length - (i + 1), by omega, rfl, hlt, h⟩, fun xv H3 hy => ?_⟩
    obtain ⟨F3, n3, r3⟩ := yl xv H3 hy
    have q3 := q2.nw n3
    have nown2 : NoOwn vs Γ2 := hw2 ▸ noOwn_wipe
    have hD3 : H3 Dn = some (.lst ws) := n3.hh _ _ hD2 lst_nt
    have fD3 : F3 Dn = none := by
      cases z : F3 Dn with
      | none => rfl
      | some u =>
        rcases n3.nf _ _ z with y | y
        · rw [fD2] at y; cases y
        · rw [hD2] at y; cases y
    refine hg F3 (wipe σ vs) H3 Γ2 xv _ _ _ q3.rp nown2 r3 (hs i acc Γ2 _ i2 (List.getElem?_eq_getElem hlt)) fun σ4 Γ4 h4 p4 n4 l4 j4 => ?_
    have eσ : wipe σ4 vs = wipe σ vs := by
      refine (wipe_ext l4 fun j hj => (j4 j hj).1).trans (wipe_ext (by rw [wipe_length]) fun j hj => wipe_out hj)
    have eΓ : wipeG Γ4 vs = Γ2 := (wipeG_ext (by rw [p4.len, l4, ← q3.rp.len]) fun j hj => (j4 j hj).2).trans hw2.symm
    have noD4 : ¬ Owns σ4 Γ4 Dn := fun z => by
      have z1 := owns_wipe' n4 z
      rw [eσ, eΓ] at z1
      exact noW (q3.ows z1)
    refine ⟨eσ, ht F3 σ4 H3 Γ4 _ _ _ p4 h4 xo0 fun F5 H5 Γ5 b hb5 q5 => ?_⟩
    have q5w : Po T F3 (wipe σ vs) H3 Γ2 F5 H5 (wipeG Γ5 vs) := by
      have := q5.wipe n4
      rw [eσ, eΓ] at this
      exact this
    have hD5 := q5.fr _ _ hD3 lst_nt noD4
    have fD5 := q5.known hD3 fD3 noD4
    have f15 : Same F1 F5 := fun b o h => q5.ff b o (n3.ff b o (f2 b o h))
    cases b with
    | false =>
      exact ⟨F5, _, acc, ws, hb5, by omega, wipeG_idem.symm, q3.trans q5w, f15, hD5, fD5, r2.mono fun b o h => q5.ff b o (n3.ff b o h)⟩
    | true =>
      have noD5 : ¬ Owns σ4 Γ5 Dn := fun z => noD4 (q5.ows z)
      refine he F5 σ4 H5 Γ5 _ _ _ q5.rp hb5 xo0 fun F6 H6 Γ6 y r h6 q6 e6 => ?_
      obtain ⟨yd, Γ7, a7, h7⟩ := h6
      obtain ⟨F7, q7, s7, r7⟩ := RepR.frz q6 e6 a7
      have n5 : NoOwn vs Γ5 := fun j hj es h => by
        obtain ⟨es', h'⟩ := q5.ow j es h
        exact n4 j hj es' h'
      have q7w : Po T F5 (wipe σ vs) H5 (wipeG Γ5 vs) F7 H6 (wipeG Γ7 vs) := by
        have := q7.wipe n5
        rw [eσ] at this
        exact this
      have hD7 := q7.fr _ _ hD5 lst_nt noD5
      have fD7 := q7.known hD5 fD5 noD5
      refine ⟨ws, hD7, ?_, F7, _, acc ++ [yd], ws ++ [y], h7, by simp; omega, wipeG_idem.symm, Po.grow pw (q3.trans (q5w.trans q7w)) hDn fD7 hD7, fun b o h => q7.ff b o (f15 b o h), upd_same, fD7, ?_⟩
      · rw [r2.length]
        omega
      · exact (r2.mono fun b o h => q7.ff b o (q5.ff b o (n3.ff b o h))).append (.cons r7 .nil)
theorem ed_lc {wi : TI} {wI : WI} {vs : List Nat} (hi : ID T E wi wI) (hg : CG T vs g wg) (ht : TD T E0 tt wt) (he : ED T E0 te we) : ED T E (tLc wi g tt te vs) (wLc wI wg wt we vs) := by
  intro F σ H Γ Q Ψ Ξ p hw x k
  refine hi F σ H Γ _ _ Ξ p hw x fun F1 H1 Γ1 J ds hr q1 wk => ?_
  obtain ⟨hlen, I, h0, hs, hd⟩ := hr
  refine lc_d (Qd := fun Dn H => Q (.ref Dn) H) hlen q1.rp hg ht he I h0 hs (fun i acc F2 H2 Γ2 _ f2 p2 => wk F2 H2 i f2 p2.toOk) fun F2 H2 Γ2 acc Dn i2 q3 e3 => ?_
  exact k F2 H2 _ _ _ (hd acc Γ2 i2) (q1.trans q3) (e3.back q1)
def wLcO (s : Nat) (wg : WG) (wt : WT) (we : WE) (vs : List Nat) : WE := fun Γ Ψ Ξ => ∃ ds, Γ[s]? = some (some (.own ds)) ∧ ds.length ≤ sizeLine ∧ ∃ I : Nat → List D → Gm → Prop, I 0 [] (wipeG Γ vs) ∧ (∀ i acc Γ, I i acc Γ → Γ[s]? = some (some (.own ds))) ∧
  (∀ i acc Γ d, I i acc Γ → ds[i]? = some d → wg d Γ fun Γ2 => wt Γ2 (fun b Γ3 => if b = true then we Γ3 (fun r Γ4 => ∃ y Γ5, frz Γ4 r = some (y, Γ5) ∧ I (i + 1) (acc ++ [y]) (wipeG Γ5 vs)) (fun _ => False) else I (i + 1) acc (wipeG Γ3 vs)) fun _ => False) ∧
  ∀ acc Γ', I ds.length acc Γ' → Ψ (.new acc) (rstG Γ Γ' vs)
end
end Dt
set_option Elab.async false
set_option linter.all false
set_option maxRecDepth 100000
set_option autoImplicit false
namespace Dt
open PySem L2 Kx
section
variable {T : Tb} {F F1 F2 F' H H1 H2 H' : Hp} {σ σ2 : St} {Γ Γ1 Γ2 Γ' Γw : Gm} {E : XK} {t ta tb tc te : TE} {w wa wb wc we : WE} {tA : TA} {wA : WA} {io : Bool}
def wIList (w : WE) : WI := fun Γ Ψ Ξ => w Γ (fun r Γ1 => ∃ ds Γ2, frz Γ1 r = some (.lst ds, Γ2) ∧ Ψ ds Γ2) Ξ
theorem wk_list {a : Addr} {vs : List V} {ds : List D} (h : SqL T.K F a vs) (r : RepA T.K F vs ds) : Wk T F (Itl T.K a) ds := fun F' H' i ff o => by
  have hs := sql_same (sql_same h ff) o.sub
  refine ⟨fun e => ⟨vs, hs, by rw [e, r.length]; exact Nat.le_refl _⟩, fun d hd => ?_⟩
  obtain ⟨v, hv, rv⟩ := r.get hd
  refine ⟨⟨vs, v, hs, hv⟩, fun x H'' hy => ?_⟩
  obtain ⟨rfl, hx⟩ := hy
  have := hx vs hs
  rw [hv] at this
  cases this
  exact ⟨F', o.refl, rv.mono ff⟩
theorem id_list (h : ED T E t w) : ID T E (iList T.K t) (wIList w) := fun F σ H Γ Q Ψ Ξ p hw x k => h F σ H Γ _ _ Ξ p hw x fun F1 H1 Γ1 v r hr q e => by
  obtain ⟨ds, Γ2, a, hk⟩ := hr
  obtain ⟨F2, q2, s2, r2⟩ := RepR.frz q e a
  cases r2 with
  | lst hs hr => exact ⟨_, rfl, ⟨_, .inl (rd_same (.inl hs) q2.rp.sub)⟩, k F2 H1 Γ2 _ ds hk q2 (wk_list (.inl (.inl hs)) hr)⟩
def wITup (w : WE) : WI := fun Γ Ψ Ξ => w Γ (fun r Γ1 => ∃ ds Γ2, frz Γ1 r = some (.tup ds, Γ2) ∧ Ψ ds Γ2) Ξ
theorem wk_tup {a : Addr} {vs : List V} {ds : List D} (h : SqT T.K F a vs) (r : RepA T.K F vs ds) : Wk T F (Itt T.K a) ds := fun F' H' i ff o => by
  have hs := sqt_same (sqt_same h ff) o.sub
  refine ⟨fun e => ⟨vs, hs, by rw [e, r.length]; exact Nat.le_refl _⟩, fun d hd => ?_⟩
  obtain ⟨v, hv, rv⟩ := r.get hd
  refine ⟨⟨vs, v, hs, hv⟩, fun x H'' hy => ?_⟩
  obtain ⟨rfl, hx⟩ := hy
  have := hx vs hs
  rw [hv] at this
  cases this
  exact ⟨F', o.refl, rv.mono ff⟩
theorem id_tup (h : ED T E t w) : ID T E (iTup T.K t) (wITup w) := fun F σ H Γ Q Ψ Ξ p hw x k => h F σ H Γ _ _ Ξ p hw x fun F1 H1 Γ1 v r hr q e => by
  obtain ⟨ds, Γ2, a, hk⟩ := hr
  obtain ⟨F2, q2, s2, r2⟩ := RepR.frz q e a
  cases r2 with
  | tup hs hr => exact ⟨_, rfl, ⟨_, sqt_same hs q2.rp.sub⟩, k F2 H1 Γ2 _ ds hk q2 (wk_tup hs hr)⟩
def rng (lo : Int) (n : Nat) : List D := (List.range n).map fun i : Nat => D.int (lo + (i : Int))
theorem rng_length (lo : Int) (n : Nat) : (rng lo n).length = n := by simp [rng]
theorem rng_get {lo : Int} {n i : Nat} {d : D} (h : (rng lo n)[i]? = some d) : i < n ∧ d = .int (lo + (i : Int)) := by
  have hi : i < n := by have := (List.getElem?_eq_some_iff.mp h).1; rwa [rng_length] at this
  refine ⟨hi, ?_⟩
  unfold rng at h
  rw [List.getElem?_map, List.getElem?_range hi] at h
  cases h
  rfl
theorem wk_rng {lo : Int} {n : Nat} : Wk T F (Itr lo n) (rng lo n) := fun F' H' i ff o => by
  refine ⟨fun e => by rw [rng_length] at e; exact Nat.le_of_eq e.symm, fun d hd => ?_⟩
  obtain ⟨hi, rfl⟩ := rng_get hd
  refine ⟨hi, fun x H'' hy => ?_⟩
  obtain ⟨rfl, rfl⟩ := hy
  exact ⟨F', o.refl, .int _⟩
def wIRng1 (wA : WA) : WI := fun Γ Ψ Ξ => wA Γ (fun rs Γ1 => ∃ j, ats Γ1 rs = some [.int j] ∧ (-(2 ^ 62) ≤ j ∧ j < 2 ^ 62) ∧ Ψ (rng 0 j.toNat) Γ1) Ξ
theorem id_rng1 (h : AD T E tA wA) : ID T E (iRng1 tA) (wIRng1 wA) := fun F σ H Γ Q Ψ Ξ p hw x k => h F σ H Γ _ _ Ξ p hw x fun F1 H1 Γ1 vs rs hr q e => by
  obtain ⟨j, a, ⟨b1, b2⟩, hk⟩ := hr
  obtain ⟨v, rfl, hv⟩ := (e.peek q.rp a).one
  exact ⟨j, by rw [hv.int], b1, b2, k F1 H1 Γ1 _ _ hk q wk_rng⟩
def wIRng2 (wA : WA) : WI := fun Γ Ψ Ξ => wA Γ (fun rs Γ1 => ∃ i j, ats Γ1 rs = some [.int i, .int j] ∧ Ψ (rng i (j - i).toNat) Γ1) Ξ
def chs (x : Str) : List D := x.cps.toList.map fun c => D.str ⟨#[c]⟩
def wIStr (w : WE) : WI := fun Γ Ψ Ξ => w Γ (fun r Γ1 => ∃ x, r.at Γ1 = some (.str x) ∧ Ψ (chs x) Γ1) Ξ
def enu (ds : List D) : List D := ds.mapIdx fun i d => D.tup [.int (i : Nat), d]
theorem wk_enum {a : Addr} {vs : List V} {ds : List D} (h : SqL T.K F a vs) (r : RepA T.K F vs ds) : Wk T F (Ite T.K a) (enu ds) := fun F' H' i ff o => by
  have hs := sql_same (sql_same h ff) o.sub
  have hl : (enu ds).length = ds.length := by simp [enu]
  refine ⟨fun e => ⟨vs, hs, by rw [e, hl, r.length]; exact Nat.le_refl _⟩, fun d hd => ?_⟩
  unfold enu at hd
  rw [List.getElem?_mapIdx] at hd
  cases q : ds[i]? with
  | none => rw [q] at hd; cases hd
  | some d0 =>
    rw [q] at hd
    cases hd
    obtain ⟨v, hv, rv⟩ := r.get q
    refine ⟨⟨vs, v, hs, hv⟩, fun x H'' hy => ?_⟩
    obtain ⟨Tn, x0, rfl, hT, rfl, hx⟩ := hy
    have := hx vs hs
    rw [hv] at this
    cases this
    have n := o.lay (o := .tup [.int (i : Nat), v]) hT tup_nt
    exact ⟨_, n, .tup (.inl (.inl upd_same)) (.cons (.int _) (.cons ((rv.mono ff).mono n.ff) .nil))⟩
def wIEnum (wA : WA) : WI := fun Γ Ψ Ξ => wA Γ (fun rs Γ1 => ∃ ds Γ2, frzL Γ1 rs = some ([.lst ds], Γ2) ∧ Ψ (enu ds) Γ2) Ξ
theorem id_enum (h : AD T E tA wA) : ID T E (iEnum T.K tA) (wIEnum wA) := fun F σ H Γ Q Ψ Ξ p hw x k => h F σ H Γ _ _ Ξ p hw x fun F1 H1 Γ1 vs rs hr q e => by
  obtain ⟨ds, Γ2, a, hk⟩ := hr
  obtain ⟨F2, q2, s2, r2⟩ := RepRs.frz q e a
  cases r2 with
  | cons r1 r2 =>
    cases r2
    cases r1 with
    | lst hs hr => exact ⟨_, _, rfl, .inl (rd_same (.inl hs) q2.rp.sub), k F2 H1 Γ2 _ _ hk q2 (wk_enum (.inl (.inl hs)) hr)⟩
def zp (ds es : List D) : List D := List.zipWith (fun d e => D.tup [d, e]) ds es
def wIZip (wA : WA) : WI := fun Γ Ψ Ξ => wA Γ (fun rs Γ1 => ∃ ds es Γ2, frzL Γ1 rs = some ([.lst ds, .lst es], Γ2) ∧ Ψ (zp ds es) Γ2) Ξ
def dI (C : Int → Int → Prop) (f : Int → Int → Int) : D → D → (R → Prop) → Prop := fun d e Ψ => ∃ i j, d = .int i ∧ e = .int j ∧ C i j ∧ Ψ (.val (.int (f i j)))
theorem od_I {C : Int → Int → Prop} {f : Int → Int → Int} : OD T (rI C fun i j => .int (f i j)) (dI C f) := fun F H x y d e Q Ψ o hx hy hg k => by
  obtain ⟨i, j, rfl, rfl, c, h⟩ := hg
  exact ⟨i, j, hx.int, hy.int, c, k F H _ _ h o.refl (Rep.int _)⟩
def dI0 (f : Int → Int → Int) : D → D → (R → Prop) → Prop := fun d e Ψ => ∃ i j, d = .int i ∧ e = .int j ∧ Ψ (.val (.int (f i j)))
theorem od_I0 {f : Int → Int → Int} : OD T (rI0 fun i j => .int (f i j)) (dI0 f) := fun F H x y d e Q Ψ o hx hy hg k => by
  obtain ⟨i, j, rfl, rfl, h⟩ := hg
  exact ⟨i, j, hx.int, hy.int, k F H _ _ h o.refl (Rep.int _)⟩
def bI (f : Int → Int → Bool) : D → D → (Bool → Prop) → Prop := fun d e Ψ => ∃ i j, d = .int i ∧ e = .int j ∧ Ψ (f i j)
theorem bd_I {f : Int → Int → Bool} : BD T (rI0 fun i j => .bl (f i j)) (bI f) := fun F H x y d e Q Ψ o hx hy hg k => by
  obtain ⟨i, j, rfl, rfl, h⟩ := hg
  exact ⟨i, j, hx.int, hy.int, k _ h⟩
def scq : D → D → Option Bool
  | .int i, .int j => some (decide (i = j))
  | .str x, .str y => some (decide (x = y))
  | .bl x, .bl y => some (decide (x = y))
  | .non, .non => some true
  | _, _ => none
def bSc (f : Bool → Bool) : D → D → (Bool → Prop) → Prop := fun d e Ψ => ∃ b, scq d e = some b ∧ Ψ (f b)
theorem scq_of {d e : D} {b : Bool} (h : scq d e = some b) : ∃ x y : V, (∀ (v : V), PRep T.K F H v d → v = x) ∧ (∀ v, PRep T.K F H v e → v = y) ∧ scal x y = true ∧ decide (x = y) = b := by
  unfold scq at h
  split at h
  · cases h; exact ⟨.int _, .int _, fun v z => z.int, fun v z => z.int, rfl, by simp⟩
  · cases h; exact ⟨.str _, .str _, fun v z => z.str, fun v z => z.str, rfl, by simp⟩
  · cases h; exact ⟨.bl _, .bl _, fun v z => z.bl, fun v z => z.bl, rfl, by simp⟩
  · cases h; exact ⟨.non, .non, fun v z => z.non, fun v z => z.non, rfl, by simp⟩
  · cases h
theorem bd_eq : BD T rEq (bSc id) := fun F H x y d e Q Ψ o hx hy hg k => by
  obtain ⟨b, hb, h⟩ := hg
  obtain ⟨v, u, h1, h2, h3, h4⟩ := scq_of (T := T) (F := F) (H := H) hb
  rw [h1 x hx, h2 y hy]
  refine ⟨h3, ?_⟩
  rw [h4]
  exact k b h
theorem bd_ne : BD T rNe (bSc not) := fun F H x y d e Q Ψ o hx hy hg k => by
  obtain ⟨b, hb, h⟩ := hg
  obtain ⟨v, u, h1, h2, h3, h4⟩ := scq_of (T := T) (F := F) (H := H) hb
  rw [h1 x hx, h2 y hy]
  refine ⟨h3, ?_⟩
  rw [h4]
  exact k _ h
mutual
def D.py : D → PyData
  | .non => .none | .bl b => .bool b | .int i => .int i | .str x => .str x | .ty _ => .none | .scr _ => .none
  | .lst xs => .list (D.pyA xs) | .tup xs => .tuple (D.pyA xs) | .obj _ _ _ => .none | .dic _ _ => .none | .exc _ _ _ => .none
def D.pyA : List D → List PyData
  | [] => []
  | x :: xs => D.py x :: D.pyA xs
end
inductive Dep : Nat → D → Prop
  | non {n : Nat} : Dep n .non
  | bl {n : Nat} (b : Bool) : Dep n (.bl b)
  | int {n : Nat} (i : Int) : Dep n (.int i)
  | str {n : Nat} {x : Str} : PyData.strOk x = true → Dep n (.str x)
  | lst {n : Nat} {xs : List D} : (∀ x ∈ xs, Dep n x) → Dep (n + 1) (.lst xs)
  | tup {n : Nat} {xs : List D} : (∀ x ∈ xs, Dep n x) → Dep (n + 1) (.tup xs)
theorem Dep.lst_inv {n : Nat} {xs : List D} (h : Dep n (.lst xs)) : ∃ m, ∀ x ∈ xs, Dep m x := by
  cases h with | lst h => exact ⟨_, h⟩
theorem Dep.tup_inv {n : Nat} {xs : List D} (h : Dep n (.tup xs)) : ∃ m, ∀ x ∈ xs, Dep m x := by
  cases h with | tup h => exact ⟨_, h⟩
theorem Dep.no_ty {n : Nat} {m : String} (h : Dep n (.ty m)) : False := by cases h
theorem Dep.no_scr {n : Nat} {m : List D} (h : Dep n (.scr m)) : False := by cases h
theorem Dep.no_dic {n : Nat} {ks : List Key} {xs : List D} (h : Dep n (.dic ks xs)) : False := by cases h
theorem Dep.no_exc {n : Nat} {c : Str} {m : List Str} {xs : List D} (h : Dep n (.exc c m xs)) : False := by cases h
theorem Dep.no_obj {n : Nat} {c : Str} {m : List Str} {xs : List D} (h : Dep n (.obj c m xs)) : False := by cases h
mutual
theorem Rep.dp (s : Same F H) : ∀ {v : V} {d : D}, Rep T.K F v d → (∃ n, Dep n d) → Dp T.K H v d.py
  | _, _, .non, _ => .non
  | _, _, .bl b, _ => .bl b
  | _, _, .int i, _ => .int i
  | _, _, .str x, _ => .str x
  | _, _, .ty n, h => (h.elim fun _ h => h.no_ty).elim
  | _, _, .scr _ _, h => (h.elim fun _ h => h.no_scr).elim
  | _, _, .obj _ _ _, h => (h.elim fun _ h => h.no_obj).elim
  | _, _, .dic _ _ _, h => (h.elim fun _ h => h.no_dic).elim
  | _, _, .exc _ _ _, h => (h.elim fun _ h => h.no_exc).elim
  | _, _, .lst h r, hd => .lst (.inl (.inl (s _ _ h))) (RepA.dp s r (hd.elim fun _ h => h.lst_inv))
  | _, _, .tup h r, hd => .tup (sqt_same h s) (RepA.dp s r (hd.elim fun _ h => h.tup_inv))
theorem RepA.dp (s : Same F H) : ∀ {vs : List V} {ds : List D}, RepA T.K F vs ds → (∃ n, ∀ x ∈ ds, Dep n x) → DpAll T.K H vs (D.pyA ds)
  | _, _, .nil, _ => .nil
  | _, _, .cons h r, hd => .cons (Rep.dp s h (hd.elim fun n hd => ⟨n, hd _ (List.mem_cons_self ..)⟩)) (RepA.dp s r (hd.elim fun n hd => ⟨n, fun x hx => hd x (List.mem_cons_of_mem _ hx)⟩))
end
theorem PRep.dp {n : Nat} {v : V} {d : D} (s : Same F H) (h : PRep T.K F H v d) (hd : Dep n d) : Dp T.K H v d.py := by
  rcases h with h | ⟨a, vs, ds, rfl, rfl, ha, r⟩
  · exact h.dp s ⟨n, hd⟩
  · exact .lst (.inl (.inl ha)) (r.dp s hd.lst_inv)
theorem Dep.lay : ∀ {n : Nat} {d : D}, Dep n d → PyData.canLay0 d.py = true ∧ d.py.depth ≤ n
  | _, _, .non => ⟨rfl, Nat.zero_le _⟩
  | _, _, .bl b => ⟨rfl, Nat.zero_le _⟩
  | _, _, .int i => ⟨rfl, Nat.zero_le _⟩
  | _, _, .str h => ⟨h, Nat.zero_le _⟩
  | n + 1, .lst xs, .lst h => by
    have all : ∀ xs : List D, (∀ x ∈ xs, Dep n x) → PyData.canLayAll0 (D.pyA xs) = true ∧ PyData.depthAll (D.pyA xs) ≤ n := fun xs => by
      induction xs with
      | nil => intro _; exact ⟨rfl, Nat.zero_le _⟩
      | cons x xs ih =>
        intro h
        have h1 := Dep.lay (h x (List.mem_cons_self ..))
        have h2 := ih fun y hy => h y (List.mem_cons_of_mem _ hy)
        refine ⟨?_, ?_⟩
        · rw [D.pyA, PyData.canLayAll0, h1.1, h2.1]; rfl
        · rw [D.pyA, PyData.depthAll]
          exact Nat.max_le.mpr ⟨h1.2, h2.2⟩
    have := all xs h
    exact ⟨this.1, Nat.succ_le_succ this.2⟩
  | n + 1, .tup xs, .tup h => by
    have all : ∀ xs : List D, (∀ x ∈ xs, Dep n x) → PyData.canLayAll0 (D.pyA xs) = true ∧ PyData.depthAll (D.pyA xs) ≤ n := fun xs => by
      induction xs with
      | nil => intro _; exact ⟨rfl, Nat.zero_le _⟩
      | cons x xs ih =>
        intro h
        have h1 := Dep.lay (h x (List.mem_cons_self ..))
        have h2 := ih fun y hy => h y (List.mem_cons_of_mem _ hy)
        refine ⟨?_, ?_⟩
        · rw [D.pyA, PyData.canLayAll0, h1.1, h2.1]; rfl
        · rw [D.pyA, PyData.depthAll]
          exact Nat.max_le.mpr ⟨h1.2, h2.2⟩
    have := all xs h
    exact ⟨this.1, Nat.succ_le_succ this.2⟩
theorem Dep.shaped {n : Nat} {d : D} (h : Dep n d) (hn : n ≤ 60) : SeqAt.shaped d.py = true := by
  obtain ⟨h1, h2⟩ := h.lay
  unfold SeqAt.shaped
  rw [h1, Bool.true_and]
  exact decide_eq_true (by omega)
def deq (d e : D) : Bool := PyData.eqv d.py e.py
theorem deq_refl {n : Nat} {d : D} (h : Dep n d) : deq d d = true := SeqAt.eqv_refl _ h.lay.1
def bEq (f : Bool → Bool) : D → D → (Bool → Prop) → Prop := fun d e Ψ => (∃ n, n ≤ 60 ∧ Dep n d) ∧ (∃ n, n ≤ 60 ∧ Dep n e) ∧ Ψ (f (deq d e))
theorem bd_neD : BD T (rNeD T.K) (bEq not) := fun F H x y d e Q Ψ o hx hy hg k => by
  obtain ⟨⟨n, hn, dn⟩, ⟨m, hm, dm⟩, h⟩ := hg
  exact ⟨_, _, hx.dp o.sub dn, hy.dp o.sub dm, dn.shaped hn, dm.shaped hm, k _ h⟩
end
end Dt
set_option Elab.async false
set_option linter.all false
set_option maxRecDepth 100000
set_option autoImplicit false
namespace Dt
open PySem PySem.Spec L2 Kx PyProof.Rows
section
variable {X : Cx}
theorem Inv.rdL {pins : List (Addr × Obj)} {σ : L2.St} {H : Hp} {s : Shared} {l : Addr} {xs : List V} (I : L2.Inv X pins σ H s) (hH : L2.Rd H l (.lst xs)) : xs.length ≤ sizeLine ∧ ∃ (its : List Value) (n : Nat), Vals xs its ∧ xs.length = its.length ∧ s.heap.get? l = some { cls := .type "list", data := .seq its.toArray n } := by
  obtain ⟨z, its, n, r, e⟩ := hH.ok I.hok
  exact ⟨z, its, n, r, r.length, e⟩
def rCatL : L2.R2 := fun x y H Q => ∃ l b xs zs, x = .ref l ∧ y = .ref b ∧ L2.Rd H l (.lst xs) ∧ L2.Rd H b (.lst zs) ∧ xs.length + zs.length ≤ sizeLine ∧ ∀ p, H p = none → Q (.ref p) (upd H p (.lst (xs ++ zs)))
theorem op_catL : OpR X (binaryOp .Add) rCatL := by
  intro pins s σ H x y v u Q I rx ry h
  obtain ⟨l, b, xs, zs, rfl, rfl, hH, hB, hz, q⟩ := h
  cases rx
  cases ry
  obtain ⟨z, its, n, r, hl, e⟩ := Inv.rdL I hH
  obtain ⟨z2, its2, n2, r2, hl2, e2⟩ := Inv.rdL I hB
  refine PySem.P.add_list e e2 ?_ (by rw [List.size_toArray, List.size_toArray]; omega)
  have ea : its.toArray ++ its2.toArray = (its ++ its2).toArray := by simp
  rw [ea]
  exact ⟨.ref _, _, I.lnew (t' := s.toks) (r.append r2) (by rw [List.length_append]; omega), rfl, q _ I.fresh⟩
theorem call_isiAll : CallR X (.builtin "isinstance") (fun xs H Q => (∃ y T b, xs = [y, .ty T] ∧ isiB y T = some b ∧ Q (.bl b) H) ∨ (∃ a ys, xs = [.ref a, .ty "tuple"] ∧ SqT X.K H a ys ∧ Q (.bl true) H) ∨ ∃ a ys, xs = [.ref a, .ty "list"] ∧ SqL X.K H a ys ∧ Q (.bl true) H) := by
  intro pins s σ H xs us Q I r h
  rcases h with h | h | h
  · exact call_isi pins s σ H xs us Q I r h
  · exact call_isiTT pins s σ H xs us Q I r h
  · exact call_isiLL pins s σ H xs us Q I r h
end
section
variable {T : Tb} {F F1 F2 F' H H1 H2 H' : Hp} {σ σ2 : L2.St} {Γ Γ1 Γ2 Γ' Γw : Gm} {E : XK} {t ta tb tc te to : TE} {w wa wb wc we wo : WE} {tA : TA} {wA : WA} {io : Bool}
theorem od_pure {r : L2.R2} {g : D → D → (R → Prop) → Prop} (h : ∀ (F H : Hp) (x y : V) (d e : D) (Q : VK) (Ψ : R → Prop), Ok T F H → PRep T.K F H x d → PRep T.K F H y e → g d e Ψ → (∀ v z, Ψ (.val z) → Rep T.K F v z → Q v H) → r x y H Q) : OD T r g :=
  fun F H x y d e Q Ψ o hx hy hg k => h F H x y d e Q Ψ o hx hy hg fun v z hz hv => k F H v _ hz o.refl hv
theorem atI_rep {vs : List V} {ds : List D} {i : Int} {z : D} (r : RepA T.K F vs ds) (h : atI ds i = some z) : ∃ v, atI vs i = some v ∧ Rep T.K F v z := by
  unfold atI at h ⊢
  rw [r.length]
  cases e : ixN ds.length i with
  | none => rw [e] at h; cases h
  | some j =>
    rw [e] at h
    obtain ⟨v, hv, rv⟩ := r.get (show ds[j]? = some z from h)
    exact ⟨v, hv, rv⟩
def dIxL : D → D → (R → Prop) → Prop := fun d e Ψ => ∃ ds i z, (d = .lst ds ∨ d = .scr ds) ∧ e = .int i ∧ atI ds i = some z ∧ Ψ (.val z)
theorem od_ixL : OD T (rIxL T.K) dIxL := od_pure fun F H x y d e Q Ψ o hx hy hg k => by
  obtain ⟨ds, i, z, hd, rfl, ha, h⟩ := hg
  obtain ⟨a, vs, rfl, hs, r⟩ : ∃ a vs, x = .ref a ∧ SqL T.K H a vs ∧ RepA T.K F vs ds := by
    rcases hd with rfl | rfl
    · obtain ⟨a, vs, e, h, r⟩ := hx.lst o.sub; exact ⟨a, vs, e, .inl h, r⟩
    · exact hx.scr o.sub
  obtain ⟨v, hv, rv⟩ := atI_rep r ha
  exact ⟨a, vs, i, v, rfl, hy.int, hs, hv, k v z h rv⟩
def dIxT : D → D → (R → Prop) → Prop := fun d e Ψ => ∃ ds i z, d = .tup ds ∧ e = .int i ∧ atI ds i = some z ∧ Ψ (.val z)
theorem od_ixT : OD T (rIxT T.K) dIxT := od_pure fun F H x y d e Q Ψ o hx hy hg k => by
  obtain ⟨ds, i, z, rfl, rfl, ha, h⟩ := hg
  obtain ⟨a, vs, rfl, hs, r⟩ := hx.tup o.sub
  obtain ⟨v, hv, rv⟩ := atI_rep r ha
  exact ⟨a, vs, i, v, rfl, hy.int, hs, hv, k v z h rv⟩
def dIxS : D → D → (R → Prop) → Prop := fun d e Ψ => ∃ z i c, d = .str z ∧ e = .int i ∧ z.length ≤ sizeLine ∧ atI z.cps.toList i = some c ∧ Ψ (.val (.str ⟨#[c]⟩))
theorem od_ixS : OD T rIxS dIxS := od_pure fun F H x y d e Q Ψ o hx hy hg k => by
  obtain ⟨z, i, c, rfl, rfl, hl, ha, h⟩ := hg
  exact ⟨z, i, c, hx.str, hy.int, hl, ha, k _ _ h (.str _)⟩
def dIx : D → D → (R → Prop) → Prop := fun d e Ψ => match d with
  | .lst _ => dIxL d e Ψ
  | .scr _ => dIxL d e Ψ
  | .tup _ => dIxT d e Ψ
  | .str _ => dIxS d e Ψ
  | _ => False
theorem od_ix : OD T (rIx T.K) dIx := fun F H x y d e Q Ψ o hx hy hg k => by
  unfold dIx at hg
  split at hg
  · exact .inl (od_ixL F H x y _ e Q Ψ o hx hy hg k)
  · exact .inl (od_ixL F H x y _ e Q Ψ o hx hy hg k)
  · exact .inr (.inl (od_ixT F H x y _ e Q Ψ o hx hy hg k))
  · exact .inr (.inr (od_ixS F H x y _ e Q Ψ o hx hy hg k))
  · exact hg.elim
def D.v : D → V
  | .non => .non | .bl b => .bl b | .int i => .int i | .str x => .str x | _ => .ty ""
def D.flat : D → Bool
  | .non => true | .bl _ => true | .int _ => true | .str _ => true | _ => false
theorem PRep.flat {K : PySem.W.Frag} {v : V} {d : D} (h : PRep K F H v d) (f : d.flat = true) : v = d.v ∧ flatV v = true := by
  cases d <;> first
    | (cases f; done)
    | (rw [h.non]; exact ⟨rfl, rfl⟩)
    | (rw [h.bl]; exact ⟨rfl, rfl⟩)
    | (rw [h.int]; exact ⟨rfl, rfl⟩)
    | (rw [h.str]; exact ⟨rfl, rfl⟩)
theorem RepA.flat {K : PySem.W.Frag} : ∀ {vs : List V} {ds : List D}, RepA K F vs ds → ds.all D.flat = true → vs = ds.map D.v ∧ vs.all flatV = true
  | _, _, .nil, _ => ⟨rfl, rfl⟩
  | _, _, .cons h r, f => by
    simp only [List.all_cons, Bool.and_eq_true] at f
    obtain ⟨e1, f1⟩ := PRep.flat (H := F) (.inl h) f.1
    obtain ⟨e2, f2⟩ := RepA.flat r f.2
    exact ⟨by rw [List.map_cons, ← e1, ← e2], by rw [List.all_cons, f1, f2]; rfl⟩
def bIn (neg : Bool) : D → D → (Bool → Prop) → Prop := fun d e Ψ => ∃ ds, (e = .lst ds ∨ e = .tup ds) ∧ d.flat = true ∧ ds.all D.flat = true ∧ Ψ (if neg then !inV d.v (ds.map D.v) else inV d.v (ds.map D.v))
theorem bd_in {neg : Bool} : BD T (rIn T.K neg) (bIn neg) := fun F H x y d e Q Ψ o hx hy hg k => by
  obtain ⟨ds, he, fd, fds, h⟩ := hg
  obtain ⟨ex, fx⟩ := hx.flat fd
  have q : ∃ a vs, y = .ref a ∧ (SqL T.K H a vs ∨ SqT T.K H a vs) ∧ RepA T.K F vs ds := by
    rcases he with rfl | rfl
    · obtain ⟨a, vs, e, h, r⟩ := hy.lst o.sub; exact ⟨a, vs, e, .inl (.inl h), r⟩
    · obtain ⟨a, vs, e, h, r⟩ := hy.tup o.sub; exact ⟨a, vs, e, .inr h, r⟩
  obtain ⟨a, vs, rfl, hs, r⟩ := q
  obtain ⟨ev, fv⟩ := r.flat fds
  refine ⟨a, vs, rfl, hs, fx, fv, ?_⟩
  rw [ex, ev]
  exact k _ h
def dAddS : D → D → (R → Prop) → Prop := fun d e Ψ => ∃ x y, d = .str x ∧ e = .str y ∧ x.length + y.length ≤ sizeLine ∧ Ψ (.val (.str (x ++ y)))
theorem od_addS : OD T (fun x y H Q => ∃ i j, x = .str i ∧ y = .str j ∧ i.length + j.length ≤ sizeLine ∧ Q (.str (i ++ j)) H) dAddS := od_pure fun F H x y d e Q Ψ o hx hy hg k => by
  obtain ⟨x', y', rfl, rfl, hl, h⟩ := hg
  exact ⟨x', y', hx.str, hy.str, hl, k _ _ h (.str _)⟩
def dCat : D → D → (R → Prop) → Prop := fun d e Ψ => ∃ xs ys, d = .lst xs ∧ e = .lst ys ∧ xs.length + ys.length ≤ sizeLine ∧ Ψ (.new (xs ++ ys))
theorem new_ok {p : Addr} {vs : List V} {ds : List D} {Q : VK} {Ψ : R → Prop} (o : Ok T F H) (hp : H p = none) (r : RepA T.K F vs ds) (h : Ψ (.new ds)) (k : ∀ F' H' v r, Ψ r → Nw T F H F' H' → RepN T F' H H' v r → Q v H') : Q (.ref p) (upd H p (.lst vs)) := by
  have fp : F p = none := by
    cases e : F p with
    | none => rfl
    | some u => have := o.sub _ _ e; rw [hp] at this; cases this
  exact k F _ _ _ h (o.put hp) ⟨p, vs, rfl, upd_same, fp, hp, r⟩
theorem od_cat : OD T rCatL dCat := fun F H x y d e Q Ψ o hx hy hg k => by
  obtain ⟨xs, ys, rfl, rfl, hl, h⟩ := hg
  obtain ⟨a, vs, rfl, ha, ra⟩ := hx.lst o.sub
  obtain ⟨b, us, rfl, hb, rb⟩ := hy.lst o.sub
  exact ⟨a, b, vs, us, rfl, rfl, ha, hb, by rw [ra.length, rb.length]; exact hl, fun p hp => new_ok o hp (ra.append rb) h k⟩
theorem ud_neg : UD T (rU fun i => .int (-i)) (fun d Ψ => ∃ i, d = .int i ∧ Ψ (.val (.int (-i)))) := fun F H x d Q Ψ o hx hg k => by
  obtain ⟨i, rfl, h⟩ := hg
  exact ⟨i, hx.int, k F H _ _ h o.refl (Rep.int _)⟩
theorem cd_pure {r : List V → Hp → VK → Prop} {g : List D → (R → Prop) → Prop} (h : ∀ (F H : Hp) (vs : List V) (ds : List D) (Q : VK) (Ψ : R → Prop), Ok T F H → PRepA T.K F H vs ds → g ds Ψ → (∀ v z, Ψ (.val z) → Rep T.K F v z → Q v H) → r vs H Q) : CD T r g :=
  fun F H vs ds Q Ψ o hx hg k => h F H vs ds Q Ψ o hx hg fun v z hz hv => k F H v _ hz o.refl hv
def dLen : List D → (R → Prop) → Prop := fun ds Ψ => ∃ zs, (ds = [.lst zs] ∨ ds = [.tup zs] ∨ ds = [.scr zs]) ∧ Ψ (.val (.int (zs.length : Nat)))
theorem seq_of {v : V} {d : D} {zs : List D} (o : Ok T F H) (h : PRep T.K F H v d) (e : d = .lst zs ∨ d = .tup zs ∨ d = .scr zs) : ∃ a vs, v = .ref a ∧ (SqL T.K H a vs ∨ SqT T.K H a vs) ∧ RepA T.K F vs zs := by
  rcases e with rfl | rfl | rfl
  · obtain ⟨a, vs, e, h, r⟩ := h.lst o.sub; exact ⟨a, vs, e, .inl (.inl h), r⟩
  · obtain ⟨a, vs, e, h, r⟩ := h.tup o.sub; exact ⟨a, vs, e, .inr h, r⟩
  · obtain ⟨a, vs, e, h, r⟩ := h.scr o.sub; exact ⟨a, vs, e, .inl h, r⟩
theorem cd_len : CD T (fun xs H Q => ∃ p ys, xs = [.ref p] ∧ (SqL T.K H p ys ∨ SqT T.K H p ys) ∧ Q (.int ys.length) H) dLen := cd_pure fun F H vs ds Q Ψ o hx hg k => by
  obtain ⟨zs, e, h⟩ := hg
  obtain ⟨d, rfl⟩ : ∃ d, ds = [d] := by rcases e with e | e | e <;> exact ⟨_, e⟩
  obtain ⟨v, rfl, hv⟩ := hx.one
  obtain ⟨a, ws, rfl, hs, r⟩ := seq_of (zs := zs) o hv (by rcases e with e | e | e <;> (cases e; simp))
  exact ⟨a, ws, rfl, hs, by rw [r.length]; exact k _ _ h (.int _)⟩
def dLenS : List D → (R → Prop) → Prop := fun ds Ψ => ∃ z, ds = [.str z] ∧ z.length ≤ sizeLine ∧ Ψ (.val (.int (z.length : Nat)))
theorem cd_lenS : CD T (fun xs H Q => ∃ z, xs = [.str z] ∧ z.length ≤ sizeLine ∧ Q (.int z.length) H) dLenS := cd_pure fun F H vs ds Q Ψ o hx hg k => by
  obtain ⟨z, rfl, hl, h⟩ := hg
  obtain ⟨v, rfl, hv⟩ := hx.one
  exact ⟨z, by rw [hv.str], hl, k _ _ h (.int _)⟩
def d1I (f : Int → Int) : List D → (R → Prop) → Prop := fun ds Ψ => ∃ i, ds = [.int i] ∧ Ψ (.val (.int (f i)))
def d2I (f : Int → Int → Int) : List D → (R → Prop) → Prop := fun ds Ψ => ∃ i j, ds = [.int i, .int j] ∧ Ψ (.val (.int (f i j)))
theorem cd_1I {f : Int → Int} : CD T (fun xs H Q => ∃ i, xs = [.int i] ∧ Q (.int (f i)) H) (d1I f) := cd_pure fun F H vs ds Q Ψ o hx hg k => by
  obtain ⟨i, rfl, h⟩ := hg
  obtain ⟨v, rfl, hv⟩ := hx.one
  exact ⟨i, by rw [hv.int], k _ _ h (.int _)⟩
theorem cd_2I {f : Int → Int → Int} : CD T (fun xs H Q => ∃ i j, xs = [.int i, .int j] ∧ Q (.int (f i j)) H) (d2I f) := cd_pure fun F H vs ds Q Ψ o hx hg k => by
  obtain ⟨i, j, rfl, h⟩ := hg
  obtain ⟨v, u, rfl, hv, hu⟩ := hx.two
  exact ⟨i, j, by rw [hv.int, hu.int], k _ _ h (.int _)⟩
def dDivmod : List D → (R → Prop) → Prop := fun ds Ψ => ∃ i j, ds = [.int i, .int j] ∧ CDivP i j ∧ Ψ (.val (.tup [.int (i / j), .int (i % j)]))
def D.isi : D → String → Option Bool
  | .lst _, "list" => some true
  | .tup _, "tuple" => some true
  | d, T => isiB d.v T
def dIsi : List D → (R → Prop) → Prop := fun ds Ψ => ∃ d T b, ds = [d, .ty T] ∧ d.isi T = some b ∧ Ψ (.val (.bl b))
theorem PRep.ty {K : PySem.W.Frag} {v : V} {n : String} (h : PRep K F H v (.ty n)) : v = .ty n := by
  rcases h with h | ⟨_, _, _, _, z, _⟩
  · cases h; rfl
  · cases z
theorem cd_isi : CD T (fun xs H Q => (∃ y T b, xs = [y, .ty T] ∧ isiB y T = some b ∧ Q (.bl b) H) ∨ (∃ a ys, xs = [.ref a, .ty "tuple"] ∧ SqT T.K H a ys ∧ Q (.bl true) H) ∨ ∃ a ys, xs = [.ref a, .ty "list"] ∧ SqL T.K H a ys ∧ Q (.bl true) H) dIsi := cd_pure fun F H vs ds Q Ψ o hx hg k => by
  obtain ⟨d, Tn, b, rfl, hb, h⟩ := hg
  obtain ⟨v, u, rfl, hv, hu⟩ := hx.two
  obtain rfl := hu.ty
  unfold D.isi at hb
  split at hb
  · cases hb
    obtain ⟨a, ws, rfl, hs, r⟩ := hv.lst o.sub
    exact .inr (.inr ⟨a, ws, rfl, .inl hs, k _ _ h (.bl _)⟩)
  · cases hb
    obtain ⟨a, ws, rfl, hs, r⟩ := hv.tup o.sub
    exact .inr (.inl ⟨a, ws, rfl, hs, k _ _ h (.bl _)⟩)
  · refine .inl ⟨v, Tn, b, rfl, ?_, k _ _ h (.bl _)⟩
    have : v = d.v := by
      cases d <;> first
        | exact hv.non | exact hv.bl | exact hv.int | exact hv.str
        | (exfalso; unfold isiB D.v at hb; simp at hb)
    rw [this]
    exact hb
def dList : List D → (R → Prop) → Prop := fun ds Ψ => ∃ d zs, ds = [d] ∧ (d = .lst zs ∨ d = .tup zs ∨ d = .scr zs) ∧ Ψ (.new zs)
theorem cd_list : CD T (fun xs H Q => ∃ p ys, xs = [.ref p] ∧ (SqL T.K H p ys ∨ SqT T.K H p ys) ∧ ∀ l, H l = none → Q (.ref l) (upd H l (.lst ys))) dList := fun F H vs ds Q Ψ o hx hg k => by
  obtain ⟨d, zs, rfl, e, h⟩ := hg
  obtain ⟨v, rfl, hv⟩ := hx.one
  obtain ⟨a, ws, rfl, hs, r⟩ := seq_of o hv e
  exact ⟨a, ws, rfl, hs, fun l hl => new_ok o hl r h k⟩
def dTuple : List D → (R → Prop) → Prop := fun ds Ψ => ∃ d zs, ds = [d] ∧ (d = .lst zs ∨ d = .tup zs) ∧ Ψ (.val (.tup zs))
def dStrI : List D → (R → Prop) → Prop := fun ds Ψ => ∃ i : Int, ds = [.int i] ∧ i.natAbs.log2 < 1920 ∧ Ψ (.val (.str (toString i)))
def dInt1 : List D → (R → Prop) → Prop := fun ds Ψ => (∃ i, ds = [.int i] ∧ Ψ (.val (.int i))) ∨ ∃ b, ds = [.bl b] ∧ Ψ (.val (.int (if b then 1 else 0)))
theorem cd_int1 : CD T (fun xs H Q => (∃ i, xs = [.int i] ∧ Q (.int i) H) ∨ ∃ k, xs = [.bl k] ∧ Q (.int (if k then 1 else 0)) H) dInt1 := cd_pure fun F H vs ds Q Ψ o hx hg k => by
  rcases hg with ⟨i, rfl, h⟩ | ⟨b, rfl, h⟩
  · obtain ⟨v, rfl, hv⟩ := hx.one
    exact .inl ⟨i, by rw [hv.int], k _ _ h (.int _)⟩
  · obtain ⟨v, rfl, hv⟩ := hx.one
    exact .inr ⟨b, by rw [hv.bl], k _ _ h (.int _)⟩
def MD (T : Tb) (r : V → List V → Hp → VK → Prop) (g : Str → D → (R → Prop) → Prop) : Prop := ∀ (F H : Hp) (a : Str) (y : V) (e : D) (Q : VK) (Ψ : R → Prop), Ok T F H → PRep T.K F H y e → g a e Ψ →
  (∀ F' H' v r, Ψ r → Nw T F H F' H' → RepN T F' H H' v r → Q v H') → r (.str a) [y] H Q
def wM1 (g : Str → D → (R → Prop) → Prop) (wo we : WE) : WE := fun Γ Ψ Ξ => wo Γ (fun r1 Γ1 => ∃ a, r1.at Γ1 = some (.str a) ∧ we Γ1 (fun r2 Γ2 => ∃ d2, r2.at Γ2 = some d2 ∧ g a d2 fun r => Ψ r Γ2) Ξ) Ξ
theorem ed_m1 {r : V → List V → Hp → VK → Prop} {g : Str → D → (R → Prop) → Prop} (m : MD T r g) (ho : ED T E to wo) (he : ED T E te we) : ED T E (tM1 r to te) (wM1 g wo we) := fun F σ H Γ Q Ψ Ξ p h x k => ho F σ H Γ _ _ Ξ p h x fun F1 H1 Γ1 v1 r1 h1 q1 e1 => by
  obtain ⟨a, a1, h1⟩ := h1
  have ev := (e1.peek q1.rp a1).str
  refine ⟨⟨a, ev⟩, he F1 σ H1 Γ1 _ _ Ξ q1.rp h1 (x.on q1) fun F2 H2 Γ2 v2 r2 h2 q2 e2 => ?_⟩
  obtain ⟨d2, a2, hg⟩ := h2
  subst ev
  have q := q1.trans q2
  exact m F2 H2 a v2 d2 Q _ q2.rp.toOk (e2.peek q2.rp a2) hg fun F4 H4 v r h4 n4 e4 => k F4 H4 Γ2 v r h4 (q.nw n4) (e4.toR q)
def dJoin : Str → D → (R → Prop) → Prop := fun a e Ψ => ∃ ys : List Str, (e = .lst (ys.map D.str) ∨ e = .tup (ys.map D.str)) ∧ (ys.map (·.length)).sum + ys.length * a.length ≤ 16777216 ∧ Ψ (.val (.str (Txt.join a ys)))
theorem md_join : MD T (fun x xs H Q => ∃ a p, ∃ ys : List Str, x = .str a ∧ xs = [.ref p] ∧ (SqL T.K H p (ys.map V.str) ∨ SqT T.K H p (ys.map V.str)) ∧ (ys.map (·.length)).sum + ys.length * a.length ≤ 16777216 ∧ Q (.str (Txt.join a ys)) H) dJoin := fun F H a y e Q Ψ o hy hg k => by
  obtain ⟨ys, he, hl, h⟩ := hg
  obtain ⟨p, vs, rfl, hs, r⟩ := seq_of (zs := ys.map D.str) o hy (by rcases he with h | h <;> simp [h])
  have := r.strs
  subst this
  exact ⟨a, p, ys, rfl, rfl, hs, hl, k F H _ _ h o.refl (Rep.str _)⟩
def wApp (i : Nat) (we : WE) : WE := fun Γ Ψ Ξ => ∃ ds0, Γ[i]? = some (some (.own ds0)) ∧ we Γ (fun r Γ1 => ∃ d Γ2 ds, frz Γ1 r = some (d, Γ2) ∧ Γ2[i]? = some (some (.own ds)) ∧ ds.length < sizeLine ∧ Ψ (.val .non) (Γ2.set i (some (.own (ds ++ [d]))))) Ξ
theorem ed_app {i : Nat} (h : ED T E te we) : ED T E (tBM T.K "list" rAppend (tVar i) (tCons te tNil)) (wApp i we) := fun F σ H Γ Q Ψ Ξ p hw x k => by
  obtain ⟨ds0, h0, hw⟩ := hw
  obtain ⟨v, e0, a, vs, rfl, ha, fa, ra⟩ := p.at_ i _ h0
  refine ⟨_, e0, .inl ⟨rfl, vs, .inl (.inl ha)⟩, h F σ H Γ _ _ Ξ p hw x fun F1 H1 Γ1 u r hr q e => ?_⟩
  obtain ⟨d, Γ2, ds, a2, hi, hl, hn⟩ := hr
  obtain ⟨F2, q2, s2, r2⟩ := RepR.frz q e a2
  obtain ⟨v', e1, b, us, rfl, hb, fb, rb⟩ := q2.rp.at_ i _ hi
  rw [e0] at e1
  cases e1
  exact ⟨a, us, u, rfl, rfl, hb, by rw [rb.length]; exact hl, k F2 _ _ _ _ hn (q2.trans (po_own q2.rp hi e0 hb fb (rb.append (.cons r2 .nil)))) Rep.non⟩
def wRev (i : Nat) : WE := fun Γ Ψ Ξ => ∃ ds, Γ[i]? = some (some (.own ds)) ∧ Ψ (.val .non) (Γ.set i (some (.own ds.reverse)))
def wClr (i : Nat) : WE := fun Γ Ψ Ξ => ∃ ds, Γ[i]? = some (some (.own ds)) ∧ Ψ (.val .non) (Γ.set i (some (.own [])))
abbrev WO := Gm → (Option Int → Gm → Prop) → (XD → Prop) → Prop
def OO (T : Tb) (E : XK) (t : TO) (w : WO) : Prop := ∀ (F : Hp) (σ : L2.St) (H : Hp) (Γ : Gm) (Q : Option Int → Hp → Prop) (Ψ : Option Int → Gm → Prop) (Ξ : XD → Prop), Rp T F σ H Γ → w Γ Ψ Ξ → XO T σ E Ξ F H Γ → (∀ F' H' Γ' o, Ψ o Γ' → Po T F σ H Γ F' H' Γ' → Q o H') → t σ H Q
def wNoP : WO := fun Γ Ψ _ => Ψ none Γ
theorem oo_none : OO T E tNoPart wNoP := fun F σ H Γ Q Ψ Ξ p h x k => k F H Γ _ h p.refl
def wPrt (w : WE) : WO := fun Γ Ψ Ξ => w Γ (fun r Γ1 => ∃ i, r.at Γ1 = some (.int i) ∧ Ψ (some i) Γ1) Ξ
theorem oo_some (h : ED T E t w) : OO T E (tPart t) (wPrt w) := fun F σ H Γ Q Ψ Ξ p hw x k => h F σ H Γ _ _ Ξ p hw x fun F1 H1 Γ1 v r hr q e => by
  obtain ⟨i, a, hn⟩ := hr
  exact ⟨i, (e.peek q.rp a).int, k F1 H1 Γ1 _ hn q⟩
def LD (T : Tb) (r : V → Option Int → Option Int → Hp → VK → Prop) (g : D → Option Int → Option Int → (R → Prop) → Prop) : Prop := ∀ (F H : Hp) (x : V) (d : D) (lo hi : Option Int) (Q : VK) (Ψ : R → Prop), Ok T F H → PRep T.K F H x d → g d lo hi Ψ →
  (∀ F' H' v r, Ψ r → Nw T F H F' H' → RepN T F' H H' v r → Q v H') → r x lo hi H Q
def wSl (g : D → Option Int → Option Int → (R → Prop) → Prop) (w : WE) (wl wh : WO) : WE := fun Γ Ψ Ξ => w Γ (fun r1 Γ1 => wl Γ1 (fun lo Γ2 => wh Γ2 (fun hi Γ3 => ∃ d, r1.at Γ3 = some d ∧ g d lo hi fun r => Ψ r Γ3) Ξ) Ξ) Ξ
theorem ed_sl {r : V → Option Int → Option Int → Hp → VK → Prop} {g : D → Option Int → Option Int → (R → Prop) → Prop} {tl th : TO} {wl wh : WO} (l : LD T r g) (h : ED T E t w) (hl : OO T E tl wl) (hh : OO T E th wh) : ED T E (tSl r t tl th) (wSl g w wl wh) := fun F σ H Γ Q Ψ Ξ p hw x k => h F σ H Γ _ _ Ξ p hw x fun F1 H1 Γ1 v r hr q e => by
  obtain ⟨F2, q2, s2, e2⟩ := RepR.held q e
  refine hl F2 σ H1 Γ1 _ _ Ξ q2.rp hr (x.on q2) fun F3 H3 Γ3 lo h3 q3 => ?_
  have q23 := q2.trans q3
  refine hh F3 σ H3 Γ3 _ _ Ξ q3.rp h3 (x.on q23) fun F4 H4 Γ4 hi h4 q4 => ?_
  obtain ⟨d, a, hg⟩ := h4
  rw [← R.at_hold] at a
  have qq := q23.trans q4
  exact l F4 H4 v d lo hi Q _ q4.rp.toOk (((e2.on q3).on q4).peek q4.rp a) hg fun F5 H5 v5 r5 h5 n5 e5 => k F5 H5 Γ4 v5 r5 h5 (qq.nw n5) (e5.toR qq)
def cutD (xs : List D) (lo hi : Option Int) : List D := (xs.drop (HT.sIx xs.length 0 lo)).take (HT.sIx xs.length xs.length hi - HT.sIx xs.length 0 lo)
def dSlL : D → Option Int → Option Int → (R → Prop) → Prop := fun d lo hi Ψ => ∃ ds, d = .lst ds ∧ Ψ (.new (cutD ds lo hi))
theorem ld_list : LD T (rSlL T.K) dSlL := fun F H x d lo hi Q Ψ o hx hg k => by
  obtain ⟨ds, rfl, h⟩ := hg
  obtain ⟨a, vs, rfl, ha, ra⟩ := hx.lst o.sub
  refine ⟨a, vs, rfl, .inl ha, fun p hp => new_ok o hp ?_ h k⟩
  unfold cutV cutD
  rw [ra.length]
  exact (ra.drop _).take _
def dSlS : D → Option Int → Option Int → (R → Prop) → Prop := fun d lo hi Ψ => ∃ z, d = .str z ∧ z.length ≤ sizeLine ∧ Ψ (.val (.str (cutS z lo hi)))
theorem ld_str : LD T rSlS dSlS := fun F H x d lo hi Q Ψ o hx hg k => by
  obtain ⟨z, rfl, hl, h⟩ := hg
  exact ⟨z, hx.str, hl, k F H _ _ h o.refl (Rep.str _)⟩
end
end Dt
set_option Elab.async false
set_option linter.all false
set_option maxRecDepth 100000
set_option autoImplicit false
namespace Dt
open PySem PySem.Spec L2 Kx PyProof.Rows
section
variable {X : Cx} {K : PySem.W.Frag}
theorem ix_seqK (h : X.K = K) : IxR X (rIx K) := h ▸ ix_seq
theorem op_inK (h : X.K = K) : OpR X (compareOp .In) (rIn K false) := h ▸ op_in_seq
theorem op_neDK (h : X.K = K) (hu : X.A.units + 64 < cLine) : OpR X (compareOp .NotEq) (rNeD K) := h ▸ op_neD hu
theorem call_lenK (h : X.K = K) : CallR X (.builtin "len") (fun xs H Q => ∃ p ys, xs = [.ref p] ∧ (SqL K H p ys ∨ SqT K H p ys) ∧ Q (.int ys.length) H) := h ▸ call_len_seq
theorem call_isiK (h : X.K = K) : CallR X (.builtin "isinstance") (fun xs H Q => (∃ y T b, xs = [y, .ty T] ∧ isiB y T = some b ∧ Q (.bl b) H) ∨ (∃ a ys, xs = [.ref a, .ty "tuple"] ∧ SqT K H a ys ∧ Q (.bl true) H) ∨ ∃ a ys, xs = [.ref a, .ty "list"] ∧ SqL K H a ys ∧ Q (.bl true) H) := h ▸ call_isiAll
theorem list_ofK (h : X.K = K) : CallR X (.type "list") (fun xs H Q => ∃ p ys, xs = [.ref p] ∧ (SqL K H p ys ∨ SqT K H p ys) ∧ ∀ l, H l = none → Q (.ref l) (upd H l (.lst ys))) := h ▸ call_list_of
theorem sl_listK (h : X.K = K) : SlR X (rSlL K) := h ▸ sl_list
end
structure QE (X : Cx) (T : Tb) (E : XK) (e : Expr) (t : TE) (w : WE) : Prop where
  pe : PE X e t
  ed : ED T E t w
structure QT (X : Cx) (T : Tb) (E : XK) (e : Expr) (t : TT) (w : WT) : Prop where
  pe : PT X e t
  ed : TD T E t w
structure QW (X : Cx) (T : Tb) (E : XK) (e : Expr) (t : TT) (w : WT) : Prop where
  pe : PW X e t
  ed : TD T E t w
structure QA (X : Cx) (T : Tb) (E : XK) (es : List Expr) (t : TA) (w : WA) : Prop where
  pe : PA X es t
  ed : AD T E t w
structure QO (X : Cx) (T : Tb) (E : XK) (e : Option Expr) (t : TO) (w : WO) : Prop where
  pe : PO X e t
  ed : OO T E t w
structure QS (X : Cx) (T : Tb) (io : Bool) (E : XK) (st : Stmt) (t : TS) (w : WS) : Prop where
  pe : PS X st t
  ed : SD T io E t w
structure QSs (X : Cx) (T : Tb) (io : Bool) (E : XK) (st : List Stmt) (t : TS) (w : WS) : Prop where
  pe : PSs X st t
  ed : SD T io E t w
structure QI (X : Cx) (T : Tb) (E : XK) (tg e : Expr) (t : TI) (w : WI) : Prop where
  pe : PI X tg e t
  ed : ID T E t w
structure QG (X : Cx) (T : Tb) (io : Bool) (e : Expr) (t : TG) (w : WG) : Prop where
  pe : PG X e t
  ed : GD T io t w
structure QGs (X : Cx) (T : Tb) (io : Bool) (es : List Expr) (t : TGs) (w : WGs) : Prop where
  pe : PGs X es t
  ed : GDs T io t w
structure QC (X : Cx) (T : Tb) (vs : List Nat) (e : Expr) (t : TG) (w : WG) : Prop where
  pe : PG X e t
  ed : CG T vs t w
structure QTs (X : Cx) (T : Tb) (E : XK) (e : List Expr) (t : TT) (w : WT) : Prop where
  pe : PTs X e t
  ed : TD T E t w
section
variable {X : Cx} {T : Tb} {E : XK} {io : Bool} {a b c e : Expr} {es : List Expr} {ta tb tc te t to : TE} {wa wb wc we w wo : WE} {tA : TA} {wA : WA} {pos : Pos} {t1 t2 : TT} {w1 w2 : WT} {s1 s2 : TS} {u1 u2 : WS} {x : Str}
theorem q_v (i : Nat) (h : PE X (.Name x pos) (tVar i)) : QE X T E (.Name x pos) (tVar i) (wVar i) := ⟨h, ed_var i⟩
theorem q_int {i : Int} {j} : QE X T E (.Constant (.int i) j pos) (tC (.int i)) (wC (.int i)) := ⟨pe_int, ed_c fun _ => .int i⟩
theorem q_bl {i : Bool} {j} : QE X T E (.Constant (.bool i) j pos) (tC (.bl i)) (wC (.bl i)) := ⟨pe_bl, ed_c fun _ => .bl i⟩
theorem q_non {j} : QE X T E (.Constant .none j pos) (tC .non) (wC .non) := ⟨pe_non, ed_c fun _ => .non⟩
theorem q_str {i : Str} {j} : QE X T E (.Constant (.str i) j pos) (tC (.str i)) (wC (.str i)) := ⟨pe_str, ed_c fun _ => .str i⟩
theorem q_glob {v : V} {d : D} (h : PE X (.Name x pos) (tC v)) (r : ∀ F, Rep T.K F v d) : QE X T E (.Name x pos) (tC v) (wC d) := ⟨h, ed_c r⟩
theorem q_op {op : Operator} {r : L2.R2} {g : D → D → (R → Prop) → Prop} (o : OpR X (binaryOp op) r) (d : OD T r g) (ha : QE X T E a ta wa) (hb : QE X T E b tb wb) : QE X T E (.BinOp a op b pos) (tOp r ta tb) (wOp g wa wb) := ⟨pe_op o ha.pe hb.pe, ed_op d ha.ed hb.ed⟩
theorem q_un {op : UnaryOp} {r : V → Hp → VK → Prop} {g : D → (R → Prop) → Prop} (o : UnR X (unaryOp op) r) (d : UD T r g) (ha : QE X T E a ta wa) : QE X T E (.UnaryOp op a pos) (tUn r ta) (wUn g wa) := ⟨pe_un o ha.pe, ed_un d ha.ed⟩
theorem q_ix {r : L2.R2} {g : D → D → (R → Prop) → Prop} (o : IxR X r) (d : OD T r g) (ha : QE X T E a ta wa) (hb : QE X T E b tb wb) (hs : PlainIx b) : QE X T E (.Subscript a b pos) (tOp r ta tb) (wOp g wa wb) := ⟨pe_ix o ha.pe hb.pe hs, ed_op d ha.ed hb.ed⟩
def wCmp (g : D → D → (Bool → Prop) → Prop) (wa wb : WE) : WT := fun Γ Ψ Ξ => wa Γ (fun r1 Γ1 => wb Γ1 (fun r2 Γ2 => ∃ d1 d2, r1.at Γ2 = some d1 ∧ r2.at Γ2 = some d2 ∧ g d1 d2 fun b => Ψ b Γ2) Ξ) Ξ
theorem td_cmp {r : L2.R2} {g : D → D → (Bool → Prop) → Prop} (o : BD T r g) (ha : ED T E ta wa) (hb : ED T E tb wb) : TD T E (tTest (tOp r ta tb)) (wCmp g wa wb) := by
  intro F σ H Γ Q Ψ Ξ p h x k
  refine ha F σ H Γ _ _ Ξ p h x fun F1 H1 Γ1 v1 r1 h1 q1 e1 => ?_
  obtain ⟨F2, q2, s2, e2⟩ := RepR.held q1 e1
  refine hb F2 σ H1 Γ1 _ _ Ξ q2.rp h1 (x.on q2) fun F3 H3 Γ3 v2 r2 h3 q3 e3 => ?_
  obtain ⟨d1, d2, a1, a2, hg⟩ := h3
  rw [← R.at_hold] at a1
  exact o F3 H3 v1 v2 d1 d2 _ _ q3.rp.toOk ((e2.on q3).peek q3.rp a1) (e3.peek q3.rp a2) hg fun b hb => ⟨b, rfl, k F3 H3 Γ3 b hb (q2.trans q3)⟩
theorem q_cmpT {op : CmpOp} {r : L2.R2} {g : D → D → (Bool → Prop) → Prop} (o : OpR X (compareOp op) r) (d : BD T r g) (ha : QE X T E a ta wa) (hb : QE X T E b tb wb) (m : behindInMarks op b = false) : QT X T E (.Compare a [op] [b] pos) (tTest (tOp r ta tb)) (wCmp g wa wb) := ⟨pt_cmpR o ha.pe hb.pe m, td_cmp d ha.ed hb.ed⟩
def bod (g : D → D → (Bool → Prop) → Prop) : D → D → (R → Prop) → Prop := fun d e Ψ => g d e fun b => Ψ (.val (.bl b))
theorem q_cmp {op : CmpOp} {r : L2.R2} {g : D → D → (Bool → Prop) → Prop} (o : OpR X (compareOp op) r) (d : BD T r g) (ha : QE X T E a ta wa) (hb : QE X T E b tb wb) (m : behindInMarks op b = false) : QE X T E (.Compare a [op] [b] pos) (tOp r ta tb) (wOp (bod g) wa wb) := ⟨pe_cmpR o ha.pe hb.pe m, ed_op d.od ha.ed hb.ed⟩
theorem q_tv (h : QE X T E e t w) (he : plainTest e = true) : QT X T E e (tB t) (wB w) := ⟨pt_v h.pe he, td_b h.ed⟩
theorem q_tnot (h : QT X T E e t1 w1) : QT X T E (.UnaryOp .Not e pos) (tNot t1) (wNot w1) := ⟨pt_not h.pe, td_not h.ed⟩
theorem q_or1 (h : QT X T E e t1 w1) : QW X T E (.BoolOp .Or [e] pos) t1 w1 := ⟨pw_or1 h.pe, h.ed⟩
theorem q_or (h : QT X T E a t1 w1) (h' : QW X T E (.BoolOp .Or (b :: es) pos) t2 w2) : QW X T E (.BoolOp .Or (a :: b :: es) pos) (tOr t1 t2) (wOr w1 w2) := ⟨pw_or h.pe h'.pe, td_or h.ed h'.ed⟩
theorem QW.tst (h : QW X T E e t1 w1) : QT X T E e t1 w1 := ⟨h.pe.pt, h.ed⟩
theorem q_one {op : BoolOp} (h : QE X T E a t w) : QE X T E (.BoolOp op [a] pos) t w := ⟨pe_one h.pe, h.ed⟩
theorem q_andV (h : QE X T E a ta wa) (h' : QE X T E (.BoolOp .And (b :: es) pos) tb wb) : QE X T E (.BoolOp .And (a :: b :: es) pos) (tAndV ta tb) (wAndV wa wb) := ⟨pe_and h.pe h'.pe, ed_and h.ed h'.ed⟩
theorem q_notV (h : QE X T E a ta wa) : QE X T E (.UnaryOp .Not a pos) (tNotV ta) (wNotV wa) := ⟨pe_not h.pe, ed_not h.ed⟩
theorem q_nil : QA X T E [] tNil wANil := ⟨pa_nil, ad_nil⟩
theorem q_cons (h : QE X T E e t w) (h' : QA X T E es tA wA) (hs : isStar e = false) : QA X T E (e :: es) (tCons t tA) (wACons w wA) := ⟨pa_c h.pe h'.pe hs, ad_cons h.ed h'.ed⟩
theorem q_tup {k} (h : QA X T E es tA wA) : QE X T E (.Tuple es k pos) (tTup tA) (wTup wA) := ⟨pe_tup h.pe, ed_tup h.ed⟩
theorem q_lst (h : QA X T E es tA wA) : QE X T E (.List es pos) (tLst tA) (wLst wA) := ⟨pe_lst h.pe, ed_lst h.ed⟩
theorem q_o0 : QO X T E none tNoPart wNoP := ⟨po_none, oo_none⟩
theorem q_o1 (h : QE X T E e t w) : QO X T E (some e) (tPart t) (wPrt w) := ⟨po_some h.pe, oo_some h.ed⟩
theorem q_sl {lo hi : Option Expr} {tl th : TO} {wl wh : WO} {p2 : Pos} {r : V → Option Int → Option Int → Hp → VK → Prop} {g : D → Option Int → Option Int → (R → Prop) → Prop} (o : SlR X r) (d : LD T r g) (h : QE X T E e t w) (hl : QO X T E lo tl wl) (hh : QO X T E hi th wh) :
    QE X T E (.Subscript e (.Slice lo hi none p2) pos) (tSl r t tl th) (wSl g w wl wh) := ⟨pe_slice o h.pe hl.pe hh.pe, ed_sl d h.ed hl.ed hh.ed⟩
theorem q_cB {id : String} {r : List V → Hp → VK → Prop} {g : List D → (R → Prop) → Prop} {p : Pos} (hc : CallR X (.builtin id) r) (d : CD T r g) (hg : Gl X x) (hm : X.mg x = none) (hv : bootBuiltins x = some (.builtin id)) (ha : QA X T E (e :: es) tA wA) (hn : x ≠ "__name__") (hdb : (x == ("__debug__" : Str)) = false)
    (hs : (e :: es).any isStar = false) : QE X T E (.Call (.Name x p) (e :: es) [] pos) (tCB r tA) (wCB g wA) := ⟨pe_cB hc hg hm hv ha.pe hn hdb hs, ed_cb d ha.ed⟩
theorem q_cT {id : String} {r : List V → Hp → VK → Prop} {g : List D → (R → Prop) → Prop} {p : Pos} (hc : CallR X (.type id) r) (d : CD T r g) (hg : Gl X x) (hm : X.mg x = none) (hv : bootBuiltins x = some (.type id)) (ha : QA X T E (e :: es) tA wA) (hn : x ≠ "__name__") (hdb : (x == ("__debug__" : Str)) = false)
    (hs : (e :: es).any isStar = false) : QE X T E (.Call (.Name x p) (e :: es) [] pos) (tCB r tA) (wCB g wA) := ⟨pe_cT hc hg hm hv ha.pe hn hdb hs, ed_cb d ha.ed⟩
theorem q_call {j k : Nat} {ps : List Str} {io' : Bool} {wf : WF} {p : Pos} {CX : CXT} (C : Cal X.prog X.w X.K X.mg X.base CX j x ps (spD T io' wf)) (hr : Room k X.A) (hx : Passes CX X E) (ha : QA X T E (e :: es) tA wA) (hg : Gl X x) (hj : j ≤ k) (hdb : (x == ("__debug__" : Str)) = false) (hs : (e :: es).any isStar = false) :
    QE X T E (.Call (.Name x p) (e :: es) [] pos) (tCall (spD T io' wf) [] E tA) (wCall io' wf wA) := ⟨pe_callC C hr hx ha.pe hg hj hdb hs, ed_call ha.ed⟩
theorem q_app {i : Nat} {o : Expr} {apos : Pos} (ho : PE X o (tVar i)) (h : QE X T E e te we) (hb : attributeBase o "append" X.env (eval o X.env) = eval o X.env) (hl : (apos.endLine == pos.line) = true) (hs : isStar e = false) (hK : X.K = T.K) :
    QE X T E (.Call (.Attribute o "append" apos) [e] [] pos) (tBM T.K "list" rAppend (tVar i) (tCons te tNil)) (wApp i we) :=
  ⟨hK ▸ pe_bm PySem.F.plainAttrs_list PySem.F.slot_list_append PySem.F.type_list_append mt_append ho (pa_c h.pe pa_nil hs) hb (by
    rw [star_cons hs]
    rfl) hl (star_cons hs) rfl, ed_app h.ed⟩
theorem q_join {o : Expr} {apos : Pos} (ho : QE X T E o to wo) (h : QE X T E e te we) (hs : isStar e = false) (hb : attributeBase o "join" X.env (eval o X.env) = eval o X.env) (hl : (apos.endLine == pos.line) = true) (hK : X.K = T.K) : QE X T E (.Call (.Attribute o "join" apos) [e] [] pos) (tM1 (fun x xs H Q => ∃ a p, ∃ ys : List Str, x = .str a ∧ xs = [.ref p] ∧ (SqL T.K H p (ys.map V.str) ∨ SqT T.K H p (ys.map V.str)) ∧ (ys.map (·.length)).sum + ys.length * a.length ≤ 16777216 ∧ Q (.str (Txt.join a ys)) H) to te) (wM1 dJoin wo we) :=
  ⟨hK ▸ pe_join ho.pe h.pe (star_cons hs) hb hl, ed_m1 md_join ho.ed h.ed⟩
theorem q_t0 : QTs X T E [] tYes (fun Γ Ψ _ => Ψ true Γ) := ⟨pts_nil, fun F σ H Γ Q Ψ Ξ p h x k => k F H Γ _ h p.refl⟩
theorem q_t1 (h : QT X T E e t1 w1) : QTs X T E [e] t1 w1 := ⟨pts_one h.pe, h.ed⟩
variable {tg iter elt : Expr} {ifs : List Expr} {scope : Scope} {own : List (Str × Nat)} {wi : TI} {wI : WI} {g : TG} {wg : WG} {gs : TGs} {wgs : WGs} {tt : TT} {wt : WT} {vs : List Nat}
theorem q_lc (hc : X.calm = true) (hN : X.N.Nodup) (hi : QI X T E tg iter wi wI) (ok : BlkOk X.N X.env.scope scope own)
    (hg : ∀ (s : Shared) (H : Hp) (C : Addr) (cl : List (Str × Addr)) (fp : List Addr), QC (X.blk s H scope (compEnvC scope cl C X.env) fp) T (own.map (·.2)) tg g wg)
    (ht : ∀ (s : Shared) (H : Hp) (C : Addr) (cl : List (Str × Addr)) (fp : List Addr), QTs (X.blk s H scope (compEnvC scope cl C X.env) fp) T E0 ifs tt wt)
    (he : ∀ (s : Shared) (H : Hp) (C : Addr) (cl : List (Str × Addr)) (fp : List Addr), QE (X.blk s H scope (compEnvC scope cl C X.env) fp) T E0 elt te we) (hs : ∀ x, foldedSetIterable iter X.env x = pure x) :
    QE X T E (.ListComp elt [⟨tg, iter, ifs, 0⟩] scope pos) (tLc wi g tt te (own.map (·.2))) (wLc wI wg wt we (own.map (·.2))) :=
  ⟨pe_lc hc hN hi.pe ok (fun s H C cl fp => (hg s H C cl fp).pe) (fun s H C cl fp => (ht s H C cl fp).pe) (fun s H C cl fp => (he s H C cl fp).pe) hs,
    ed_lc hi.ed (hg X.s_0 (fun _ => none) 0 [] []).ed (ht X.s_0 (fun _ => none) 0 [] []).ed (he X.s_0 (fun _ => none) 0 [] []).ed⟩
theorem q_cn {i : Nat} (h : PG X (.Name x pos) (gName i)) (hi : i ∈ vs) : QC X T vs (.Name x pos) (gName i) (wgName i) := ⟨h, cg_name hi⟩
theorem q_il (hK : X.K = T.K) (h : QE X T E e t w) : QI X T E tg e (iList T.K t) (wIList w) := ⟨hK ▸ pi_list h.pe, id_list h.ed⟩
theorem q_it (hK : X.K = T.K) (h : QE X T E e t w) : QI X T E tg e (iTup T.K t) (wITup w) := ⟨hK ▸ pi_tup h.pe, id_tup h.ed⟩
theorem q_ir1 {p : Pos} (hg : Gl X "range") (hm : X.mg "range" = none) (ha : QA X T E [a] tA wA) (hs : isStar a = false) : QI X T E tg (.Call (.Name "range" p) [a] [] pos) (iRng1 tA) (wIRng1 wA) := ⟨pi_range1 hg hm ha.pe (star_cons hs), id_rng1 ha.ed⟩
theorem q_ie {p tpos : Pos} {elts : List Expr} {kk : Nat} (hK : X.K = T.K) (hg : Gl X "enumerate") (hm : X.mg "enumerate" = none) (ha : QA X T E [a] tA wA) (hs : isStar a = false) : QI X T E (.Tuple elts kk tpos) (.Call (.Name "enumerate" p) [a] [] pos) (iEnum T.K tA) (wIEnum wA) := ⟨hK ▸ pi_enum hg hm ha.pe (star_cons hs), id_enum ha.ed⟩
theorem q_gn {i : Nat} (h : PG X (.Name x pos) (gName i)) (hi : i ≠ 0 ∨ io = false) : QG X T io (.Name x pos) (gName i) (wgName i) := ⟨h, gd_name hi⟩
theorem q_g0 : QGs X T io [] gNil wgNil := ⟨pgs_nil, gd_nil⟩
theorem q_g1 (h : QG X T io e g wg) (h' : QGs X T io es gs wgs) (hs : (assignEach (e :: es) X.env).map (·.2) = assign e X.env :: (assignEach es X.env).map (·.2)) : QGs X T io (e :: es) (gCons g gs) (wgCons wg wgs) := ⟨pgs_cons h.pe h'.pe hs, gd_cons h.ed h'.ed⟩
theorem q_gt {n k : Nat} (hK : X.K = T.K) (hc : X.calm = true) (h : QGs X T io es gs wgs) (hn : (assignEach es X.env).length = n) (hst : (assignEach es X.env).findIdx? (·.1) = none) : QG X T io (.Tuple es k pos) (gTup T.K n gs) (wgTup n wgs) := ⟨hK ▸ pg_tup hc h.pe hn hst, gd_tup h.ed⟩
variable {st : Stmt} {sts as bs : List Stmt}
theorem q_s0 : QSs X T io E [] tNext wNext := ⟨pss_nil, sd_next⟩
theorem q_s1 (h : QS X T io E st s1 u1) : QSs X T io E [st] s1 u1 := ⟨pss_one h.pe, h.ed⟩
theorem q_sc (h : QS X T io E st s1 u1) (h' : QSs X T io E sts s2 u2) : QSs X T io E (st :: sts) (tSeq s1 s2) (wSeq u1 u2) := ⟨pss_cons h.pe h'.pe, sd_seq h.ed h'.ed⟩
theorem q_ret (h : QE X T E e t w) : QS X T io E (.Return (some e) pos) (tRet t) (wRet w) := ⟨ps_ret h.pe, sd_ret h.ed⟩
theorem q_drop (h : QE X T E e t w) (hs : swapsWith e none pos.line X.env = pure false) : QS X T io E (.Expr e pos) (tDrop t) (wDrop w) := ⟨ps_expr h.pe hs, sd_drop h.ed⟩
theorem q_ifS (h : QT X T E c t1 w1) (h1 : QSs X T io E as s1 u1) (h2 : QSs X T io E bs s2 u2) : QS X T io E (.If c as bs pos) (tIfS t1 s1 s2) (wIfS w1 u1 u2) := ⟨ps_if h.pe h1.pe h2.pe, sd_if h.ed h1.ed h2.ed⟩
theorem q_set {i : Nat} {pos' : Pos} (hN : X.N.Nodup) (hi : X.N[i]? = some x) (hx : L2.Loc X.env.scope x) (h : QE X T E e t w) (h0 : i ≠ 0 ∨ io = false) (hs : swapsWith e (some (.Name x pos')) pos.line X.env = pure false) (hf : X.fn x = true ∨ X.env.scope.names.lookup x = some .local) :
    QS X T io E (.Assign [.Name x pos'] e pos) (tAsg t (gName i)) (wSet i w) := ⟨ps_set hN hi hx h.pe hs hf, sd_set h.ed h0⟩
theorem q_setLc {i : Nat} {y : Str} {py spos : Pos} (hc : X.calm = true) (hN : X.N.Nodup) (hy : X.N[i]? = some y) (hyl : X.env.scope.names.lookup y = some .local) (h0 : i ≠ 0 ∨ io = false) (hsw : swapsWith (.ListComp elt [⟨tg, iter, ifs, 0⟩] scope pos) (some (.Name y py)) spos.line X.env = pure true)
    (hi : QI X T E tg iter wi wI) (ok : BlkOk X.N X.env.scope scope own)
    (hg : ∀ (s : Shared) (H : Hp) (C : Addr) (cl : List (Str × Addr)) (fp : List Addr), QC (X.blk s H scope (compEnvC scope cl C X.env) fp) T (own.map (·.2)) tg g wg)
    (ht : ∀ (s : Shared) (H : Hp) (C : Addr) (cl : List (Str × Addr)) (fp : List Addr), QTs (X.blk s H scope (compEnvC scope cl C X.env) fp) T E0 ifs tt wt)
    (he : ∀ (s : Shared) (H : Hp) (C : Addr) (cl : List (Str × Addr)) (fp : List Addr), QE (X.blk s H scope (compEnvC scope cl C X.env) fp) T E0 elt te we) (hs : ∀ x, foldedSetIterable iter X.env x = pure x) :
    QS X T io E (.Assign [.Name y py] (.ListComp elt [⟨tg, iter, ifs, 0⟩] scope pos) spos) (tAsg (tLc wi g tt te (own.map (·.2))) (gName i)) (wSet i (wLc wI wg wt we (own.map (·.2)))) :=
  ⟨ps_setLc hc hN hy hyl hsw hi.pe ok (fun s H C cl fp => (hg s H C cl fp).pe) (fun s H C cl fp => (ht s H C cl fp).pe) (fun s H C cl fp => (he s H C cl fp).pe) hs,
    sd_set (ed_lc hi.ed (hg X.s_0 (fun _ => none) 0 [] []).ed (ht X.s_0 (fun _ => none) 0 [] []).ed (he X.s_0 (fun _ => none) 0 [] []).ed) h0⟩
theorem q_asg (h : QE X T E e t w) (h' : QG X T io tg g wg) (hs : swapsWithSole [tg] e pos.line X.env = pure false) (hw : swappedStores [tg] e X.env = pure none) (h1 : (assignEach [tg] X.env).map (·.2) = [assign tg X.env]) :
    QS X T io E (.Assign [tg] e pos) (tAsg t g) (wAsg w wg) := ⟨ps_asg h.pe h'.pe hs hw h1, sd_asg h.ed h'.ed⟩
theorem q_putAt {i : Nat} {o k : Expr} {tk : TE} {wk : WE} {pos' : Pos} (ho : PE X o (tVar i)) (h : QE X T E e t w) (hk : QE X T E k tk wk) (hs : swapsWithSole [.Subscript o k pos'] e pos.line X.env = pure false) (hw : swappedStores [.Subscript o k pos'] e X.env = pure none) (h1 : (assignEach [.Subscript o k pos'] X.env).map (·.2) = [assign (.Subscript o k pos') X.env])
    (ha : ∀ v, assign (.Subscript o k pos') X.env v = (do
      let ov ← holding [v] (eval o X.env)
      let iv ← holding [v, ov] (eval k X.env)
      standAt pos'
      holding [v, ov, iv] (setItem ov iv v)
      release [v, ov, iv] [])) :
    QS X T io E (.Assign [.Subscript o k pos'] e pos) (tAsg t (gSub (tVar i) tk rSetL)) (wPutAt i w wk) := ⟨ps_asg h.pe (pg_sub ho hk.pe set_list ha) hs hw h1, sd_putAt h.ed hk.ed⟩
theorem q_par {i j : Nat} {x y : Str} {px py pt pt2 : Pos} {kt k2 : Nat} (hc : X.calm = true) (hN : X.N.Nodup) (hi : X.N[i]? = some x) (hj : X.N[j]? = some y) (hij : i ≠ j) (hx : X.env.scope.names.lookup x = some .local) (hy : X.env.scope.names.lookup y = some .local) (ha : QA X T E [a, b] tA wA) (h0 : (i ≠ 0 ∧ j ≠ 0) ∨ io = false)
    (hw : swappedStores [.Tuple [.Name x px, .Name y py] kt pt] (.Tuple [a, b] k2 pt2) X.env = pure (some [x, y])) (hs : swapsWithSole [.Tuple [.Name x px, .Name y py] kt pt] (.Tuple [a, b] k2 pt2) pos.line X.env = pure false) :
    QS X T io E (.Assign [.Tuple [.Name x px, .Name y py] kt pt] (.Tuple [a, b] k2 pt2) pos) (tPar i j tA) (wPar i j wA) := ⟨ps_par hc hN hi hj hij hx hy ha.pe hw hs, sd_par ha.ed h0⟩
theorem q_for (hp : PassesOwn (model X.prog X.w) X.A X.env X.xe) (hc : X.calm = true) (hi : QI X T E tg iter wi wI) (hg : QG X T io tg g wg) (hb : QSs X T io E bs s1 u1) (hf : ∀ x, foldedSetIterable iter X.env x = pure x) : QS X T io E (.For tg iter bs [] pos) (tFor wi g s1) (wFor wI wg u1) := ⟨ps_for hp hc hi.pe hg.pe hb.pe hf, sd_for hi.ed hg.ed hb.ed⟩
theorem q_while (hp : PassesOwn (model X.prog X.w) X.A X.env X.xe) (h : QT X T E c t1 w1) (hb : QSs X T io E bs s1 u1) : QS X T io E (.While c bs [] pos) (tWhile t1 s1) (wWhile w1 u1) := ⟨ps_while hp h.pe hb.pe, sd_while h.ed hb.ed⟩
end
def toN (io : Bool) (Γ : Gm) : R → Option R
  | .val d => some (.val d)
  | .new ds => some (.new ds)
  | .slot i => if io = true ∧ i = 0 then none else match Γ[i]? with
    | some (some (.own ds)) => some (.new ds)
    | some (some (.shr d)) => some (.val d)
    | _ => none
def retW (io : Bool) (Ψ : R → List D → Prop) (r : R) (Γ : Gm) : Prop := ∃ r', toN io Γ r = some r' ∧ match io with
  | true => ∃ row, Γ[0]? = some (some (.own row)) ∧ Ψ r' row
  | false => Ψ r' []
def endsW (io : Bool) (Ψ : R → List D → Prop) (Ξ : XD → Prop) : WEnds := { nx := fun Γ => retW io Ψ (.val .non) Γ, rt := fun r Γ => retW io Ψ r Γ, bk := fun _ => False, ct := fun _ => False, xe := Ξ }
def startW (io : Bool) (n : Nat) (ds row : List D) : Gm := match io with
  | true => some (.own row) :: (ds.map fun d => some (.shr d)) ++ List.replicate (n - (ds.length + 1)) none
  | false => (ds.map fun d => some (.shr d)) ++ List.replicate (n - ds.length) none
section
variable {K : PySem.W.Frag} {ts : List Addr} {ls : List (Addr × Pos × Str)} {io : Bool} {H F : Hp} {N : List Str} {vs : List V} {ds row : List D} {ra : Addr}
theorem shr_at : ∀ {ds : List D} {vs : List V} {n m : Nat} {i : Nat} {e : En}, RepA K F vs ds → ((ds.map fun d => some (En.shr d)) ++ List.replicate n none)[i]? = some (some e) → ∃ v d, (vs.map some ++ List.replicate m none)[i]? = some (some v) ∧ e = .shr d ∧ Rep K F v d
  | [], _, n, m, i, e, .nil, h => by
    simp only [List.map_nil, List.nil_append, List.getElem?_replicate] at h
    split at h <;> cases h
  | d :: ds, _, n, m, 0, e, .cons (v := v) r _, h => by
    simp at h
    exact ⟨v, d, by simp, h.symm, r⟩
  | d :: ds, _, n, m, i + 1, e, .cons r rr, h => by
    obtain ⟨v, d', h1, h2, h3⟩ := shr_at (m := m) (i := i) (e := e) rr (by simpa using h)
    exact ⟨v, d', by simpa using h1, h2, h3⟩
theorem start_ok {rv : List V} (o : Ok ⟨K, ts, ls⟩ F H) (hN : (if io then 1 else 0) + ds.length ≤ N.length) (r : RepA K F vs ds) (hr : io = true → H ra = some (.lst rv) ∧ F ra = none ∧ RepA K F rv row) :
    Rs ⟨K, ts, ls⟩ io H F ra F (start N (if io then .ref ra :: vs else vs)) H (startW io N.length ds row) := by
  have hl := r.length
  cases io with
  | false =>
    have at0 : ∀ (i : Nat) (e : En), (startW false N.length ds row)[i]? = some (some e) → ∃ v d, (start N vs)[i]? = some (some v) ∧ e = .shr d ∧ Rep K F v d := fun i e h => shr_at r h
    refine ⟨⟨o, ?_, fun i e h => ?_, fun i j es es' v h1 _ _ _ => ?_⟩, fun _ _ h => h, fun b u h _ _ => h, fun b ⟨i, es, h1, _⟩ => ?_, fun b u h => ⟨u, h⟩, fun b u h => .inl h, fun z => by cases z⟩
    · show ((ds.map fun d => some (En.shr d)) ++ List.replicate (N.length - ds.length) none).length = (vs.map some ++ List.replicate (N.length - vs.length) none).length
      simp [hl]
    · obtain ⟨v, d, h1, rfl, h3⟩ := at0 i e h
      exact ⟨v, h1, h3⟩
    · obtain ⟨_, _, _, z, _⟩ := at0 i _ h1
      cases z
    · obtain ⟨_, _, _, z, _⟩ := at0 i _ h1
      cases z
  | true =>
    obtain ⟨h1, h2, h3⟩ := hr rfl
    have at0 : ∀ (i : Nat) (e : En), (startW true N.length ds row)[i]? = some (some e) → (i = 0 ∧ e = .own row) ∨ ∃ v d, (start N (.ref ra :: vs))[i]? = some (some v) ∧ e = .shr d ∧ Rep K F v d := fun i e h => by
      cases i with
      | zero => exact .inl ⟨rfl, by simpa [startW] using h.symm⟩
      | succ i =>
        obtain ⟨v, d, g1, g2, g3⟩ := shr_at (m := N.length - (vs.length + 1)) (i := i) (e := e) r (by simpa [startW] using h)
        exact .inr ⟨v, d, by simpa [L2.start] using g1, g2, g3⟩
    have z0 : (start N (.ref ra :: vs))[0]? = some (some (.ref ra)) := by simp [L2.start]
    refine ⟨⟨o, ?_, fun i e h => ?_, fun i j es es' v g1 g2 _ _ => ?_⟩, fun _ _ h => h, fun b u h _ _ => h, fun b ⟨i, es, g1, g2⟩ => ?_, fun b u h => ⟨u, h⟩, fun b u h => .inl h, fun _ => z0⟩
    · show (some (En.own row) :: (ds.map fun d => some (En.shr d)) ++ List.replicate (N.length - (ds.length + 1)) none).length = ((V.ref ra :: vs).map some ++ List.replicate (N.length - (V.ref ra :: vs).length) none).length
      simp [hl]
    · rcases at0 i e h with ⟨rfl, rfl⟩ | ⟨v, d, g1, rfl, g3⟩
      · exact ⟨_, z0, ra, rv, rfl, h1, h2, h3⟩
      · exact ⟨v, g1, g3⟩
    · rcases at0 i _ g1 with ⟨rfl, _⟩ | ⟨_, _, _, z, _⟩
      · rcases at0 j _ g2 with ⟨rfl, _⟩ | ⟨_, _, _, z, _⟩
        · rfl
        · cases z
      · cases z
    · rcases at0 i _ g1 with ⟨rfl, _⟩ | ⟨_, _, _, z, _⟩
      · have g2' : (start N (.ref ra :: vs))[0]? = some (some (.ref b)) := g2
        rw [z0] at g2'
        cases g2'
        exact .inl ⟨rfl, rfl⟩
      · cases z
theorem ends_ok {Q : VK} {E E' : XK} {Ψ : R → List D → Prop} {Ξ : XD → Prop} (k : ∀ F' H' v r row', Ψ r row' → Fx ⟨K, ts, ls⟩ io ra F H F' H' → (io = true → ∃ rv', H' ra = some (.lst rv') ∧ F' ra = none ∧ RepA K F' rv' row') → RepN ⟨K, ts, ls⟩ F' H H' v r → Q v H')
    (x : ∀ F' H' xd, Ξ xd → Fx ⟨K, ts, ls⟩ io ra F H F' H' → XE ⟨K, ts, ls⟩ F' H' E xd) : EO ⟨K, ts, ls⟩ io H F ra E { nx := fun _ H' => Q .non H', rt := Q } (endsW io Ψ Ξ) := by
  have fx : ∀ {F' H' : Hp} {σ : L2.St} {Γ : Gm}, Rs ⟨K, ts, ls⟩ io H F ra F' σ H' Γ → Fx ⟨K, ts, ls⟩ io ra F H F' H' := fun {F' H' σ Γ} s => ⟨s.rp.toOk, s.ff, s.en, s.gro, s.nf⟩
  have ret : ∀ {F' H' : Hp} {σ : L2.St} {Γ : Gm} {v : V} {r : R}, retW io Ψ r Γ → Rs ⟨K, ts, ls⟩ io H F ra F' σ H' Γ → RepR ⟨K, ts, ls⟩ F' σ H' Γ H v r → Q v H' := fun {F' H' σ Γ v r} h s e => by
    obtain ⟨r', hr, hp⟩ := h
    have row' : ∃ row', Ψ r' row' ∧ (io = true → Γ[0]? = some (some (.own row'))) := by
      cases io with
      | true => obtain ⟨row, h1, h2⟩ := hp; exact ⟨row, h2, fun _ => h1⟩
      | false => exact ⟨[], hp, fun z => by cases z⟩
    obtain ⟨row', hΨ, h0⟩ := row'
    have at0 : io = true → ∃ rv', H' ra = some (.lst rv') ∧ F' ra = none ∧ RepA K F' rv' row' := fun z => by
      obtain ⟨u, e1, a, us, e2, ha, fa, rr⟩ := s.rp.at_ 0 _ (h0 z)
      rw [s.par z] at e1
      cases e1
      cases e2
      exact ⟨us, ha, fa, rr⟩
    refine k F' H' v r' row' hΨ (fx s) at0 ?_
    cases r with
    | val d => cases hr; exact e
    | new es => cases hr; obtain ⟨a, us, e1, e2, e3, e4, e5, _⟩ := e; exact ⟨a, us, e1, e2, e3, e4, e5⟩
    | slot i =>
      simp only [toN] at hr
      split at hr
      · cases hr
      rename_i hio
      obtain ⟨e1, en, e2⟩ := e
      rw [e2] at hr
      obtain ⟨u, e3, re⟩ := s.rp.at_ i en e2
      rw [e1] at e3
      cases e3
      cases en with
      | shr d => cases hr; exact re
      | own es =>
        cases hr
        obtain ⟨a, us, rfl, ha, fa, rr⟩ := re
        refine ⟨a, us, rfl, ha, fa, ?_, rr⟩
        rcases s.fr a ⟨i, es, e2, e1⟩ with ⟨z, rfl⟩ | z
        · exact absurd ⟨z, s.rp.apart i 0 es row' _ e2 (h0 z) e1 (s.par z)⟩ hio
        · exact z
  exact ⟨fun F' σ H' Γ h s => ret h s Rep.non, fun F' σ H' Γ h s => h.elim, fun F' σ H' Γ h s => h.elim, fun F' σ H' Γ v r h s e => ret h s e, fun F' σ H' Γ xd h s => x F' H' xd h (fx s)⟩
end
section
variable {P : Program} {wd : World} {K : PySem.W.Frag} {mg : Str → Option Value} {base : Heap} {x qual : Str} {st : Stmt} {f : Addr} {fd : FuncData} {N ps : List Str} {k : Nat} {ts : List Addr} {ls : List (Addr × Pos × Str)} {io : Bool} {wf : WF} {w : WS}
theorem spD_len {vs : List V} {H : Hp} {Q : VK} {E : XK} (hl : ∀ ds row Ψ Ξ, wf ds row Ψ Ξ → (if io then 1 else 0) + ds.length = ps.length) (h : spD ⟨K, ts, ls⟩ io wf vs H Q E) : vs.length = ps.length := by
  obtain ⟨F, ra, rv, row, vs', ds, Ψ, Ξ, o, rfl, hr, r, hw, _⟩ := h
  rw [← hl ds row Ψ Ξ hw, ← r.length]
  cases io <;> simp <;> omega
theorem fn_d (F : Fun K x qual st f fd) (S : FnScope N ps (defScope st)) (hn : ps.length ≤ N.length) (hl : ∀ ds row Ψ Ξ, wf ds row Ψ Ξ → (if io then 1 else 0) + ds.length = ps.length)
    (hw : ∀ ds row Ψ Ξ, wf ds row Ψ Ξ → w (endsW io Ψ fun _ => False) (startW io N.length ds row))
    (hb : ∀ (cdv : Value) (A : Around) (outer : List Env) (s : Shared) (H : Hp) (E : XK), Room k (A.deeper (envOfC qual (defScope st) s.heap.objs.size f cdv)) → ∃ t, QSs (cxOf (CXE P wd) P wd K mg base N qual (defScope st) f cdv A outer s H E).nox ⟨K, ts, ls⟩ io E0 (defBody st) t w) :
    FnOk P wd K mg base (CXE P wd) (k + 1) f fd ps (spD ⟨K, ts, ls⟩ io wf) := by
  refine Fun.okT F S (fun vs H Q E h => spD_len hl h) fun cdv A outer s H vs Q E hr h => ?_
  obtain ⟨t, q⟩ := hb cdv A outer s H E hr
  obtain ⟨F0, ra, rv, row, vs', ds, Ψ, Ξ, o, rfl, hrow, r, hwf, kk, kx⟩ := h
  refine ⟨t, q.pe, ?_⟩
  exact q.ed H F0 ra F0 _ H _ _ _ (start_ok o (by rw [hl ds row Ψ Ξ hwf]; exact hn) r hrow) (hw ds row Ψ Ξ hwf) (ends_ok (E' := E0) kk fun _ _ _ z => z.elim)
end
end Dt
set_option Elab.async false
set_option linter.all false
set_option maxRecDepth 100000
set_option autoImplicit false
namespace Dt
open PySem PySem.Spec L2 Kx PyProof.Rows
abbrev dAdd := dI0 fun i j => i + j
abbrev dSub := dI0 fun i j => i - j
abbrev dMul := dI CMulB fun i j => i * j
abbrev dDiv := dI CDivP fun i j => i / j
abbrev dDivB := dI CDivB fun i j => i.fdiv j
abbrev dMod := dI (fun _ j => 0 < j) fun i j => i % j
abbrev dPow := dI CPow fun i j => i ^ j.toNat
abbrev bLt := bI fun i j => decide (i < j)
abbrev bLe := bI fun i j => decide (i ≤ j)
abbrev bGt := bI fun i j => decide (j < i)
abbrev bGe := bI fun i j => decide (j ≤ i)
abbrev dAbs := d1I fun i => if i < 0 then -i else i
abbrev dMax2 := d2I fun i j => if j > i then j else i
abbrev dMin2 := d2I fun i j => if j < i then j else i
abbrev dNeg : D → (R → Prop) → Prop := fun d Ψ => ∃ i, d = .int i ∧ Ψ (.val (.int (-i)))
section
variable {T : Tb}
theorem od_add : OD T (rI0 fun i j => .int (i + j)) dAdd := od_I0
theorem od_sub : OD T (rI0 fun i j => .int (i - j)) dSub := od_I0
theorem od_mul : OD T (rI CMulB fun i j => .int (i * j)) dMul := od_I
theorem od_div : OD T (rI CDivP fun i j => .int (i / j)) dDiv := od_I
theorem od_divB : OD T (rI CDivB fun i j => .int (i.fdiv j)) dDivB := od_I
theorem od_mod : OD T (rI (fun _ j => 0 < j) fun i j => .int (i % j)) dMod := od_I
theorem od_pow : OD T (rI CPow fun i j => .int (i ^ j.toNat)) dPow := od_I
theorem bd_lt : BD T (rI0 fun i j => .bl (decide (i < j))) bLt := bd_I
theorem bd_le : BD T (rI0 fun i j => .bl (decide (i ≤ j))) bLe := bd_I
theorem bd_gt : BD T (rI0 fun i j => .bl (decide (j < i))) bGt := bd_I
theorem bd_ge : BD T (rI0 fun i j => .bl (decide (j ≤ i))) bGe := bd_I
theorem cd_abs : CD T (fun xs H Q => ∃ i, xs = [.int i] ∧ Q (.int (if i < 0 then -i else i)) H) dAbs := cd_1I
theorem cd_max2 : CD T (fun xs H Q => ∃ i j, xs = [.int i, .int j] ∧ Q (.int (if j > i then j else i)) H) dMax2 := cd_2I
theorem cd_min2 : CD T (fun xs H Q => ∃ i j, xs = [.int i, .int j] ∧ Q (.int (if j < i then j else i)) H) dMin2 := cd_2I
def D.isN : D → Bool
  | .non => true
  | _ => false
def bIsN (f : Bool → Bool) : D → D → (Bool → Prop) → Prop := fun d e Ψ => e = .non ∧ Ψ (f d.isN)
theorem law_sp {K : PySem.W.Frag} {ts : List Addr} {ls : List (Addr × Pos × Str)} {wf : WF} {H : Hp} {a : Addr} {ns : List Int} (hw : ns.length ≤ 63 → wf [.scr (ns.map .int)] [] (fun r _ => r = .val (.bl true)) fun _ => False) (hl : ns.length ≤ 63) (hT : ∀ P ∈ ts, Tab H P) (hL : ∀ p ∈ ls, TabL H p.1 p.2.1 p.2.2) (hS : SqL K H a (ns.map V.int)) (hN : ∀ b ps, H b = some (.tbl ps) → b ≠ a) :
    spD ⟨K, ts, ls⟩ false wf [.ref a] H (fun v _ => v = .bl true) fun _ _ _ => False := by
  refine ⟨fun b => match H b with | some (.tbl _) => none | o => o, 0, [], [], [.ref a], [.scr (ns.map .int)], _, _, ⟨fun b o h => ?_, fun b o h => ?_, hT, hL⟩, rfl, (fun z => by cases z), .cons (.scr ?_ RepA.ofInts) .nil, hw hl, fun F' H' v r row' hr _ _ e => ?_, fun _ _ _ z => z.elim⟩
  · skip
    split at h
    · cases h
    · exact h
  · skip
    split at h
    · cases h
    · rename_i hne
      intro ps z
      subst z
      exact hne ps h
  · have key : ∀ o, H a = some o → (∀ ps, o ≠ .tbl ps) → (match H a with | some (.tbl _) => (none : Option HO) | o => o) = some o := fun o h n => by
      rw [h]
      cases o <;> first | rfl | exact absurd rfl (n _)
    rcases hS with (h | ⟨o, h⟩) | h
    · exact .inl (.inl (key _ h (fun _ z => by cases z)))
    · exact .inl (.inr ⟨o, key _ h (fun _ z => by cases z)⟩)
    · exact .inr h
  · subst hr
    cases e
    rfl
end
end Dt
set_option Elab.async false
set_option linter.all false
set_option maxRecDepth 100000
set_option autoImplicit false
namespace Dt
open PySem L2 Kx
theorem ix0 {x : D} {xs : List D} : atI (x :: xs) 0 = some x := by
  unfold atI ixN
  simp
theorem ix1 {x y : D} {xs : List D} : atI (x :: y :: xs) 1 = some y := by
  unfold atI ixN
  simp only [List.length_cons]
  rw [if_pos (by decide), if_pos (by omega)]
  rfl
theorem at_in {ds : List D} {v : Int} (h0 : 0 ≤ v) (h1 : v < ds.length) : ∃ z, z ∈ ds ∧ atI ds v = some z := by
  have hk : v.toNat < ds.length := by omega
  refine ⟨ds[v.toNat], List.getElem_mem hk, ?_⟩
  exact (congrArg (atI ds) (show v = ((v.toNat : Nat) : Int) by omega)).trans (atI_nat (List.getElem?_eq_getElem hk))
def RowD (N : Int) (row : List D) : Prop := ∃ a n : Int, row = [.int a, .int n] ∧ 0 ≤ n ∧ n ≤ N
theorem RowD.mono {M N : Int} {row : List D} (h : RowD M row) (l : M ≤ N) : RowD N row := let ⟨a, n, e, h0, h1⟩ := h; ⟨a, n, e, h0, by omega⟩
def wf__law_cell_at : WF := fun ds row Ψ Ξ => ∃ (ns : List Int) (k : Int), ds = [.scr (ns.map .int), .int k] ∧ 0 ≤ k ∧ ∀ v : Int, Ψ (.val (.int v)) []
def wf__law_take : WF := fun ds row Ψ Ξ => ∃ (b N : Int), ds = [.int b] ∧ RowD N row ∧ N < 2 ^ 60 ∧ 0 < b ∧ b < 2 ^ 60 ∧ ∀ v row', 0 ≤ v → v < b → RowD (N + 1) row' → Ψ (.val (.int v)) row'
end Dt
namespace Dt
open PySem L2 Kx
section
variable {Γ : Gm} {d e : D} {ds : List D} {i j : Int} {n : Nat} {Ψ : R → Prop} {Ψb : Bool → Prop} {f : Int → Int → Int} {fb : Int → Int → Bool} {C : Int → Int → Prop} {k : Gm → Prop} {xs ys : List D} {x y : Str}
theorem hold_val : R.hold (.val d) = .val d := rfl
theorem hold_new : R.hold (.new ds) = .val (.lst ds) := rfl
theorem hold_slot : R.hold (.slot n) = .slot n := rfl
theorem I0_int : dI0 f (.int i) (.int j) Ψ = Ψ (.val (.int (f i j))) := propext ⟨fun ⟨_, _, e1, e2, h⟩ => by cases e1; cases e2; exact h, fun h => ⟨_, _, rfl, rfl, h⟩⟩
theorem I_int : dI C f (.int i) (.int j) Ψ = (C i j ∧ Ψ (.val (.int (f i j)))) := propext ⟨fun ⟨_, _, e1, e2, h⟩ => by cases e1; cases e2; exact h, fun h => ⟨_, _, rfl, rfl, h⟩⟩
theorem B_int : bI fb (.int i) (.int j) Ψb = Ψb (fb i j) := propext ⟨fun ⟨_, _, e1, e2, h⟩ => by cases e1; cases e2; exact h, fun h => ⟨_, _, rfl, rfl, h⟩⟩
theorem bod_eq {g : D → D → (Bool → Prop) → Prop} : bod g d e Ψ = g d e fun b => Ψ (.val (.bl b)) := rfl
theorem sc_int {f : Bool → Bool} : bSc f (.int i) (.int j) Ψb = Ψb (f (decide (i = j))) := propext ⟨fun ⟨_, e1, h⟩ => by cases e1; exact h, fun h => ⟨_, rfl, h⟩⟩
theorem sc_str {f : Bool → Bool} : bSc f (.str x) (.str y) Ψb = Ψb (f (decide (x = y))) := propext ⟨fun ⟨_, e1, h⟩ => by cases e1; exact h, fun h => ⟨_, rfl, h⟩⟩
theorem sc_bl {f : Bool → Bool} {a b : Bool} : bSc f (.bl a) (.bl b) Ψb = Ψb (f (decide (a = b))) := propext ⟨fun ⟨_, e1, h⟩ => by cases e1; exact h, fun h => ⟨_, rfl, h⟩⟩
theorem ix_lst : dIx (.lst ds) (.int i) Ψ = ∃ z, atI ds i = some z ∧ Ψ (.val z) := propext ⟨fun ⟨_, _, z, e1, e2, h⟩ => by rcases e1 with e1 | e1 <;> cases e1; cases e2; exact ⟨z, h⟩, fun ⟨z, h⟩ => ⟨_, _, z, .inl rfl, rfl, h⟩⟩
theorem ix_scr : dIx (.scr ds) (.int i) Ψ = ∃ z, atI ds i = some z ∧ Ψ (.val z) := propext ⟨fun ⟨_, _, z, e1, e2, h⟩ => by rcases e1 with e1 | e1 <;> cases e1; cases e2; exact ⟨z, h⟩, fun ⟨z, h⟩ => ⟨_, _, z, .inr rfl, rfl, h⟩⟩
theorem ix_tup : dIx (.tup ds) (.int i) Ψ = ∃ z, atI ds i = some z ∧ Ψ (.val z) := propext ⟨fun ⟨_, _, z, e1, e2, h⟩ => by cases e1; cases e2; exact ⟨z, h⟩, fun ⟨z, h⟩ => ⟨_, _, z, rfl, rfl, h⟩⟩
theorem ix_str : dIx (.str x) (.int i) Ψ = (x.length ≤ sizeLine ∧ ∃ c, atI x.cps.toList i = some c ∧ Ψ (.val (.str ⟨#[c]⟩))) := propext ⟨fun ⟨_, _, c, e1, e2, h1, h⟩ => by cases e1; cases e2; exact ⟨h1, c, h⟩, fun ⟨h1, c, h⟩ => ⟨_, _, c, rfl, rfl, h1, h⟩⟩
theorem len_lst : dLen [.lst ds] Ψ = Ψ (.val (.int (ds.length : Nat))) := propext ⟨fun ⟨_, e, h⟩ => by rcases e with e | e | e <;> cases e; exact h, fun h => ⟨_, .inl rfl, h⟩⟩
theorem len_tup : dLen [.tup ds] Ψ = Ψ (.val (.int (ds.length : Nat))) := propext ⟨fun ⟨_, e, h⟩ => by rcases e with e | e | e <;> cases e; exact h, fun h => ⟨_, .inr (.inl rfl), h⟩⟩
theorem len_scr : dLen [.scr ds] Ψ = Ψ (.val (.int (ds.length : Nat))) := propext ⟨fun ⟨_, e, h⟩ => by rcases e with e | e | e <;> cases e; exact h, fun h => ⟨_, .inr (.inr rfl), h⟩⟩
theorem len_str : dLenS [.str x] Ψ = (x.length ≤ sizeLine ∧ Ψ (.val (.int (x.length : Nat)))) := propext ⟨fun ⟨_, e, h⟩ => by cases e; exact h, fun h => ⟨_, rfl, h⟩⟩
theorem one_int {f : Int → Int} : d1I f [.int i] Ψ = Ψ (.val (.int (f i))) := propext ⟨fun ⟨_, e, h⟩ => by cases e; exact h, fun h => ⟨_, rfl, h⟩⟩
theorem two_int : d2I f [.int i, .int j] Ψ = Ψ (.val (.int (f i j))) := propext ⟨fun ⟨_, _, e, h⟩ => by cases e; exact h, fun h => ⟨_, _, rfl, h⟩⟩
theorem isi_eq {T : String} : dIsi [d, .ty T] Ψ = ∃ b, d.isi T = some b ∧ Ψ (.val (.bl b)) := propext ⟨fun ⟨_, _, b, e, h⟩ => by cases e; exact ⟨b, h⟩, fun ⟨b, h⟩ => ⟨_, _, b, rfl, h⟩⟩
theorem in_tup {neg : Bool} : bIn neg d (.tup ds) Ψb = (d.flat = true ∧ ds.all D.flat = true ∧ Ψb (if neg then !inV d.v (ds.map D.v) else inV d.v (ds.map D.v))) := propext ⟨fun ⟨_, e, h⟩ => by rcases e with e | e <;> cases e; exact h, fun h => ⟨_, .inr rfl, h⟩⟩
theorem in_lst {neg : Bool} : bIn neg d (.lst ds) Ψb = (d.flat = true ∧ ds.all D.flat = true ∧ Ψb (if neg then !inV d.v (ds.map D.v) else inV d.v (ds.map D.v))) := propext ⟨fun ⟨_, e, h⟩ => by rcases e with e | e <;> cases e; exact h, fun h => ⟨_, .inl rfl, h⟩⟩
theorem addS_str : dAddS (.str x) (.str y) Ψ = (x.length + y.length ≤ sizeLine ∧ Ψ (.val (.str (x ++ y)))) := propext ⟨fun ⟨_, _, e1, e2, h⟩ => by cases e1; cases e2; exact h, fun h => ⟨_, _, rfl, rfl, h⟩⟩
theorem cat_lst : dCat (.lst xs) (.lst ys) Ψ = (xs.length + ys.length ≤ sizeLine ∧ Ψ (.new (xs ++ ys))) := propext ⟨fun ⟨_, _, e1, e2, h⟩ => by cases e1; cases e2; exact h, fun h => ⟨_, _, rfl, rfl, h⟩⟩
theorem neg_int : (∃ i', D.int i = D.int i' ∧ Ψ (.val (.int (-i')))) = Ψ (.val (.int (-i))) := propext ⟨fun ⟨_, e, h⟩ => by cases e; exact h, fun h => ⟨_, rfl, h⟩⟩
theorem ix2 {x y z : D} : atI (x :: y :: z :: xs) 2 = some z := by
  unfold atI ixN
  simp only [List.length_cons]
  rw [if_pos (by decide), if_pos (by omega)]
  rfl
theorem list_lst : dList [.lst ds] Ψ = Ψ (.new ds) := propext ⟨fun ⟨_, _, e, e1, h⟩ => by cases e; rcases e1 with e1 | e1 | e1 <;> cases e1; exact h, fun h => ⟨_, _, rfl, .inl rfl, h⟩⟩
theorem list_tup : dList [.tup ds] Ψ = Ψ (.new ds) := propext ⟨fun ⟨_, _, e, e1, h⟩ => by cases e; rcases e1 with e1 | e1 | e1 <;> cases e1; exact h, fun h => ⟨_, _, rfl, .inr (.inl rfl), h⟩⟩
theorem sl_lst {lo hi : Option Int} : dSlL (.lst ds) lo hi Ψ = Ψ (.new (cutD ds lo hi)) := propext ⟨fun ⟨_, e, h⟩ => by cases e; exact h, fun h => ⟨_, rfl, h⟩⟩
theorem sl_str' {lo hi : Option Int} : dSlS (.str x) lo hi Ψ = (x.length ≤ sizeLine ∧ Ψ (.val (.str (cutS x lo hi)))) := propext ⟨fun ⟨_, e, h⟩ => by cases e; exact h, fun h => ⟨_, rfl, h⟩⟩
theorem isN_non {f : Bool → Bool} : bIsN f d .non Ψb = Ψb (f d.isN) := propext ⟨fun ⟨_, h⟩ => h, fun h => ⟨rfl, h⟩⟩
end
end Dt
set_option Elab.async false
set_option linter.all false
set_option maxRecDepth 100000
set_option autoImplicit false
namespace Dt
open PySem L2 Kx
structure Tg {α : Sort _} (a : α) : Type where
def getR (Γ : Gm) (r : R) (k : D → Prop) : Prop := ∃ d, r.at Γ = some d ∧ k d
def blR (Γ : Gm) (r : R) (k : Bool → Prop) : Prop := ∃ d, r.at Γ = some (.bl d) ∧ k d
def intR (Γ : Gm) (r : R) (k : Int → Prop) : Prop := ∃ d, r.at Γ = some (.int d) ∧ k d
def strR (Γ : Gm) (r : R) (k : Str → Prop) : Prop := ∃ d, r.at Γ = some (.str d) ∧ k d
def frzR (Γ : Gm) (r : R) (k : D → Gm → Prop) : Prop := ∃ d Γ', frz Γ r = some (d, Γ') ∧ k d Γ'
def atsR (Γ : Gm) (rs : List R) (k : List D → Prop) : Prop := ∃ ds, ats Γ rs = some ds ∧ k ds
def frzLR (Γ : Gm) (rs : List R) (k : List D → Gm → Prop) : Prop := ∃ ds Γ', frzL Γ rs = some (ds, Γ') ∧ k ds Γ'
def ownR (Γ : Gm) (i : Nat) (k : List D → Prop) : Prop := ∃ ds, Γ[i]? = some (some (En.own ds)) ∧ k ds
def shrR (Γ : Gm) (i : Nat) (k : D → Prop) : Prop := ∃ d, Γ[i]? = some (some (En.shr d)) ∧ k d
def anyR (Γ : Gm) (i : Nat) (P : Prop) : Prop := (∃ e, Γ[i]? = some (some (e : En))) ∧ P
def ixR (n : Nat) (i : Int) (k : Nat → Prop) : Prop := ∃ j, ixN n i = some j ∧ k j
def atR (ds : List D) (i : Int) (k : D → Prop) : Prop := ∃ z, atI ds i = some z ∧ k z
def iteR (b : Bool) (P Q : Prop) (_ : Tg P := ⟨⟩) (_ : Tg Q := ⟨⟩) : Prop := if b = true then P else Q
theorem iteR_true {P Q : Prop} : iteR true P Q = P := rfl
theorem iteR_false {P Q : Prop} : iteR false P Q = Q := rfl
theorem iteR_by {b : Bool} {P Q : Prop} (h : b = true → P) (h' : b = false → Q) : iteR b P Q := by
  cases b with
  | true => exact h rfl
  | false => exact h' rfl
def callR (wf : WF) (ds row : List D) (k : R → List D → Prop) (Ξ : XD → Prop) (_ : Tg k := ⟨⟩) : Prop := wf ds row k Ξ
def sideR (P Q : Prop) (_ : Tg Q := ⟨⟩) : Prop := P ∧ Q
theorem sideR_by {P Q : Prop} (h : P) (h' : P → Q) : sideR P Q := ⟨h, h' h⟩
theorem sideR_true {Q : Prop} : sideR True Q = Q := by unfold sideR; simp
def forB (ds : List D) (wg : WG) (u : WS) (Ψ : WEnds) (Γ : Gm) (_ : Tg (wg, u, Ψ) := ⟨⟩) : Prop := ∃ I : Nat → Gm → Prop, I 0 Γ ∧ (∀ i Γ d, I i Γ → ds[i]? = some d → wg d Γ fun Γ2 => u { Ψ with nx := I (i + 1), ct := I (i + 1), bk := Ψ.nx } Γ2) ∧ ∀ Γ, I ds.length Γ → Ψ.nx Γ
theorem forB_by {ds : List D} {wg : WG} {u : WS} {Ψ : WEnds} {Γ : Gm} (I : Nat → Gm → Prop) (h0 : I 0 Γ) (hs : ∀ i Γ d, ds[i]? = some d → I i Γ → wg d Γ fun Γ2 => u { Ψ with nx := I (i + 1), ct := I (i + 1), bk := Ψ.nx } Γ2) (hd : ∀ Γ, I ds.length Γ → Ψ.nx Γ) : forB ds wg u Ψ Γ := ⟨I, h0, fun i Γ d h1 h2 => hs i Γ d h2 h1, hd⟩
def lcB (ds : List D) (wg : WG) (wt : WT) (we : WE) (vs : List Nat) (Φ : R → Gm → Prop) (Γ1 : Gm) (_ : Tg (wg, wt, we, Φ) := ⟨⟩) : Prop := ds.length ≤ sizeLine ∧ ∃ I : Nat → List D → Gm → Prop, I 0 [] (wipeG Γ1 vs) ∧
  (∀ i acc Γ d, I i acc Γ → ds[i]? = some d → wg d Γ fun Γ2 => wt Γ2 (fun b Γ3 => iteR b (we Γ3 (fun r Γ4 => frzR Γ4 r fun y Γ5 => I (i + 1) (acc ++ [y]) (wipeG Γ5 vs)) (fun _ => False)) (I (i + 1) acc (wipeG Γ3 vs))) fun _ => False) ∧
  ∀ acc Γ, I ds.length acc Γ → Φ (.new acc) (rstG Γ1 Γ vs)
theorem lcB_by {ds : List D} {wg : WG} {wt : WT} {we : WE} {vs : List Nat} {Φ : R → Gm → Prop} {Γ : Gm} (I : Nat → List D → Gm → Prop) (hl : ds.length ≤ sizeLine) (h0 : I 0 [] (wipeG Γ vs))
    (hs : ∀ i acc Γ d, ds[i]? = some d → I i acc Γ → wg d Γ fun Γ2 => wt Γ2 (fun b Γ3 => iteR b (we Γ3 (fun r Γ4 => frzR Γ4 r fun y Γ5 => I (i + 1) (acc ++ [y]) (wipeG Γ5 vs)) (fun _ => False)) (I (i + 1) acc (wipeG Γ3 vs))) fun _ => False)
    (hd : ∀ acc Γ', I ds.length acc Γ' → Φ (.new acc) (rstG Γ Γ' vs)) : lcB ds wg wt we vs Φ Γ := ⟨hl, I, h0, fun i acc Γ d h1 h2 => hs i acc Γ d h2 h1, hd⟩
def goR (k : Gm → Prop) (Γ : Gm) (_ : Tg k := ⟨⟩) : Prop := k Γ
theorem goR_ap {k : Gm → Prop} {Γ : Gm} : goR k Γ = k Γ := rfl
def varM (o : Option (Option En)) (n : Nat) (k : R → Prop) (_ : Tg k := ⟨⟩) : Prop := match o with
  | some (some (.shr d)) => k (.val d)
  | some (some (.own _)) => k (.slot n)
  | _ => False
theorem varM_shr {d : D} {n : Nat} {k : R → Prop} : varM (some (some (.shr d))) n k = k (.val d) := rfl
theorem varM_own {ds : List D} {n : Nat} {k : R → Prop} : varM (some (some (.own ds))) n k = k (.slot n) := rfl
def getM (o : Option (Option En)) (k : D → Prop) (_ : Tg k := ⟨⟩) : Prop := match o with
  | some (some e) => k e.dat
  | _ => False
theorem getM_shr {d : D} {k : D → Prop} : getM (some (some (.shr d))) k = k d := rfl
theorem getM_own {ds : List D} {k : D → Prop} : getM (some (some (.own ds))) k = k (.lst ds) := rfl
def frzM (o : Option (Option En)) (n : Nat) (Γ : Gm) (k : D → Gm → Prop) (_ : Tg k := ⟨⟩) : Prop := match o with
  | some (some (.shr d)) => k d Γ
  | some (some (.own ds)) => goR (k (.lst ds)) (Γ.set n (some (.shr (.lst ds))))
  | _ => False
theorem frzM_shr {d : D} {n : Nat} {Γ : Gm} {k : D → Gm → Prop} : frzM (some (some (.shr d))) n Γ k = k d Γ := rfl
theorem frzM_own {ds : List D} {n : Nat} {Γ : Gm} {k : D → Gm → Prop} : frzM (some (some (.own ds))) n Γ k = goR (k (.lst ds)) (Γ.set n (some (.shr (.lst ds)))) := rfl
def ownM (o : Option (Option En)) (k : List D → Prop) (_ : Tg k := ⟨⟩) : Prop := match o with
  | some (some (.own ds)) => k ds
  | _ => False
theorem ownM_own {ds : List D} {k : List D → Prop} : ownM (some (some (.own ds))) k = k ds := rfl
def shrM (o : Option (Option En)) (k : D → Prop) (_ : Tg k := ⟨⟩) : Prop := match o with
  | some (some (.shr d)) => k d
  | _ => False
theorem shrM_shr {d : D} {k : D → Prop} : shrM (some (some (.shr d))) k = k d := rfl
def anyM (o : Option (Option En)) (P : Prop) (_ : Tg P := ⟨⟩) : Prop := match o with
  | some (some _) => P
  | _ => False
theorem anyM_some {e : En} {P : Prop} : anyM (some (some e)) P = P := rfl
def ixM (o : Option Nat) (k : Nat → Prop) (_ : Tg k := ⟨⟩) : Prop := ∃ j, o = some j ∧ k j
theorem ixM_some {j : Nat} {k : Nat → Prop} : ixM (some j) k = k j := propext ⟨fun ⟨_, e, h⟩ => by cases e; exact h, fun h => ⟨_, rfl, h⟩⟩
def atM (o : Option D) (k : D → Prop) (_ : Tg k := ⟨⟩) : Prop := ∃ j, o = some j ∧ k j
theorem atM_some {j : D} {k : D → Prop} : atM (some j) k = k j := propext ⟨fun ⟨_, e, h⟩ => by cases e; exact h, fun h => ⟨_, rfl, h⟩⟩
def boM (o : Option Bool) (k : Bool → Prop) (_ : Tg k := ⟨⟩) : Prop := ∃ j, o = some j ∧ k j
theorem boM_some {j : Bool} {k : Bool → Prop} : boM (some j) k = k j := propext ⟨fun ⟨_, e, h⟩ => by cases e; exact h, fun h => ⟨_, rfl, h⟩⟩
def chM (o : Option Nat) (k : Nat → Prop) (_ : Tg k := ⟨⟩) : Prop := ∃ j, o = some j ∧ k j
section
variable {Γ : Gm} {Φ : R → Gm → Prop} {Φb : Bool → Gm → Prop} {Φs : List R → Gm → Prop} {Φd : List D → Gm → Prop} {Φo : Option Int → Gm → Prop} {Ξ : XD → Prop} {Ψ : WEnds} {wa wb wc we wo w : WE} {w1 w2 wt : WT} {wA : WA} {u1 u2 : WS} {wg : WG} {wgs : WGs} {g : D → D → (R → Prop) → Prop} {gb gb' : D → D → (Bool → Prop) → Prop} {g1 : D → (R → Prop) → Prop} {gl : List D → (R → Prop) → Prop} {i j n : Nat} {d : D} {k : Gm → Prop} {wl wh : WO} {wI : WI} {io : Bool} {wf : WF} {gs : D → Option Int → Option Int → (R → Prop) → Prop} {gm : Str → D → (R → Prop) → Prop} {ds : List D} {r : R} {rs : List R} {vs : List Nat}
section
variable {kd : D → Prop} {kb : Bool → Prop} {ki : Int → Prop} {ks : Str → Prop} {kg : D → Gm → Prop} {kl : List D → Prop} {klg : List D → Gm → Prop} {kn : Nat → Prop} {z : Int} {b : Bool} {x : Str} {P : Prop}
theorem getR_val : getR Γ (.val d) kd = kd d := propext ⟨fun ⟨_, e, h⟩ => by cases e; exact h, fun h => ⟨_, rfl, h⟩⟩
theorem getR_new : getR Γ (.new ds) kd = kd (.lst ds) := propext ⟨fun ⟨_, e, h⟩ => by cases e; exact h, fun h => ⟨_, rfl, h⟩⟩
theorem getR_slot : getR Γ (.slot n) kd = getM Γ[n]? kd := by
  unfold getR getM
  rcases q : Γ[n]? with _ | _ | e
  · exact propext ⟨fun ⟨d, e, h⟩ => (by simp only [R.at, q] at e; cases e), fun h => h.elim⟩
  · exact propext ⟨fun ⟨d, e, h⟩ => (by simp only [R.at, q] at e; cases e), fun h => h.elim⟩
  · exact propext ⟨fun ⟨d, e', h⟩ => (by simp only [R.at, q] at e'; cases e'; exact h), fun h => ⟨_, by simp only [R.at, q], h⟩⟩
theorem blR_val : blR Γ (.val (.bl b)) kb = kb b := propext ⟨fun ⟨_, e, h⟩ => by cases e; exact h, fun h => ⟨_, rfl, h⟩⟩
theorem intR_val : intR Γ (.val (.int z)) ki = ki z := propext ⟨fun ⟨_, e, h⟩ => by cases e; exact h, fun h => ⟨_, rfl, h⟩⟩
theorem strR_val : strR Γ (.val (.str x)) ks = ks x := propext ⟨fun ⟨_, e, h⟩ => by cases e; exact h, fun h => ⟨_, rfl, h⟩⟩
theorem frzR_val : frzR Γ (.val d) kg = kg d Γ := propext ⟨fun ⟨_, _, e, h⟩ => by cases e; exact h, fun h => ⟨_, _, rfl, h⟩⟩
theorem frzR_new : frzR Γ (.new ds) kg = kg (.lst ds) Γ := propext ⟨fun ⟨_, _, e, h⟩ => by cases e; exact h, fun h => ⟨_, _, rfl, h⟩⟩
theorem frzR_slot : frzR Γ (.slot n) kg = frzM Γ[n]? n Γ kg := by
  unfold frzR frzM goR
  rcases q : Γ[n]? with _ | _ | (d | ds)
  · exact propext ⟨fun ⟨d, _, e, h⟩ => (by simp only [frz, q] at e; cases e), fun h => h.elim⟩
  · exact propext ⟨fun ⟨d, _, e, h⟩ => (by simp only [frz, q] at e; cases e), fun h => h.elim⟩
  · exact propext ⟨fun ⟨d, _, e', h⟩ => (by simp only [frz, q] at e'; cases e'; exact h), fun h => ⟨_, _, by simp only [frz, q], h⟩⟩
  · exact propext ⟨fun ⟨d, _, e', h⟩ => (by simp only [frz, q] at e'; cases e'; exact h), fun h => ⟨_, _, by simp only [frz, q], h⟩⟩
theorem atsR_nil : atsR Γ [] kl = kl [] := propext ⟨fun ⟨_, e, h⟩ => by cases e; exact h, fun h => ⟨_, rfl, h⟩⟩
theorem atsR_cons : atsR Γ (r :: rs) kl = getR Γ r fun d => atsR Γ rs fun ds => kl (d :: ds) := by
  refine propext ⟨fun ⟨ds, e, h⟩ => ?_, fun ⟨d, e1, ds, e2, h⟩ => ⟨d :: ds, by simp only [ats, e1, e2], h⟩⟩
  unfold ats at e
  split at e
  · rename_i d ds' e1 e2
    cases e
    exact ⟨d, e1, ds', e2, h⟩
  · cases e
theorem frzLR_nil : frzLR Γ [] klg = klg [] Γ := propext ⟨fun ⟨_, _, e, h⟩ => by cases e; exact h, fun h => ⟨_, _, rfl, h⟩⟩
theorem frzLR_cons : frzLR Γ (r :: rs) klg = frzR Γ r fun d Γ1 => frzLR Γ1 rs fun ds Γ2 => klg (d :: ds) Γ2 := by
  refine propext ⟨fun ⟨ds, Γ', e, h⟩ => ?_, fun ⟨d, Γ1, e1, ds, Γ2, e2, h⟩ => ⟨d :: ds, Γ2, by simp only [frzL, e1, e2], h⟩⟩
  unfold frzL at e
  split at e
  · rename_i d Γ1 e1
    split at e
    · rename_i ds' Γ2 e2
      cases e
      exact ⟨d, Γ1, e1, _, _, e2, h⟩
    · cases e
  · cases e
theorem ownR_ap : ownR Γ n kl = ownM Γ[n]? kl := by
  unfold ownR ownM
  refine propext ⟨fun ⟨d, e, h⟩ => by rw [e]; exact h, fun h => ?_⟩
  split at h
  · exact ⟨_, by assumption, h⟩
  · exact h.elim
theorem shrR_ap : shrR Γ n kd = shrM Γ[n]? kd := by
  unfold shrR shrM
  refine propext ⟨fun ⟨d, e, h⟩ => by rw [e]; exact h, fun h => ?_⟩
  split at h
  · exact ⟨_, by assumption, h⟩
  · exact h.elim
theorem anyR_ap : anyR Γ n P = anyM Γ[n]? P := by
  unfold anyR anyM
  refine propext ⟨fun ⟨⟨d, e⟩, h⟩ => by rw [e]; exact h, fun h => ?_⟩
  split at h
  · exact ⟨⟨_, by assumption⟩, h⟩
  · exact h.elim
theorem ixR_ap {m : Nat} : ixR m z kn = ixM (ixN m z) kn := rfl
theorem atR_ap : atR ds z kd = atM (atI ds z) kd := rfl
theorem var_ap : wVar n Γ Φ Ξ = varM Γ[n]? n fun r => Φ r Γ := by
  unfold wVar varM
  refine propext ⟨fun ⟨e, he, h⟩ => ?_, fun h => ?_⟩
  · rw [he]
    cases e <;> exact h
  · split at h
    · exact ⟨.shr _, by assumption, h⟩
    · exact ⟨.own _, by assumption, h⟩
    · exact h.elim
end
theorem C_ap : wC d Γ Φ Ξ = Φ (.val d) Γ := rfl
theorem op_ap : wOp g wa wb Γ Φ Ξ = wa Γ (fun r1 Γ1 => wb Γ1 (fun r2 Γ2 => getR Γ2 r1 fun d1 => getR Γ2 r2 fun d2 => g d1 d2 fun r => Φ r Γ2) Ξ) Ξ := by
  unfold wOp getR
  simp only [exists_and_left]
theorem un_ap : wUn g1 wa Γ Φ Ξ = wa Γ (fun r1 Γ1 => getR Γ1 r1 fun d1 => g1 d1 fun r => Φ r Γ1) Ξ := rfl
theorem B_ap : wB w Γ Φb Ξ = w Γ (fun r Γ1 => blR Γ1 r fun b => Φb b Γ1) Ξ := rfl
theorem cmp_ap : wCmp gb wa wb Γ Φb Ξ = wa Γ (fun r1 Γ1 => wb Γ1 (fun r2 Γ2 => getR Γ2 r1 fun d1 => getR Γ2 r2 fun d2 => gb d1 d2 fun b => Φb b Γ2) Ξ) Ξ := by
  unfold wCmp getR
  simp only [exists_and_left]
theorem not_ap : wNot w1 Γ Φb Ξ = w1 Γ (fun b Γ1 => Φb (!b) Γ1) Ξ := rfl
theorem and_ap : wAnd w1 w2 Γ Φb Ξ = w1 Γ (fun b Γ1 => iteR b (w2 Γ1 Φb Ξ) (Φb false Γ1)) Ξ := rfl
theorem or_ap : wOr w1 w2 Γ Φb Ξ = w1 Γ (fun b Γ1 => iteR b (Φb true Γ1) (w2 Γ1 Φb Ξ)) Ξ := rfl
theorem if_ap : wIf w1 wa wb Γ Φ Ξ = w1 Γ (fun b Γ1 => iteR b (wa Γ1 Φ Ξ) (wb Γ1 Φ Ξ)) Ξ := rfl
theorem andV_ap : wAndV wa wb Γ Φ Ξ = wa Γ (fun r Γ1 => blR Γ1 r fun c => iteR c (wb Γ1 Φ Ξ) (Φ (.val (.bl false)) Γ1)) Ξ := rfl
theorem orV_ap : wOrV wa wb Γ Φ Ξ = wa Γ (fun r Γ1 => blR Γ1 r fun c => iteR c (Φ (.val (.bl true)) Γ1) (wb Γ1 Φ Ξ)) Ξ := rfl
theorem notV_ap : wNotV wa Γ Φ Ξ = wa Γ (fun r Γ1 => blR Γ1 r fun c => Φ (.val (.bl (!c))) Γ1) Ξ := rfl
theorem chain_ap : wChain gb gb' wa wb wc Γ Φ Ξ = wa Γ (fun r1 Γ1 => wb Γ1 (fun r2 Γ2 => getR Γ2 r1 fun d1 => getR Γ2 r2 fun d2 => gb d1 d2 fun b => iteR b (wc Γ2 (fun r3 Γ3 => getR Γ3 r2 fun d2 => getR Γ3 r3 fun d3 => gb' d2 d3 fun b => Φ (.val (.bl b)) Γ3) Ξ) (Φ (.val (.bl false)) Γ2)) Ξ) Ξ := by
  unfold wChain getR iteR
  simp only [exists_and_left]
theorem nil_ap : wANil Γ Φs Ξ = Φs [] Γ := rfl
theorem cons_ap : wACons w wA Γ Φs Ξ = w Γ (fun r Γ1 => wA Γ1 (fun rs Γ2 => Φs (r.hold :: rs) Γ2) Ξ) Ξ := rfl
theorem cb_ap : wCB gl wA Γ Φ Ξ = wA Γ (fun rs Γ1 => atsR Γ1 rs fun ds => gl ds fun r => Φ r Γ1) Ξ := rfl
theorem tup_ap : wTup wA Γ Φ Ξ = wA Γ (fun rs Γ1 => frzLR Γ1 rs fun ds Γ2 => sideR (ds.length ≤ sizeLine) (Φ (.val (.tup ds)) Γ2)) Ξ := rfl
theorem lst_ap : wLst wA Γ Φ Ξ = wA Γ (fun rs Γ1 => frzLR Γ1 rs fun ds Γ2 => sideR (ds.length ≤ sizeLine) (Φ (.new ds) Γ2)) Ξ := rfl
theorem call_ap : wCall io wf wA Γ Φ Ξ = wA Γ (fun rs Γ1 => callW io wf rs Γ1 Φ Ξ) Ξ := rfl
theorem callF : callW false wf rs Γ Φ Ξ = frzLR Γ rs fun ds Γ1 => callR wf ds [] (fun r _ => Φ r Γ1) Ξ := rfl
theorem callT : callW true wf (.slot i :: rs) Γ Φ Ξ = frzLR Γ rs fun ds Γ1 => ownR Γ1 i fun row => callR wf ds row (fun r row' => goR (Φ r) (Γ1.set i (some (.own row')))) fun _ => False :=
  propext ⟨fun ⟨_, _, ds, Γ1, row, e, h, h1, h2⟩ => by cases e; exact ⟨ds, Γ1, h, row, h1, h2⟩, fun ⟨ds, Γ1, h, row, h1, h2⟩ => ⟨_, _, ds, Γ1, row, rfl, h, h1, h2⟩⟩
theorem sl_ap : wSl gs w wl wh Γ Φ Ξ = w Γ (fun r1 Γ1 => wl Γ1 (fun lo Γ2 => wh Γ2 (fun hi Γ3 => getR Γ3 r1 fun d => gs d lo hi fun r => Φ r Γ3) Ξ) Ξ) Ξ := rfl
theorem noP_ap : wNoP Γ Φo Ξ = Φo none Γ := rfl
theorem prt_ap : wPrt w Γ Φo Ξ = w Γ (fun r Γ1 => intR Γ1 r fun i => Φo (some i) Γ1) Ξ := rfl
theorem m1_ap : wM1 gm wo we Γ Φ Ξ = wo Γ (fun r1 Γ1 => strR Γ1 r1 fun a => we Γ1 (fun r2 Γ2 => getR Γ2 r2 fun d2 => gm a d2 fun r => Φ r Γ2) Ξ) Ξ := rfl
theorem rev_ap : wRev i Γ Φ Ξ = ownR Γ i fun ds => goR (Φ (.val .non)) (Γ.set i (some (.own ds.reverse))) := rfl
theorem clr_ap : wClr i Γ Φ Ξ = ownR Γ i fun ds => goR (Φ (.val .non)) (Γ.set i (some (.own []))) := rfl
theorem app_ap : wApp i we Γ Φ Ξ = ownR Γ i fun _ => we Γ (fun r Γ1 => frzR Γ1 r fun d Γ2 => ownR Γ2 i fun ds => sideR (ds.length < sizeLine) (goR (Φ (.val .non)) (Γ2.set i (some (.own (ds ++ [d])))))) Ξ := by
  unfold wApp ownR frzR sideR goR
  simp only [exists_and_left]
theorem seq_ap : wSeq u1 u2 Ψ Γ = u1 { Ψ with nx := u2 Ψ } Γ := rfl
theorem next_ap : wNext Ψ Γ = Ψ.nx Γ := rfl
theorem brk_ap : wBreak Ψ Γ = Ψ.bk Γ := rfl
theorem cnt_ap : wCont Ψ Γ = Ψ.ct Γ := rfl
theorem drop_ap : wDrop w Ψ Γ = w Γ (fun _ Γ1 => Ψ.nx Γ1) Ψ.xe := rfl
theorem ret_ap : wRet w Ψ Γ = w Γ Ψ.rt Ψ.xe := rfl
theorem retN_ap : wRetN Ψ Γ = Ψ.rt (.val .non) Γ := rfl
theorem ifS_ap : wIfS w1 u1 u2 Ψ Γ = w1 Γ (fun b Γ1 => iteR b (u1 Ψ Γ1) (u2 Ψ Γ1)) Ψ.xe := rfl
theorem set_ap : wSet i w Ψ Γ = w Γ (fun r Γ1 => putW i r Γ1 Ψ.nx) Ψ.xe := rfl
theorem asg_ap : wAsg w wg Ψ Γ = w Γ (fun r Γ1 => frzR Γ1 r fun d Γ2 => wg d Γ2 Ψ.nx) Ψ.xe := rfl
theorem gN_ap : wgName i d Γ k = goR k (Γ.set i (some (.shr d))) := rfl
theorem gT_ap : wgTup n wgs (.tup ds) Γ k = sideR (ds.length = n) (wgs ds Γ k) := propext ⟨fun ⟨_, e, h⟩ => by cases e; exact h, fun h => ⟨_, rfl, h⟩⟩
theorem g0_ap : wgNil [] Γ k = k Γ := propext ⟨fun h => h.2, fun h => ⟨rfl, h⟩⟩
theorem g1_ap : wgCons wg wgs (d :: ds) Γ k = wg d Γ (fun Γ1 => wgs ds Γ1 k) := propext ⟨fun ⟨_, _, e, h⟩ => by cases e; exact h, fun h => ⟨_, _, rfl, h⟩⟩
theorem putAt_ap {wk : WE} : wPutAt i w wk Ψ Γ = w Γ (fun r Γ1 => frzR Γ1 r fun d Γ2 => anyR Γ2 i (wk Γ2 (fun rk Γ3 => intR Γ3 rk fun k => ownR Γ3 i fun ds => ixR ds.length k fun j => goR Ψ.nx (Γ3.set i (some (.own (ds.set j d))))) Ψ.xe)) Ψ.xe := by
  unfold wPutAt goR frzR anyR intR ownR ixR
  simp only [exists_and_left, exists_and_right]
theorem par_ap : wPar i j wA Ψ Γ = wA Γ (fun rs Γ1 => frzLR Γ1 rs fun ds Γ2 => match ds with | [d, e] => goR Ψ.nx ((Γ2.set i (some (.shr d))).set j (some (.shr e))) | _ => False) Ψ.xe := by
  unfold wPar frzLR
  congr 1
  funext rs Γ1
  refine propext ⟨fun ⟨d, e, Γ2, h, q⟩ => ⟨_, _, h, q⟩, fun ⟨ds, Γ2, h, q⟩ => ?_⟩
  dsimp only at q
  split at q
  · exact ⟨_, _, _, h, q⟩
  · exact q.elim
theorem aug_ap : wAug i w g Ψ Γ = shrR Γ i fun d => w Γ (fun r Γ1 => getR Γ1 r fun e => g d e fun r => putW i r Γ1 Ψ.nx) Ψ.xe := rfl
theorem augAt_ap {wk : WE} : wAugAt i wk w g Ψ Γ = anyR Γ i (wk Γ (fun rk Γ1 => intR Γ1 rk fun k => ownR Γ1 i fun ds => ixR ds.length k fun j => ∃ d, ds[j]? = some d ∧ w Γ1 (fun r Γ2 => getR Γ2 r fun e => ownR Γ2 i fun ds2 => sideR (ds2.length = ds.length) (g d e fun r => ∃ z, r = .val z ∧ goR Ψ.nx (Γ2.set i (some (.own (ds2.set j z)))))) Ψ.xe) Ψ.xe) := by
  unfold wAugAt goR anyR intR ownR ixR getR sideR
  simp only [exists_and_left, exists_and_right]
theorem il_ap : wIList w Γ Φd Ξ = w Γ (fun r Γ1 => frzR Γ1 r fun d Γ2 => match d with | .lst ds => Φd ds Γ2 | _ => False) Ξ := by
  unfold wIList frzR
  congr 1
  funext r Γ1
  refine propext ⟨fun ⟨ds, Γ2, h, q⟩ => ⟨_, _, h, q⟩, fun ⟨d, Γ2, h, q⟩ => ?_⟩
  dsimp only at q
  split at q
  · exact ⟨_, _, h, q⟩
  · exact q.elim
theorem it_ap : wITup w Γ Φd Ξ = w Γ (fun r Γ1 => frzR Γ1 r fun d Γ2 => match d with | .tup ds => Φd ds Γ2 | _ => False) Ξ := by
  unfold wITup frzR
  congr 1
  funext r Γ1
  refine propext ⟨fun ⟨ds, Γ2, h, q⟩ => ⟨_, _, h, q⟩, fun ⟨d, Γ2, h, q⟩ => ?_⟩
  dsimp only at q
  split at q
  · exact ⟨_, _, h, q⟩
  · exact q.elim
theorem ir1_ap : wIRng1 wA Γ Φd Ξ = wA Γ (fun rs Γ1 => atsR Γ1 rs fun ds => match ds with | [.int j] => sideR (-(2 ^ 62) ≤ j ∧ j < 2 ^ 62) (Φd (rng 0 j.toNat) Γ1) | _ => False) Ξ := by
  unfold wIRng1 atsR
  congr 1
  funext rs Γ1
  refine propext ⟨fun ⟨j, h, q⟩ => ⟨_, h, q⟩, fun ⟨ds, h, q⟩ => ?_⟩
  dsimp only at q
  split at q
  · exact ⟨_, h, q⟩
  · exact q.elim
theorem ir2_ap : wIRng2 wA Γ Φd Ξ = wA Γ (fun rs Γ1 => atsR Γ1 rs fun ds => match ds with | [.int i, .int j] => Φd (rng i (j - i).toNat) Γ1 | _ => False) Ξ := by
  unfold wIRng2 atsR
  congr 1
  funext rs Γ1
  refine propext ⟨fun ⟨i, j, h, q⟩ => ⟨_, h, q⟩, fun ⟨ds, h, q⟩ => ?_⟩
  dsimp only at q
  split at q
  · exact ⟨_, _, h, q⟩
  · exact q.elim
theorem is_ap : wIStr w Γ Φd Ξ = w Γ (fun r Γ1 => strR Γ1 r fun x => Φd (chs x) Γ1) Ξ := rfl
theorem ie_ap : wIEnum wA Γ Φd Ξ = wA Γ (fun rs Γ1 => frzLR Γ1 rs fun ds Γ2 => match ds with | [.lst es] => Φd (enu es) Γ2 | _ => False) Ξ := by
  unfold wIEnum frzLR
  congr 1
  funext rs Γ1
  refine propext ⟨fun ⟨ds, Γ2, h, q⟩ => ⟨_, _, h, q⟩, fun ⟨ds, Γ2, h, q⟩ => ?_⟩
  dsimp only at q
  split at q
  · exact ⟨_, _, h, q⟩
  · exact q.elim
theorem iz_ap : wIZip wA Γ Φd Ξ = wA Γ (fun rs Γ1 => frzLR Γ1 rs fun ds Γ2 => match ds with | [.lst es, .lst fs] => Φd (zp es fs) Γ2 | _ => False) Ξ := by
  unfold wIZip frzLR
  congr 1
  funext rs Γ1
  refine propext ⟨fun ⟨ds, es, Γ2, h, q⟩ => ⟨_, _, h, q⟩, fun ⟨ds, Γ2, h, q⟩ => ?_⟩
  dsimp only at q
  split at q
  · exact ⟨_, _, _, h, q⟩
  · exact q.elim
theorem for_ap : wFor wI wg u1 Ψ Γ = wI Γ (fun ds Γ1 => forB ds wg u1 Ψ Γ1) Ψ.xe := rfl
theorem lc_ap : wLc wI wg wt we vs Γ Φ Ξ = wI Γ (fun ds Γ1 => lcB ds wg wt we vs Φ Γ1) Ξ := rfl
def lcO (s : Nat) (ds : List D) (wg : WG) (wt : WT) (we : WE) (vs : List Nat) (Φ : R → Gm → Prop) (Γ1 : Gm) (_ : Tg (wg, wt, we, Φ) := ⟨⟩) : Prop := ds.length ≤ sizeLine ∧ ∃ I : Nat → List D → Gm → Prop, I 0 [] (wipeG Γ1 vs) ∧ (∀ i acc Γ, I i acc Γ → Γ[s]? = some (some (En.own ds))) ∧
  (∀ i acc Γ d, I i acc Γ → ds[i]? = some d → wg d Γ fun Γ2 => wt Γ2 (fun b Γ3 => iteR b (we Γ3 (fun r Γ4 => frzR Γ4 r fun y Γ5 => I (i + 1) (acc ++ [y]) (wipeG Γ5 vs)) (fun _ => False)) (I (i + 1) acc (wipeG Γ3 vs))) fun _ => False) ∧
  ∀ acc Γ, I ds.length acc Γ → Φ (.new acc) (rstG Γ1 Γ vs)
theorem lcO_ap {s : Nat} : wLcO s wg wt we vs Γ Φ Ξ = ownR Γ s fun ds => lcO s ds wg wt we vs Φ Γ := rfl
theorem startT {row : List D} : startW true n ds row = some (.own row) :: (ds.map fun d => some (.shr d)) ++ List.replicate (n - (ds.length + 1)) none := rfl
theorem startF {row : List D} : startW false n ds row = (ds.map fun d => some (.shr d)) ++ List.replicate (n - ds.length) none := rfl
variable {F : R → List D → Prop}
theorem end_rt : (endsW io F Ξ).rt r Γ = retW io F r Γ := rfl
theorem end_nx : (endsW io F Ξ).nx Γ = retW io F (.val .non) Γ := rfl
theorem end_xe : (endsW io F Ξ).xe = Ξ := rfl
theorem retT_val : retW true F (.val d) Γ = ownR Γ 0 fun row => F (.val d) row := propext ⟨fun ⟨r', h, row, h1, h2⟩ => by cases h; exact ⟨row, h1, h2⟩, fun ⟨row, h1, h2⟩ => ⟨_, rfl, row, h1, h2⟩⟩
theorem retT_new : retW true F (.new ds) Γ = ownR Γ 0 fun row => F (.new ds) row := propext ⟨fun ⟨r', h, row, h1, h2⟩ => by cases h; exact ⟨row, h1, h2⟩, fun ⟨row, h1, h2⟩ => ⟨_, rfl, row, h1, h2⟩⟩
theorem retF_val : retW false F (.val d) Γ = F (.val d) [] := propext ⟨fun ⟨r', h, h1⟩ => by cases h; exact h1, fun h1 => ⟨_, rfl, h1⟩⟩
theorem retF_new : retW false F (.new ds) Γ = F (.new ds) [] := propext ⟨fun ⟨r', h, h1⟩ => by cases h; exact h1, fun h1 => ⟨_, rfl, h1⟩⟩
theorem toN_own (h0 : ¬ (io = true ∧ i = 0)) (h : Γ[i]? = some (some (.own ds))) : toN io Γ (.slot i) = some (.new ds) := by simp only [toN, h0, if_false, h]
theorem toN_shr (h0 : ¬ (io = true ∧ i = 0)) (h : Γ[i]? = some (some (.shr d))) : toN io Γ (.slot i) = some (.val d) := by simp only [toN, h0, if_false, h]
def retM (o : Option (Option En)) (k : R → Prop) (_ : Tg k := ⟨⟩) : Prop := match o with
  | some (some (.shr d)) => k (.val d)
  | some (some (.own ds)) => k (.new ds)
  | _ => False
theorem retM_shr {kr : R → Prop} : retM (some (some (.shr d))) kr = kr (.val d) := rfl
theorem retM_own {kr : R → Prop} : retM (some (some (.own ds))) kr = kr (.new ds) := rfl
theorem retF_slot : retW false F (.slot i) Γ = retM Γ[i]? fun r => F r [] := by
  unfold retW retM
  have h0 : ¬ (false = true ∧ i = 0) := fun z => by cases z.1
  rcases q : Γ[i]? with _ | _ | (d | ds)
  · exact propext ⟨fun ⟨d, e, h⟩ => (by simp only [toN, q, h0, if_false] at e; cases e), fun h => h.elim⟩
  · exact propext ⟨fun ⟨d, e, h⟩ => (by simp only [toN, q, h0, if_false] at e; cases e), fun h => h.elim⟩
  · exact propext ⟨fun ⟨d, e, h⟩ => (by simp only [toN, q, h0, if_false] at e; cases e; exact h), fun h => ⟨_, by simp only [toN, q, h0, if_false], h⟩⟩
  · exact propext ⟨fun ⟨d, e, h⟩ => (by simp only [toN, q, h0, if_false] at e; cases e; exact h), fun h => ⟨_, by simp only [toN, q, h0, if_false], h⟩⟩
theorem retT_slot : retW true F (.slot (i + 1)) Γ = retM Γ[i + 1]? fun r => ownR Γ 0 fun row => F r row := by
  unfold retW retM ownR
  have h0 : ¬ (true = true ∧ i + 1 = 0) := fun z => by cases z.2
  rcases q : Γ[i + 1]? with _ | _ | (d | ds)
  · exact propext ⟨fun ⟨d, e, h⟩ => (by simp only [toN, q, h0, if_false] at e; cases e), fun h => h.elim⟩
  · exact propext ⟨fun ⟨d, e, h⟩ => (by simp only [toN, q, h0, if_false] at e; cases e), fun h => h.elim⟩
  · exact propext ⟨fun ⟨d, e, h⟩ => (by rw [toN_shr h0 q] at e; cases e; exact h), fun h => ⟨_, toN_shr h0 q, h⟩⟩
  · exact propext ⟨fun ⟨d, e, h⟩ => (by rw [toN_own h0 q] at e; cases e; exact h), fun h => ⟨_, toN_own h0 q, h⟩⟩
theorem put_val' : putW n (.val d) Γ k = goR k (Γ.set n (some (.shr d))) := rfl
theorem put_new' : putW n (.new ds) Γ k = goR k (Γ.set n (some (.own ds))) := rfl
theorem put_slot : putW i (.slot j) Γ k = frzM Γ[j]? j Γ fun d Γ1 => goR k (Γ1.set i (some (.shr d))) := frzR_slot (Γ := Γ) (n := j) (kg := fun d Γ1 => k (Γ1.set i (some (.shr d))))
end
section
variable {Γ : Gm} {d e : D} {ds xs ys : List D} {i j : Int} {n : Nat} {Ψ : R → Prop} {Ψb : Bool → Prop} {f : Int → Int → Int} {C : Int → Int → Prop} {x y : Str} {neg : Bool}
theorem I_ap : dI C f (.int i) (.int j) Ψ = sideR (C i j) (Ψ (.val (.int (f i j)))) := I_int
theorem dx_lst : dIx (.lst ds) (.int i) Ψ = atR ds i fun z => Ψ (.val z) := ix_lst
theorem dx_scr : dIx (.scr ds) (.int i) Ψ = atR ds i fun z => Ψ (.val z) := ix_scr
theorem dx_tup : dIx (.tup ds) (.int i) Ψ = atR ds i fun z => Ψ (.val z) := ix_tup
theorem dx_str : dIx (.str x) (.int i) Ψ = sideR (x.length ≤ sizeLine) (chM (atI x.cps.toList i) fun c => Ψ (.val (.str ⟨#[c]⟩))) := ix_str
theorem dlen_str : dLenS [.str x] Ψ = sideR (x.length ≤ sizeLine) (Ψ (.val (.int (x.length : Nat)))) := len_str
theorem din_tup : bIn neg d (.tup ds) Ψb = sideR (d.flat = true ∧ ds.all D.flat = true) (Ψb (if neg then !inV d.v (ds.map D.v) else inV d.v (ds.map D.v))) := by rw [in_tup]; unfold sideR; rw [and_assoc]
theorem din_lst : bIn neg d (.lst ds) Ψb = sideR (d.flat = true ∧ ds.all D.flat = true) (Ψb (if neg then !inV d.v (ds.map D.v) else inV d.v (ds.map D.v))) := by rw [in_lst]; unfold sideR; rw [and_assoc]
theorem daddS : dAddS (.str x) (.str y) Ψ = sideR (x.length + y.length ≤ sizeLine) (Ψ (.val (.str (x ++ y)))) := addS_str
theorem dcat : dCat (.lst xs) (.lst ys) Ψ = sideR (xs.length + ys.length ≤ sizeLine) (Ψ (.new (xs ++ ys))) := cat_lst
theorem dsl_str {lo hi : Option Int} : dSlS (.str x) lo hi Ψ = sideR (x.length ≤ sizeLine) (Ψ (.val (.str (cutS x lo hi)))) := sl_str'
theorem isi_ap {T : String} : dIsi [d, .ty T] Ψ = boM (d.isi T) fun b => Ψ (.val (.bl b)) := isi_eq
theorem deq_ap {f : Bool → Bool} : bEq f d e Ψb = sideR ((∃ n, n ≤ 60 ∧ Dep n d) ∧ ∃ n, n ≤ 60 ∧ Dep n e) (Ψb (f (deq d e))) := by
  unfold bEq sideR
  rw [and_assoc]
theorem dneg_int : dNeg (.int i) Ψ = Ψ (.val (.int (-i))) := neg_int
theorem dStrI_ap : dStrI [.int i] Ψ = sideR (i.natAbs.log2 < 1920) (Ψ (.val (.str (toString i)))) := propext ⟨fun ⟨_, e, h⟩ => by cases e; exact h, fun h => ⟨_, rfl, h⟩⟩
theorem dInt1_bl {b : Bool} : dInt1 [.bl b] Ψ = Ψ (.val (.int (if b then 1 else 0))) := propext ⟨fun h => by rcases h with ⟨_, e, _⟩ | ⟨_, e, h⟩ <;> cases e; exact h, fun h => .inr ⟨_, rfl, h⟩⟩
theorem dInt1_int : dInt1 [.int i] Ψ = Ψ (.val (.int i)) := propext ⟨fun h => by rcases h with ⟨_, e, h⟩ | ⟨_, e, _⟩ <;> cases e; exact h, fun h => .inl ⟨_, rfl, h⟩⟩
theorem dtuple_lst : dTuple [.lst ds] Ψ = Ψ (.val (.tup ds)) := propext ⟨fun ⟨_, _, e, e1, h⟩ => by cases e; rcases e1 with e1 | e1 <;> cases e1; exact h, fun h => ⟨_, _, rfl, .inl rfl, h⟩⟩
theorem dtuple_tup : dTuple [.tup ds] Ψ = Ψ (.val (.tup ds)) := propext ⟨fun ⟨_, _, e, e1, h⟩ => by cases e; rcases e1 with e1 | e1 <;> cases e1; exact h, fun h => ⟨_, _, rfl, .inr rfl, h⟩⟩
end
theorem isi_int_int (i : Int) : D.isi (.int i) "int" = some true := rfl
theorem isi_int_bool (i : Int) : D.isi (.int i) "bool" = some false := rfl
theorem isi_int_str (i : Int) : D.isi (.int i) "str" = some false := rfl
theorem isi_int_tuple (i : Int) : D.isi (.int i) "tuple" = some false := rfl
theorem isi_bl_int (i : Bool) : D.isi (.bl i) "int" = some true := rfl
theorem isi_bl_bool (i : Bool) : D.isi (.bl i) "bool" = some true := rfl
theorem isi_bl_str (i : Bool) : D.isi (.bl i) "str" = some false := rfl
theorem isi_bl_tuple (i : Bool) : D.isi (.bl i) "tuple" = some false := rfl
theorem isi_str_int (i : Str) : D.isi (.str i) "int" = some false := rfl
theorem isi_str_bool (i : Str) : D.isi (.str i) "bool" = some false := rfl
theorem isi_str_str (i : Str) : D.isi (.str i) "str" = some true := rfl
theorem isi_str_tuple (i : Str) : D.isi (.str i) "tuple" = some false := rfl
theorem isi_lst (i : List D) : D.isi (.lst i) "list" = some true := rfl
theorem isi_tup (i : List D) : D.isi (.tup i) "tuple" = some true := rfl
theorem v_int (i : Int) : D.v (.int i) = .int i := rfl
theorem v_str (i : Str) : D.v (.str i) = .str i := rfl
theorem v_bl (i : Bool) : D.v (.bl i) = .bl i := rfl
theorem v_non : D.v .non = .non := rfl
theorem fl_int (i : Int) : D.flat (.int i) = true := rfl
theorem fl_str (i : Str) : D.flat (.str i) = true := rfl
theorem fl_bl (i : Bool) : D.flat (.bl i) = true := rfl
theorem fl_non : D.flat .non = true := rfl
theorem ixN_0 {n : Nat} : ixN (n + 1) 0 = some 0 := by unfold ixN; rw [if_pos (by decide), if_pos (by omega)]; rfl
theorem ixN_1 {n : Nat} : ixN (n + 2) 1 = some 1 := by unfold ixN; rw [if_pos (by decide), if_pos (by omega)]; rfl
theorem ixN_2 {n : Nat} : ixN (n + 3) 2 = some 2 := by unfold ixN; rw [if_pos (by decide), if_pos (by omega)]; rfl
end Dt
set_option Elab.async false
set_option linter.all false
set_option maxRecDepth 100000
set_option autoImplicit false
namespace Dt
open PySem PySem.Spec L2 Kx PyProof.Rows
section
variable {X : Cx}
def rRepL : L2.R2 := fun x y H Q => ∃ l k xs, x = .ref l ∧ y = .int k ∧ L2.Rd H l (.lst xs) ∧ -(2 ^ 63) ≤ k ∧ k < 2 ^ 63 ∧ xs.length * k.toNat ≤ sizeLine ∧ ∀ p, H p = none → Q (.ref p) (upd H p (.lst (List.replicate k.toNat xs).flatten))
theorem op_repL : OpR X (binaryOp .Mult) rRepL := by
  intro pins s σ H x y v u Q I rx ry h
  obtain ⟨l, k, xs, rfl, rfl, hH, h1, h2, hz, q⟩ := h
  cases rx
  obtain ⟨t, rfl⟩ := ry
  obtain ⟨z, its, n, r, hl, e⟩ := Inv.rdL I hH
  have hlen : its.toArray.size * k.toNat ≤ sizeLine := by rw [List.size_toArray, ← hl]; exact hz
  have hcap : ¬ its.toArray.size * k.toNat > (2 ^ 63 - 1) / 8 := by
    have : (sizeLine : Nat) ≤ (2 ^ 63 - 1) / 8 := by decide
    omega
  have hfit : ¬ (!Builtin.List.listFitsIndex k) = true := by
    rw [fitsIndex_both h1 h2]
    exact Bool.false_ne_true
  have hlong : ¬ Builtin.List.listTooLong (its.toArray.size * k.toNat) = true := by
    rw [notLongL hlen]
    exact Bool.false_ne_true
  have hnew : List.foldl (fun x1 x2 => x1 ++ x2) #[] (List.replicate (if its.toArray.isEmpty = true then 0 else k.toNat) its.toArray) = (List.replicate k.toNat its).flatten.toArray := by
    have f0 : ∀ m : Nat, List.foldl (fun x1 x2 => x1 ++ x2) #[] (List.replicate m its.toArray) = (List.replicate m its).flatten.toArray := fun m => by
      have := foldl_rep its m []
      rw [List.nil_append] at this
      exact this
    rw [f0]
    cases its with
    | nil => simp
    | cons a r' => rw [if_neg (by simp)]
  refine wpAny_binaryOp_repeat_ref (T := "list") (U := "int") (by decide) ⟨_, e, rfl⟩ (fun s' => typeIs_int s' k t) noFill_list_mul F.fills_int_mul F.slot_int_rmul repeat_list F.slot_int_index.lookup
    (call_meets F.slot_int_rmul (typeIs_int s k t) F.entry_int_rmul (F.args_int_rmul_2 _ _) (int___rmul___int_list k t l its.toArray n)
      ⟨e, rfl, ⟨_, e, rfl⟩, call_meets F.slot_list_mul ⟨_, e, rfl⟩ F.entry_list_mul (F.args_list_mul_2 _ _) (AutoListH.list___mul___list_int_3 l its.toArray n k t hfit hcap hlong) ⟨e, ?_⟩⟩)
  rw [hnew]
  exact ⟨.ref _, _, I.lnew (t' := s.toks) (r.rep k.toNat) (by rw [len_rep, Nat.mul_comm]; exact hz), rfl, q _ I.fresh⟩
theorem q_never {T : Tb} {io : Bool} {E : XK} {st : Stmt} : QS X T io E st tNever (fun _ _ => False) := ⟨ps_never, sd_never⟩
end
section
variable {T : Tb} {F H : Hp}
theorem RepA.rep {K : PySem.W.Frag} {vs : List V} {ds : List D} (r : RepA K F vs ds) : ∀ n : Nat, RepA K F (List.replicate n vs).flatten (List.replicate n ds).flatten
  | 0 => .nil
  | n + 1 => by
    rw [List.replicate_succ, List.replicate_succ, List.flatten_cons, List.flatten_cons]
    exact r.append (RepA.rep r n)
def dRep : D → D → (R → Prop) → Prop := fun d e Ψ => ∃ xs k, d = .lst xs ∧ e = .int k ∧ (-(2 ^ 63) ≤ k ∧ k < 2 ^ 63 ∧ xs.length * k.toNat ≤ sizeLine) ∧ Ψ (.new (List.replicate k.toNat xs).flatten)
theorem od_rep : OD T rRepL dRep := fun F H x y d e Q Ψ o hx hy hg k => by
  obtain ⟨xs, n, rfl, rfl, ⟨h1, h2, h3⟩, h⟩ := hg
  obtain ⟨a, vs, rfl, ha, ra⟩ := hx.lst o.sub
  exact ⟨a, n, vs, rfl, hy.int, ha, h1, h2, by rw [ra.length]; exact h3, fun p hp => new_ok o hp (ra.rep _) h k⟩
theorem drep_ap {xs : List D} {k : Int} {Ψ : R → Prop} : dRep (.lst xs) (.int k) Ψ = sideR (-(2 ^ 63) ≤ k ∧ k < 2 ^ 63 ∧ xs.length * k.toNat ≤ sizeLine) (Ψ (.new (List.replicate k.toNat xs).flatten)) := propext ⟨fun ⟨_, _, e1, e2, h⟩ => by cases e1; cases e2; exact h, fun h => ⟨_, _, rfl, rfl, h⟩⟩
theorem djoin_ap {a : Str} {ys : List Str} {Ψ : R → Prop} : dJoin a (.lst (ys.map D.str)) Ψ = sideR ((ys.map (·.length)).sum + ys.length * a.length ≤ 16777216) (Ψ (.val (.str (Txt.join a ys)))) := by
  refine propext ⟨fun ⟨zs, e, h1, h⟩ => ?_, fun h => ⟨ys, .inl rfl, h⟩⟩
  rcases e with e | e
  · have e' : ys.map D.str = zs.map D.str := D.lst.inj e
    have : ys = zs := (List.map_inj_right (f := D.str) (fun _ _ z => D.str.inj z)).mp e'
    subst this
    exact ⟨h1, h⟩
  · cases e
end
def TxOk (n : Nat) (x : Str) : Prop := x.length ≤ n ∧ PyData.strOk x = true
theorem strOk_iff {x : Str} : PyData.strOk x = true ↔ ∀ c ∈ x.cps.toList, c < 0x110000 := by
  unfold PyData.strOk
  rw [← Array.all_toList, List.all_eq_true]
  simp
theorem TxOk.mono {n m : Nat} {x : Str} (h : TxOk n x) (l : n ≤ m) : TxOk m x := ⟨Nat.le_trans h.1 l, h.2⟩
theorem cutD_map {α : Type} (f : α → D) (xs : List α) (lo hi : Option Int) : cutD (xs.map f) lo hi = ((xs.drop (HT.sIx xs.length 0 lo)).take (HT.sIx xs.length xs.length hi - HT.sIx xs.length 0 lo)).map f := by
  unfold cutD
  rw [List.length_map, List.map_take, List.map_drop]
end Dt
set_option Elab.async false
set_option linter.all false
set_option maxRecDepth 100000
set_option autoImplicit false
namespace L2
open PySem PySem.Spec PyProof.Rows
section
variable {X : Cx} {pins : List (Addr × Obj)} {σ : St} {H : Hp} {s : Shared} {x : Str} {fv : List Str} {js : List Nat} {scope : Scope} {clos : List (Str × Addr)} {A : Around} {f : Addr} {cv : Value}
end
section
variable {X : Cx}
end
end L2
set_option Elab.async false
set_option linter.all false
set_option maxRecDepth 100000
set_option autoImplicit false
namespace PySem
open Sem (wp)
section
variable {prog : Program} {w : World} {A : Around} {E : Value → Shared → Prop} {s : Shared}
end
end PySem
namespace L2
open PySem PySem.Spec PyProof.Rows
section
variable {X : Cx} {pins : List (Addr × Obj)} {σ : St} {H : Hp} {s : Shared} {a : Addr} {h' : Heap}
end
end L2
set_option Elab.async false
set_option linter.all false
set_option maxRecDepth 100000
set_option autoImplicit false
namespace L2
open PySem PySem.Spec PyProof.Rows
section
variable {X : Cx} {pins : List (Addr × Obj)} {σ : St} {H : Hp} {s : Shared} {x : Str} {fv : List Str} {js : List Nat} {scope : Scope} {clos : List (Str × Addr)} {f : Addr} {cv : Value} {params : Arguments} {body : Expr} {tl : TE} {k : Nat}
end
end L2
set_option Elab.async false
set_option linter.all false
set_option maxRecDepth 100000
set_option autoImplicit false
namespace L2
open PySem PySem.Spec PyProof.Rows
section
variable {X : Cx} {x : Str} {fv : List Str} {js : List Nat} {scope : Scope} {clos : List (Str × Addr)} {params : Arguments} {body : Expr} {tl : TE} {ta : TA} {k : Nat}
end
end L2
set_option Elab.async false
set_option linter.all false
set_option maxRecDepth 100000
set_option autoImplicit false
namespace Dt
open PySem PySem.Spec L2 Kx PyProof.Rows
section
variable {T : Tb} {F F1 F' H H1 H2 H' : Hp} {σ : L2.St} {Γ Γ1 Γ2 Γ' : Gm} {E E' : XK} {tl : TE} {wl : WE} {tA : TA} {wA : WA} {P : Addr} {lpos : Pos} {q : Str} {js : List Nat}
end
end Dt
set_option Elab.async false
set_option linter.all false
set_option maxRecDepth 100000
set_option autoImplicit false
namespace Dt
open PySem PySem.Spec L2 Kx PyProof.Rows
section
variable {X : Cx} {T : Tb} {E : XK} {x : Str} {fv : List Str} {js : List Nat} {scope sc : Scope} {clos : List (Str × Addr)} {params : Arguments} {body a : Expr} {tl : TE} {wl : WE} {tA : TA} {wA : WA} {k : Nat}
end
section
variable {P : Program} {wd : World} {K : PySem.W.Frag} {mg : Str → Option Value} {base : Heap} {x qual : Str} {st : Stmt} {f : Addr} {N ps : List Str} {k : Nat} {ts : List Addr} {ls : List (Addr × Pos × Str)} {io : Bool} {wf : WF} {w : WS} {oc kV doc pm cdv ct : Value} {od an : Option Addr} {osl : Array (Option Value)}
end
end Dt
set_option Elab.async false
set_option linter.all false
set_option maxRecDepth 100000
set_option autoImplicit false
namespace Dt
open PySem PySem.Spec L2 Kx
end Dt
set_option Elab.async false
set_option linter.all false
set_option maxRecDepth 100000
set_option autoImplicit false
namespace Dt
open PySem PySem.Spec L2 Kx
section
variable {X : Cx} {T : Tb} {E : XK} {io : Bool} {o k e : Expr} {tk t : TE} {wk w : WE} {pos : Pos}
end
end Dt
set_option Elab.async false
set_option linter.all false
set_option maxRecDepth 100000
set_option maxHeartbeats 2000000
set_option autoImplicit false
namespace L2
open PySem PySem.Spec PyProof.Rows
section
variable {X : Cx}
end
end L2
namespace Dt
open PySem L2 Kx
def frD (p : Int × Int) : D := .tup [.int p.1, .int p.2]
def dSortI : List D → (R → Prop) → Prop := fun ds Ψ => ∃ ns : List Int, ds = [.lst (ns.map D.int)] ∧ ns.length < 64 ∧ ∀ ms : List Int, ms.Perm ns → ms.Pairwise (· ≤ ·) → Ψ (.new (ms.map D.int))
theorem cd_sortI {T : Tb} : CD T (rSorted T.K) dSortI := fun F H vs ds Q Ψ o hx hg k => by
  obtain ⟨ns, rfl, hz, h⟩ := hg
  obtain ⟨v, rfl, hv⟩ := hx.one
  obtain ⟨a, us, rfl, ha, ra⟩ := hv.lst o.sub
  rw [ra.ints] at ha
  exact ⟨a, ns, rfl, .inl ha, hz, fun ms p hp hs hn => new_ok o hn RepA.ofInts (h ms hp hs) k⟩
theorem cr_sortIK {X : Cx} {K : PySem.W.Frag} (h : X.K = K) : CallR X (.builtin "sorted") (rSorted K) := h ▸ cr_sorted
end Dt
set_option Elab.async false
set_option linter.all false
set_option maxRecDepth 100000
set_option autoImplicit false
namespace Dea
open PySem Kx Dt L2
def quots (ts : List Int) (w : Int) : List Int := ts.map fun t => w * t / ts.sum
def left (ts : List Int) (w : Int) : Nat := (w - (quots ts w).sum).toNat
end Dea
set_option Elab.async false
set_option linter.all false
set_option maxRecDepth 100000
set_option autoImplicit false
namespace Dt
open PySem L2 Kx
def wf__law_low : WF := fun ds row Ψ Ξ => ∃ t b : Int, ds = [.int t, .int b] ∧ b ≠ 0 ∧ Bd 3100 t ∧ Bd 3100 b ∧ Ψ (.val (frD (lowT t b, lowB t b))) []
def wf__law_whole : WF := fun ds row Ψ Ξ => ∃ t : Int, ds = [.int t] ∧ Ψ (.val (.bl true)) []
theorem gcd_step {x y g : Nat} (h : Nat.gcd x y = g) (hy : y ≠ 0) : Nat.gcd y (x % y) = g := by
  rw [← h, Nat.gcd_comm x y, Nat.gcd_rec y x, Nat.gcd_comm]
theorem gcd_abs {t b : Int} : Int.gcd (if t < 0 then -t else t) (if b < 0 then -b else b) = Int.gcd t b := by
  unfold Int.gcd
  congr 1 <;> split <;> omega
theorem at_all {P : Int → Prop} {v : Int} (zs : List Int) (h0 : 0 ≤ v) (h1 : v < zs.length) (hp : ∀ z ∈ zs, P z) : ∃ m, P m ∧ atI (zs.map D.int) v = some (.int m) := by
  obtain ⟨z, hz, ha⟩ := at_in (ds := zs.map D.int) h0 (by simpa using h1)
  obtain ⟨m, hm, rfl⟩ := List.mem_map.mp hz
  exact ⟨m, hp m hm, ha⟩
section
variable {p : Int × Int} {Ψ : R → Prop} {Γ : Gm} {k : Gm → Prop} {wgs : WGs}
theorem fr_ix0 : dIx (frD p) (.int 0) Ψ = Ψ (.val (.int p.1)) := by unfold frD; simp only [dx_tup, atR_ap, ix0, atM_some]
theorem fr_ix1 : dIx (frD p) (.int 1) Ψ = Ψ (.val (.int p.2)) := by unfold frD; simp only [dx_tup, atR_ap, ix1, atM_some]
theorem fr_gT : wgTup 2 wgs (frD p) Γ k = wgs [.int p.1, .int p.2] Γ k := by unfold frD; rw [gT_ap]; exact propext ⟨fun h => h.2, fun h => ⟨rfl, h⟩⟩
theorem fr_isi : D.isi (frD p) "tuple" = some true := rfl
end
theorem low_eq {t b : Int} (hb : 0 < b) : lowT t b * b = t * lowB t b := by
  obtain ⟨g, _, h1, h2⟩ := low_mul (t := t) hb
  generalize lowT t b = A at *
  generalize lowB t b = B at *
  rw [h1, h2]
  simp only [Int.mul_comm, Int.mul_left_comm]
theorem size_le {n : Nat} (h : n ≤ 100000) : n ≤ sizeLine := Nat.le_trans h (by decide)
end Dt
set_option Elab.async false
set_option linter.all false
set_option maxRecDepth 100000
set_option maxHeartbeats 4000000
set_option autoImplicit false
namespace L2
open PySem PySem.Spec PyProof.Rows
section
variable {κ : Type} [DecidableEq κ]
def metS (σ : List κ) (k : κ) : List κ := if k ∈ σ then σ else σ ++ [k]
def met (ks : List κ) : List κ := ks.foldl metS []
end
section
variable {prog : Program} {w : World} {A : Around} {κ : Type} [DecidableEq κ] {knd : KeyKind prog w κ}
end
local macro_rules | `(tactic| walk_at "wps") => `(tactic| (repeat (any_goals (first | assumption | wp_step))))
section
variable {prog : Program} {w : World} {A : Around} {κ : Type} [DecidableEq κ] {knd : KeyKind prog w κ} {E : Value → Shared → Prop} {s : Shared}
end
end L2
set_option Elab.async false
set_option linter.all false
set_option maxRecDepth 100000
set_option maxHeartbeats 4000000
set_option autoImplicit false
namespace L2
open PySem PySem.Spec PyProof.Rows
section
variable {X : Cx}
end
end L2
namespace Dt
open PySem L2 Kx
section
variable {T : Tb} {E : XK} {tA : TA} {wA : WA} {X : Cx}
def SetLen (ds : List D) (n : Nat) : Prop := ds.length < 4000 ∧ ((∃ ns : List Int, ds = ns.map D.int ∧ n = (met ns).length) ∨ ∃ xs : List Str, ds = xs.map D.str ∧ n = (met xs).length)
def wLenSet (wA : WA) : WE := fun Γ Ψ Ξ => wA Γ (fun rs Γ1 => ∃ ds n, ats Γ1 rs = some [.lst ds] ∧ SetLen ds n ∧ Ψ (.val (.int (n : Nat))) Γ1) Ξ
theorem lenSet_ap {Γ : Gm} {Φ : R → Gm → Prop} {Ξ : XD → Prop} : wLenSet wA Γ Φ Ξ = wA Γ (fun rs Γ1 => atsR Γ1 rs fun ds => match ds with | [.lst es] => ∃ n, SetLen es n ∧ Φ (.val (.int (n : Nat))) Γ1 | _ => False) Ξ := by
  unfold wLenSet atsR
  congr 1
  funext rs Γ1
  refine propext ⟨fun ⟨ds, n, h, q⟩ => ⟨_, h, n, q⟩, fun ⟨ds, h, q⟩ => ?_⟩
  dsimp only at q
  split at q
  · obtain ⟨n, q⟩ := q
    exact ⟨_, n, h, q⟩
  · exact q.elim
end
end Dt
set_option Elab.async false
set_option linter.all false
set_option maxRecDepth 100000
set_option maxHeartbeats 2000000
set_option autoImplicit false
namespace L2
open PySem PySem.Spec PyProof.Rows
section
variable {X : Cx} {e k : Expr} {te tk : TE} {p2 pos : Pos}
end
end L2
namespace Dt
open PySem L2 Kx
section
variable {T : Tb} {E : XK} {X : Cx} {e k : Expr} {t tk : TE} {w wk : WE} {p2 pos : Pos}
def dRevS : D → D → (R → Prop) → Prop := fun d e Ψ => ∃ ds j, d = .lst ds ∧ e = .int j ∧ (j = 1 ∨ j = -1) ∧ Ψ (.new (if j = 1 then ds else ds.reverse))
theorem revS_ap {ds : List D} {j : Int} {Ψ : R → Prop} : dRevS (.lst ds) (.int j) Ψ = sideR (j = 1 ∨ j = -1) (Ψ (.new (if j = 1 then ds else ds.reverse))) := propext ⟨fun ⟨_, _, e1, e2, h⟩ => by cases e1; cases e2; exact h, fun h => ⟨_, _, rfl, rfl, h⟩⟩
end
end Dt
set_option Elab.async false
set_option linter.all false
set_option maxRecDepth 100000
set_option maxHeartbeats 1000000
set_option autoImplicit false
namespace Dt
open PySem L2 Kx
section
variable {T : Tb} {io : Bool} {E : XK} {X : Cx} {e : Expr} {t : TE} {w : WE} {x y : Str} {px py pos : Pos}
def wTwo (i j : Nat) (w : WE) : WS := fun Ψ Γ => w Γ (fun r Γ1 => frzR Γ1 r fun d Γ2 => goR Ψ.nx ((Γ2.set i (some (.shr d))).set j (some (.shr d)))) Ψ.xe
theorem two_ap {i j : Nat} {Ψ : WEnds} {Γ : Gm} : wTwo i j w Ψ Γ = w Γ (fun r Γ1 => frzR Γ1 r fun d Γ2 => goR Ψ.nx ((Γ2.set i (some (.shr d))).set j (some (.shr d)))) Ψ.xe := rfl
end
def Bnd (a b c d : Int) : Prop := (Bd 1500 a ∧ Bd 1500 b ∧ Bd 1500 c ∧ Bd 1500 d) ∧ 1 ≤ b ∧ 1 ≤ d
theorem bnd_ne {b d : Int} (h : 1 ≤ b) (h' : 1 ≤ d) : b * d ≠ 0 := fun z => by
  rcases Int.mul_eq_zero.mp z with y | y <;> omega
def wf_is_whole : WF := fun ds row Ψ Ξ => ∃ t : Int, ds = [.int t] ∧ Ψ (.val (.bl true)) []
def wf_common_divisor : WF := fun ds row Ψ Ξ => ∃ x y : Int, ds = [.int x, .int y] ∧ 0 ≤ x ∧ 0 ≤ y ∧ Ψ (.val (.int ((Int.gcd x y : Nat) : Int))) []
def wf_fraction : WF := fun ds row Ψ Ξ => ∃ t b : Int, ds = [.int t, .int b] ∧ Bd 3100 t ∧ Bd 3100 b ∧ b ≠ 0 ∧ Ψ (.val (frD (lowT t b, lowB t b))) []
def wf_bin (f g : Int → Int → Int → Int → Int) : WF := fun ds row Ψ Ξ => ∃ a b c d : Int, ds = [frD (a, b), frD (c, d)] ∧ Bnd a b c d ∧ Ψ (.val (frD (lowT (f a b c d) (g a b c d), lowB (f a b c d) (g a b c d)))) []
def wf_plus : WF := wf_bin (fun a b c d => a * d + c * b) (fun a b c d => b * d)
def wf_less : WF := wf_bin (fun a b c d => a * d - c * b) (fun a b c d => b * d)
def wf_times : WF := wf_bin (fun a b c d => a * c) (fun a b c d => b * d)
def wf_over : WF := fun ds row Ψ Ξ => ∃ a b c d : Int, ds = [frD (a, b), frD (c, d)] ∧ Bnd a b c d ∧ c ≠ 0 ∧ Ψ (.val (frD (lowT (a * d) (b * c), lowB (a * d) (b * c)))) []
def wf_nearest : WF := fun ds row Ψ Ξ => ∃ t b : Int, ds = [frD (t, b)] ∧ 0 < b ∧ Bd 3100 b ∧ Ψ (.val (.int ((2 * t + b) / (2 * b)))) []
theorem mbd {n : Nat} {x y : Int} (hy : 0 < y) (hx : Bd n x) (hb : Bd n y) : Bd n (lowT x y) ∧ Bd n (lowB x y) ∧ 1 ≤ lowB x y := by
  have lp := low_pos (t := x) hy
  unfold Bd at *
  omega
theorem lowT_pos {x y : Int} (hy : 0 < y) (hx : 0 < x) : 0 < lowT x y := by
  obtain ⟨g, g0, ex, ey⟩ := low_mul (t := x) hy
  rcases Int.lt_or_le 0 (lowT x y) with h | h
  · exact h
  · have : g * lowT x y ≤ 0 := Int.mul_nonpos_of_nonneg_of_nonpos (by omega) h
    omega
end Dt
set_option Elab.async false
set_option linter.all false
set_option maxRecDepth 100000
set_option maxHeartbeats 1000000
set_option autoImplicit false
namespace Dt
open PySem PySem.Spec L2 Kx PyProof.Rows
def CL : List (Str × List Str) := [("Scale", ["low", "high", "rows"]), ("Bars", ["table", "rows", "width"]), ("Lines", ["table", "rows", "width"]), ("Stacks", ["table", "rows", "width"]), ("Shares", ["table", "rows", "width"])]
def ClsF (K : PySem.W.Frag) (C : Addr) (fs : List Str) : Prop := Cls K C ∧ ∀ f ∈ fs, NoAttr K C f
def ClsK (K : PySem.W.Frag) (c : Str) (fs : List Str) : Prop := ∀ C : Addr, PySem.W.nsIn K mainGlobals c = some (some (.ref C)) → ClsF K C fs
def ClsA (K : PySem.W.Frag) : Prop := ∀ p ∈ CL, ClsK K p.1 p.2
theorem RepA.look {K : PySem.W.Frag} {F : Hp} {f : Str} {z : D} : ∀ {ns : List Str} {vs : List V} {ds : List D}, RepA K F vs ds → (ns.zip ds).lookup f = some z → ∃ v, (ns.zip vs).lookup f = some v ∧ Rep K F v z
  | [], _, _, _, h => by simp at h
  | _ :: _, _, _, .nil, h => by simp at h
  | n :: ns, _, _, .cons (v := v) (d := d) h r, e => by
    rw [List.zip_cons_cons, List.lookup_cons] at e
    rw [List.zip_cons_cons, List.lookup_cons]
    split at e
    · cases e
      exact ⟨v, rfl, h⟩
    · exact RepA.look r e
theorem look_none {α : Type} {m : Str} : ∀ {ns : List Str} {vs : List α}, ns.contains m = false → (ns.zip vs).lookup m = none
  | [], _, _ => by simp
  | _ :: _, [], _ => by simp
  | n :: ns, v :: vs, h => by
    rw [List.contains_cons, Bool.or_eq_false_iff] at h
    rw [List.zip_cons_cons, List.lookup_cons, h.1]
    exact look_none h.2
section
variable {T : Tb} {E : XK} {X : Cx} {e o : Expr} {es : List Expr} {t : TE} {w : WE} {pos apos p : Pos} {f m x : Str} {tA : TA} {wA : WA}
def rFld (K : PySem.W.Frag) (f : Str) : V → Hp → VK → Prop := fun x H Q => ∃ a C dx fs v, x = .ref a ∧ H a = some (.ins C dx fs) ∧ Cls K C ∧ NoAttr K C f ∧ fs.lookup f = some v ∧ Q v H
def fldF (f c : Str) (ns : List Str) (ds : List D) : Option D := if (CL.any fun p => decide (p.1 = c) && p.2.contains f) = true then (ns.zip ds).lookup f else none
def dFld (f : Str) : D → (R → Prop) → Prop := fun d Ψ => ∃ c ns ds z, d = .obj c ns ds ∧ fldF f c ns ds = some z ∧ Ψ (.val z)
theorem ud_fld (hA : ClsA T.K) : UD T (rFld T.K f) (dFld f) := fun F H x d Q Ψ ok hx hg k => by
  obtain ⟨c, ns, ds, z, rfl, hz, h⟩ := hg
  unfold fldF at hz
  split at hz
  · rename_i ha
    obtain ⟨pr, hp, hb⟩ := List.any_eq_true.mp ha
    rw [Bool.and_eq_true, decide_eq_true_eq] at hb
    rcases hx with hx | ⟨_, _, _, _, y, _⟩
    · cases hx with
      | obj hC hF hr =>
        obtain ⟨v, h1, h2⟩ := RepA.look hr hz
        obtain ⟨c1, c2⟩ := hA pr hp _ (by rw [hb.1]; exact hC)
        exact ⟨_, _, _, _, v, rfl, ok.sub _ _ hF, c1, c2 f (List.contains_iff_mem.mp hb.2), h1, k F H v _ h ok.refl h2⟩
    · cases y
  · cases hz
theorem q_fld (hA : ClsA T.K) (hK : X.K = T.K) (h : QE X T E e t w) (hb : attributeBase e f X.env (eval e X.env) = eval e X.env) : QE X T E (.Attribute e f pos) (tUn (rFld T.K f) t) (wUn (dFld f) w) := ⟨hK ▸ pe_fld h.pe hb, ed_un (ud_fld hA) h.ed⟩
def tMethD (T : Tb) (m : Str) (tab : List (Str × WF)) (E : XK) (ta : TE) (t : TA) : TE := fun σ H Q => ta σ H fun x H1 => ∃ a C dx fs c wf, x = .ref a ∧ H1 a = some (.ins C dx fs) ∧ fs.lookup m = none ∧ PySem.W.nsIn T.K mainGlobals c = some (some (.ref C)) ∧ tab.lookup c = some wf ∧
  t σ H1 fun vs H2 => spD T false wf (x :: vs) H2 Q E
def MtA (X : Cx) (T : Tb) (CX : CXT) (k : Nat) (m : Str) (tab : List (Str × WF)) : Prop := ∀ c wf, tab.lookup c = some wf → ∀ C : Addr, PySem.W.nsIn T.K mainGlobals c = some (some (.ref C)) → Cls X.K C ∧ ∃ j ps, j ≤ k ∧ CalM X.prog X.w X.K X.mg X.base CX j C m ps (spD T false wf)
variable {CX : CXT} {k : Nat} {tab : List (Str × WF)}
theorem pe_methD {pl : Sem Bool} (M : MtA X T CX k m tab) (he : PE X o t) (hr : Room k X.A) (hx : Passes CX X E) (ha : PA X (e :: es) tA) (hs : (e :: es).any isStar = false)
    (ht : eval (.Call (.Attribute o m apos) (e :: es) [] pos) X.env = (do
      let ov ← eval o X.env
      standAt apos.atName
      let (f, first) ← holding [ov] (getMethod ov m pl)
      callWith pos f first (backTo pos (starEach (e :: es) X.env)) (backToKw pos (keywordEach [] X.env))) := by rfl) :
    PE X (.Call (.Attribute o m apos) (e :: es) [] pos) (tMethD T m tab E t tA) := by
  have h2 : isStar e = false ∧ es.any isStar = false := by simpa using hs
  intro pins s σ H Q I h
  refine PySem.W.methodCall_KW (pl := pl) (thn (he pins s σ H _ I h) fun u s1 ⟨x, H1, I1, rx, a, C, dx, fs, c, wf, ex, ea, l, hC, hw, q⟩ => ?_) ht
  subst ex
  obtain rfl : u = Value.ref a := rx
  obtain ⟨cl, j, ps, hj, ⟨fa, fd, hm, F, hb⟩⟩ := M c wf hw C hC
  refine getmeth_ok I1 ea cl hm l ?_
  refine PySem.W.callWith_K (first := [.ref a]) (h₀ := X.base) I.ok.mod.kin hm.kp (thn (ha pos pins s1 σ H1 _ I1 q) fun us s2 ⟨vs, H2, I2, r, q2⟩ => ⟨I2.kIn, ?_⟩) (star_cons h2.1) (star_any h2.2)
  exact run_fn (us := .ref a :: us) (vs := .ref a :: vs) F (hr.mono hj) hb .nil hx I2 (.cons rfl r) (by rw [List.append_nil]; exact q2)
def wMeth (m : Str) (tab : List (Str × WF)) (wo : WE) (wA : WA) : WE := fun Γ Ψ Ξ => wo Γ (fun r Γ1 => ∃ c ns ds wf, r = .val (.obj c ns ds) ∧ tab.lookup c = some wf ∧ ns.contains m = false ∧ wA Γ1 (fun rs Γ2 => callW false wf (.val (.obj c ns ds) :: rs) Γ2 Ψ Ξ) Ξ) Ξ
theorem ed_meth {to : TE} {wo : WE} (ho : ED T E to wo) (hA : AD T E tA wA) : ED T E (tMethD T m tab E to tA) (wMeth m tab wo wA) := fun F σ H Γ Q Ψ Ξ p h x k => ho F σ H Γ _ _ Ξ p h x fun F1 H1 Γ1 v r hr q e => by
  obtain ⟨c, ns, ds, wf, rfl, hw, hm, hA'⟩ := hr
  cases (show Rep T.K F1 v (.obj c ns ds) from e) with
  | obj hC hF hr =>
    refine ⟨_, _, _, _, c, wf, rfl, q.rp.sub _ _ hF, look_none hm, hC, hw, ?_⟩
    refine hA F1 σ H1 Γ1 _ _ Ξ q.rp hA' (x.on q) fun F2 H2 Γ2 vs rs hrs q2 e2 => ?_
    have er : RepR T F2 σ H2 Γ2 H _ (R.hold (.val (.obj c ns ds))) := Rep.mono q2.ff (Rep.obj hC hF hr)
    exact call_d (q.trans q2) (RepRs.cons er (e2.back q)) hrs x k
theorem q_meth {to : TE} {wo : WE} {pl : Sem Bool} (M : MtA X T CX k m tab) (ho : QE X T E o to wo) (ha : QA X T E (e :: es) tA wA) (hr : Room k X.A) (hx : Passes CX X E) (hs : (e :: es).any isStar = false)
    (ht : eval (.Call (.Attribute o m apos) (e :: es) [] pos) X.env = (do
      let ov ← eval o X.env
      standAt apos.atName
      let (f, first) ← holding [ov] (getMethod ov m pl)
      callWith pos f first (backTo pos (starEach (e :: es) X.env)) (backToKw pos (keywordEach [] X.env))) := by rfl) :
    QE X T E (.Call (.Attribute o m apos) (e :: es) [] pos) (tMethD T m tab E to tA) (wMeth m tab wo wA) := ⟨pe_methD (pl := pl) M ho.pe hr hx ha.pe hs ht, ed_meth ho.ed ha.ed⟩
abbrev WM := List D → (List D → Prop) → (XD → Prop) → Prop
def spI (T : Tb) (ns : List Str) (wm : WM) : Sp := fun vs H Q E => ∃ (F H1 : Hp) (C x dx : Addr) (vs' : List V) (ds : List D) (Ψ : List D → Prop) (Ξ : XD → Prop),
  H = upd (upd H1 dx (.own x)) x (.ins C dx []) ∧ H1 x = none ∧ H1 dx = none ∧ dx ≠ x ∧ ClsF T.K C ns ∧ Ok T F H1 ∧ vs = .ref x :: vs' ∧ RepA T.K F vs' ds ∧ wm ds Ψ Ξ ∧
  (∀ F' H' vs2 ds2, Ψ ds2 → Nw T F H1 F' H' → H' x = some (.ins C dx (ns.zip vs2)) → F' x = none → RepA T.K F' vs2 ds2 → Q .non H') ∧
  ∀ F' H' xd, Ξ xd → Nw T F H1 F' H' → XE T F' H' E xd
def wMake (c : Str) (ns : List Str) (wm : WM) (wA : WA) : WE := fun Γ Ψ Ξ => wA Γ (fun rs Γ1 => ∃ ds Γ2, frzL Γ1 rs = some (ds, Γ2) ∧ wm ds (fun ds2 => Ψ (.val (.obj c ns ds2)) Γ2) Ξ) Ξ
theorem ins_nt {C dx : Addr} {fs : List (Str × V)} : NoT (.ins C dx fs) := fun _ z => by cases z
theorem ed_make {c : Str} {ns : List Str} {wm : WM} {C : Addr} (hC : PySem.W.nsIn T.K mainGlobals c = some (some (.ref C))) (hF : ClsF T.K C ns) (hA : AD T E tA wA) : ED T E (tMake C (spI T ns wm) [] E tA) (wMake c ns wm wA) := fun F σ H Γ Q Ψ Ξ p h x k => hA F σ H Γ _ _ Ξ p h x fun F1 H1 Γ1 vs rs hr q e => by
  obtain ⟨ds, Γ2, a, hw⟩ := hr
  obtain ⟨F2, q2, s2, r2⟩ := e.frz q a
  intro y dy hy hdy hne
  refine ⟨F2, H1, C, y, dy, vs, ds, _, Ξ, rfl, hy, hdy, hne, hF, q2.rp.toOk, by rw [List.append_nil], r2, hw, fun F' H' vs2 ds2 h2 n hx fx r' => ⟨rfl, ?_⟩, fun F' H' xd hx n => x F' H' Γ2 xd hx (q2.nw n)⟩
  have ff : Same F' (upd F' y (.ins C dy (ns.zip vs2))) := same_new fx _
  have n2 : Nw T F2 H1 (upd F' y (.ins C dy (ns.zip vs2))) H' := by
    refine ⟨⟨fun b u hb => ?_, fun b u hb => ?_, n.ok.tabs, n.ok.labs⟩, fun b u hb => ff _ _ (n.ff b u hb), n.hh, n.gro, fun b u hb => ?_⟩
    · by_cases z : b = y
      · subst z; rw [upd_same] at hb; cases hb; exact hx
      · rw [upd_ne z] at hb; exact n.ok.sub _ _ hb
    · by_cases z : b = y
      · subst z; rw [upd_same] at hb; cases hb; exact ins_nt
      · rw [upd_ne z] at hb; exact n.ok.nt _ _ hb
    · by_cases z : b = y
      · subst z; exact .inr hy
      · rw [upd_ne z] at hb; exact n.nf b u hb
  exact k _ H' Γ2 _ _ h2 (q2.nw n2) (Rep.obj hC upd_same (r'.mono ff))
def CA (K : PySem.W.Frag) (x : Str) : Addr := match PySem.W.nsIn K mainGlobals x with
  | some (some (.ref C)) => C
  | _ => 0
theorem CA_of {K : PySem.W.Frag} {x : Str} {C : Addr} (h : PySem.W.nsIn K mainGlobals x = some (some (.ref C))) : CA K x = C := by
  unfold CA
  rw [h]
structure CalN (P : Program) (w : World) (K : PySem.W.Frag) (mg : Str → Option Value) (base : Heap) (CX : CXT) (k : Nat) (x : Str) (ns ps : List Str) (sp : Sp) : Prop where
  at_ : PySem.W.nsIn K mainGlobals x = some (some (.ref (CA K x)))
  cl : ClsF K (CA K x) ns
  cal : CalK P w K mg base CX k (CA K x) x ps sp
theorem q_make {j : Nat} {ns ps : List Str} {wm : WM} (N : CalN X.prog X.w X.K X.mg X.base CX j x ns ps (spI T ns wm)) (hK : X.K = T.K) (hr : Room k X.A) (hx : Passes CX X E) (ha : QA X T E (e :: es) tA wA) (hg : Gl X x) (hj : j + 1 ≤ k) (hdb : (x == ("__debug__" : Str)) = false) (hs : (e :: es).any isStar = false) :
    QE X T E (.Call (.Name x p) (e :: es) [] pos) (tMake (CA X.K x) (spI T ns wm) [] E tA) (wMake x ns wm wA) := ⟨pe_makeC N.cal hr hx ha.pe hg hj hdb hs, ed_make (hK ▸ N.at_) (hK ▸ N.cl) ha.ed⟩
end
structure IvS (T : Tb) (H1 F0 : Hp) (x C dx : Addr) (fs : List Str) (ds : List D) (F : Hp) (σ : L2.St) (H : Hp) (Γ : Gm) : Prop where
  rp : Rp T F σ H Γ
  nw : Nw T F0 H1 F H
  self : σ[0]? = some (some (.ref x))
  fresh : H1 x = none
  fx : F x = none
  at_ : ∃ us, H x = some (.ins C dx (fs.zip us)) ∧ us.length = fs.length ∧ RepA T.K F us ds
  no : ∀ (i : Nat) (es : List D), Γ[i]? ≠ some (some (En.own es))
section
variable {T : Tb} {H1 F0 F H F' H' : Hp} {x C dx : Addr} {fs : List Str} {ds : List D} {σ : L2.St} {Γ Γ' : Gm}
theorem IvS.noOwns {b : Addr} (s : IvS T H1 F0 x C dx fs ds F σ H Γ) : ¬ Owns σ Γ b := fun ⟨i, es, h, _⟩ => s.no i es h
theorem Nw.trans {F1 H2 F2 H3 : Hp} (a : Nw T F0 H1 F1 H2) (b : Nw T F1 H2 F2 H3) : Nw T F0 H1 F2 H3 where
  ok := b.ok
  ff := fun c o h => b.ff c o (a.ff c o h)
  hh := fun c o h t => b.hh c o (a.hh c o h t) t
  gro := fun c o h => let ⟨o1, h1⟩ := a.gro c o h; b.gro c o1 h1
  nf := fun c o h => by
    rcases b.nf c o h with z | z
    · exact a.nf c o z
    · cases e : H1 c with
      | none => exact .inr rfl
      | some u => obtain ⟨u', z'⟩ := a.gro c u e; rw [z] at z'; cases z'
theorem IvS.po (s : IvS T H1 F0 x C dx fs ds F σ H Γ) (q : Po T F σ H Γ F' H' Γ') : IvS T H1 F0 x C dx fs ds F' σ H' Γ' := by
  have n : Nw T F H F' H' := ⟨q.rp.toOk, q.ff, fun b o h t => q.fr b o h t s.noOwns, q.gro, fun b o h => (q.nf b o h).elim .inl fun z => z.elim .inr fun y => absurd y s.noOwns⟩
  obtain ⟨us, h1, h2, h3⟩ := s.at_
  refine ⟨q.rp, s.nw.trans n, s.self, s.fresh, q.known h1 s.fx s.noOwns, ⟨us, q.fr _ _ h1 ins_nt s.noOwns, h2, h3.mono q.ff⟩, ?_⟩
  · intro i es h
    obtain ⟨es', h'⟩ := q.ow i es h
    exact s.no i es' h'
abbrev WIk := Gm → List Str → List D → Prop
abbrev WIn := WIk → WIk
def SI (T : Tb) (ns : List Str) (t : TS) (w : WIn) : Prop := ∀ (H1 F0 : Hp) (x C dx : Addr) (fs : List Str) (ds : List D) (F : Hp) (σ : L2.St) (H : Hp) (Γ : Gm) (D : Ends) (Ψ : WIk), ClsF T.K C ns → IvS T H1 F0 x C dx fs ds F σ H Γ → w Ψ Γ fs ds →
  (∀ F' σ' H' Γ' fs' ds', Ψ Γ' fs' ds' → IvS T H1 F0 x C dx fs' ds' F' σ' H' Γ' → D.nx σ' H') → t D σ H
theorem xoF {E : XK} {Ξ : XD → Prop} (h : ∀ xd, ¬ Ξ xd) : XO T σ E Ξ F H Γ := fun _ _ _ xd z _ => absurd z (h xd)
variable {ns : List Str} {s1 s2 : TS} {u1 u2 : WIn} {t1 : TT} {w1 : WT} {t : TE} {w : WE} {f : Str}
def wInSeq (u1 u2 : WIn) : WIn := fun Ψ => u1 (u2 Ψ)
theorem si_seq (h : SI T ns s1 u1) (h' : SI T ns s2 u2) : SI T ns (tSeq s1 s2) (wInSeq u1 u2) := fun H1 F0 x C dx fs ds F σ H Γ D Ψ c s hw k =>
  h H1 F0 x C dx fs ds F σ H Γ _ _ c s hw fun F' σ' H' Γ' fs' ds' h1 s1 => h' H1 F0 x C dx fs' ds' F' σ' H' Γ' D Ψ c s1 h1 k
def wInIf (w1 : WT) : WIn := fun Ψ Γ fs ds => w1 Γ (fun b Γ1 => b = false ∧ Ψ Γ1 fs ds) fun _ => False
def wInDrop (w : WE) : WIn := fun Ψ Γ fs ds => w Γ (fun _ Γ1 => Ψ Γ1 fs ds) fun _ => False
theorem put_new_f : ∀ {fs : List Str} {us : List V} {y : V}, fs.contains f = false → us.length = fs.length → putF f y (fs.zip us) = (fs ++ [f]).zip (us ++ [y])
  | [], [], _, _, _ => rfl
  | n :: fs, u :: us, y, h, hl => by
    rw [List.contains_cons, Bool.or_eq_false_iff] at h
    have ih := put_new_f (fs := fs) (us := us) (y := y) h.2 (by simpa using hl)
    have hne : ¬ n = f := fun z => by rw [z, beq_self_eq_true] at h; cases h.1
    simp only [List.zip_cons_cons, List.cons_append]
    unfold putF
    simp [hne, ih]
def wInPut (f : Str) (w : WE) : WIn := fun Ψ Γ fs ds => fs.length < 900 ∧ fs.contains f = false ∧ w Γ (fun r Γ1 => ∃ d Γ2, frz Γ1 r = some (d, Γ2) ∧ Ψ Γ2 (fs ++ [f]) (ds ++ [d])) fun _ => False
theorem si_put (h : ED T E0 t w) (hf : f ∈ ns) : SI T ns (sFld T.K (tVar 0) t f) (wInPut f w) := fun H1 F0 x C dx fs ds F σ H Γ D Ψ c s hw k => by
  obtain ⟨hl, hc, hw⟩ := hw
  refine h F σ H Γ _ _ _ s.rp hw (xoF fun _ z => z) fun F1 H2 Γ1 v r hr q er => ?_
  obtain ⟨d, Γ2, a, hk⟩ := hr
  obtain ⟨F2, q2, s2, r2⟩ := RepR.frz q er a
  have i2 := s.po q2
  obtain ⟨us, h1, h2, h3⟩ := i2.at_
  refine ⟨_, i2.self, x, C, dx, _, rfl, h1, c.1, c.2 f hf, by rw [List.length_zip]; omega, ?_⟩
  rw [put_new_f hc h2]
  have hx1 := s.fresh
  refine k F2 σ _ Γ2 _ _ hk ⟨⟨⟨fun b o hb => ?_, i2.rp.nt, fun P hP => ?_, fun l hP => ?_⟩, i2.rp.len, fun j e hj => ?_, i2.rp.apart⟩, ⟨⟨fun b o hb => ?_, i2.rp.nt, fun P hP => ?_, fun l hP => ?_⟩, i2.nw.ff, fun b o hb ht => ?_, fun b o hb => ?_, i2.nw.nf⟩, i2.self, hx1, i2.fx, ⟨us ++ [v], upd_same, by simp [h2], h3.append (.cons r2 .nil)⟩, i2.no⟩
  · rw [upd_ne fun z => by rw [z, i2.fx] at hb; cases hb]; exact i2.rp.sub _ _ hb
  · obtain ⟨ps, e1, e2⟩ := i2.rp.tabs P hP
    exact ⟨ps, by rw [upd_ne (ne_of e1 h1 (by intro z; cases z))]; exact e1, e2⟩
  · obtain ⟨ps, e1, e2, e3⟩ := i2.rp.labs l hP
    refine ⟨ps, by rw [upd_ne (ne_of e1 h1 (by intro z; cases z))]; exact e1, e2, fun cv hcv => ?_⟩
    obtain ⟨c', oc, ws, t', g1, g2, g3⟩ := e3 cv hcv
    exact ⟨c', oc, ws, t', g1, by rw [upd_ne (ne_of g2 h1 (by intro z; cases z))]; exact g2, g3⟩
  · obtain ⟨v', e1, re⟩ := i2.rp.at_ j e hj
    refine ⟨v', e1, ?_⟩
    cases e with
    | shr d => exact re
    | own es => exact absurd hj (i2.no j es)
  · rw [upd_ne fun z => by rw [z, i2.fx] at hb; cases hb]; exact i2.rp.sub _ _ hb
  · obtain ⟨ps, e1, e2⟩ := i2.rp.tabs P hP
    exact ⟨ps, by rw [upd_ne (ne_of e1 h1 (by intro z; cases z))]; exact e1, e2⟩
  · obtain ⟨ps, e1, e2, e3⟩ := i2.rp.labs l hP
    refine ⟨ps, by rw [upd_ne (ne_of e1 h1 (by intro z; cases z))]; exact e1, e2, fun cv hcv => ?_⟩
    obtain ⟨c', oc, ws, t', g1, g2, g3⟩ := e3 cv hcv
    exact ⟨c', oc, ws, t', g1, by rw [upd_ne (ne_of g2 h1 (by intro z; cases z))]; exact g2, g3⟩
  · rw [upd_ne fun z => by rw [z, hx1] at hb; cases hb]; exact i2.nw.hh b o hb ht
  · rw [upd_ne fun z => by rw [z, hx1] at hb; cases hb]; exact i2.nw.gro b o hb
end
structure QIn (X : Cx) (T : Tb) (ns : List Str) (st : Stmt) (t : TS) (w : WIn) : Prop where
  pe : PS X st t
  ed : SI T ns t w
structure QIns (X : Cx) (T : Tb) (ns : List Str) (st : List Stmt) (t : TS) (w : WIn) : Prop where
  pe : PSs X st t
  ed : SI T ns t w
section
variable {X : Cx} {T : Tb} {ns : List Str} {c e o : Expr} {t1 : TT} {w1 : WT} {t : TE} {w : WE} {pos pos' : Pos} {f : Str} {b1 : List Stmt} {st : Stmt} {ss : List Stmt} {s1 s2 : TS} {u1 u2 : WIn} {ex : Stmt}
theorem q_inPut (hK : X.K = T.K) (ho : PE X o (tVar 0)) (h : QE X T E0 e t w) (hf : f ∈ ns) (hs : swapsWith e (some (.Attribute o f pos')) pos.line X.env = pure false) : QIn X T ns (.Assign [.Attribute o f pos'] e pos) (sFld T.K (tVar 0) t f) (wInPut f w) := ⟨hK ▸ ps_fld ho h.pe hs, si_put h.ed hf⟩
theorem q_in1 (h : QIn X T ns st s1 u1) : QIns X T ns [st] s1 u1 := ⟨pss_one h.pe, h.ed⟩
theorem q_inC (h : QIn X T ns st s1 u1) (h' : QIns X T ns ss s2 u2) : QIns X T ns (st :: ss) (tSeq s1 s2) (wInSeq u1 u2) := ⟨pss_cons h.pe h'.pe, si_seq h.ed h'.ed⟩
end
section
variable {P : Program} {wd : World} {K : PySem.W.Frag} {mg : Str → Option Value} {base : Heap} {x qual : Str} {st : Stmt} {f : Addr} {fd : FuncData} {N ps ns : List Str} {k : Nat} {ts : List Addr} {ls : List (Addr × Pos × Str)} {wm : WM} {w : WIn}
def startI (n : Nat) (ds : List D) : Gm := none :: (ds.map fun d => some (.shr d)) ++ List.replicate (n - (ds.length + 1)) none
theorem startI_ok {T : Tb} {F H1 : Hp} {C x dx : Addr} {vs : List V} {ds : List D} (ok : Ok T F H1) (hx : H1 x = none) (hd : H1 dx = none) (hne : dx ≠ x) (hn : ds.length + 1 ≤ N.length) (r : RepA T.K F vs ds) :
    IvS T H1 F x C dx [] [] F (start N (.ref x :: vs)) (upd (upd H1 dx (.own x)) x (.ins C dx [])) (startI N.length ds) := by
  have n1 : Nw T F H1 F (upd H1 dx (.own x)) := ok.put hd
  have hx2 : upd H1 dx (.own x) x = none := by rw [upd_ne (Ne.symm hne)]; exact hx
  have n2 := n1.trans (n1.ok.put (o := .ins C dx []) hx2)
  have fx : F x = none := by
    cases e : F x with
    | none => rfl
    | some u => have := ok.sub _ _ e; rw [hx] at this; cases this
  have hl := r.length
  have at0 : ∀ (i : Nat) (e : En), (startI N.length ds)[i]? = some (some e) → ∃ v d, (start N (.ref x :: vs))[i]? = some (some v) ∧ e = .shr d ∧ Rep T.K F v d := fun i e h => by
    cases i with
    | zero => simp [startI] at h
    | succ i =>
      obtain ⟨v, d, g1, g2, g3⟩ := shr_at (m := N.length - (vs.length + 1)) (i := i) (e := e) r (by simpa [startI] using h)
      exact ⟨v, d, by simpa [L2.start] using g1, g2, g3⟩
  refine ⟨⟨n2.ok, ?_, fun i e h => ?_, fun i j es es' v h1 _ _ _ => ?_⟩, n2, by simp [L2.start], hx, fx, ⟨[], upd_same, rfl, .nil⟩, fun i es h => ?_⟩
  · show (none :: (ds.map fun d => some (En.shr d)) ++ List.replicate (N.length - (ds.length + 1)) none).length = ((V.ref x :: vs).map some ++ List.replicate (N.length - (V.ref x :: vs).length) none).length
    simp [hl]
  · obtain ⟨v, d, g1, rfl, g3⟩ := at0 i e h
    exact ⟨v, g1, g3⟩
  · obtain ⟨_, _, _, z, _⟩ := at0 i _ h1
    cases z
  · obtain ⟨_, _, _, z, _⟩ := at0 i _ h
    cases z
theorem fn_init (F : Fun K x qual st f fd) (S : FnScope N ps (defScope st)) (hn : ps.length ≤ N.length) (hl : ∀ ds Ψ Ξ, wm ds Ψ Ξ → 1 + ds.length = ps.length)
    (hw : ∀ ds Ψ Ξ, wm ds Ψ Ξ → w (fun _ fs es => fs = ns ∧ Ψ es) (startI N.length ds) [] [])
    (hb : ∀ (cdv : Value) (A : Around) (outer : List Env) (s : Shared) (H : Hp) (E : XK), Room k (A.deeper (envOfC qual (defScope st) s.heap.objs.size f cdv)) → ∃ t, QIns (cxOf (CXE P wd) P wd K mg base N qual (defScope st) f cdv A outer s H E).nox ⟨K, ts, ls⟩ ns (defBody st) t w) :
    FnOk P wd K mg base (CXE P wd) (k + 1) f fd ps (spI ⟨K, ts, ls⟩ ns wm) := by
  refine Fun.okT F S (fun vs H Q E h => ?_) fun cdv A outer s H vs Q E hr h => ?_
  · obtain ⟨F0, H1, C, y, dy, vs', ds, Ψ, Ξ, _, _, _, _, _, _, rfl, r, h, _⟩ := h
    rw [← hl ds Ψ Ξ h, List.length_cons, r.length]
    omega
  obtain ⟨t, q⟩ := hb cdv A outer s H E hr
  obtain ⟨F0, H1, C, y, dy, vs', ds, Ψ, Ξ, rfl, h1, h2, h3, hc, ok, rfl, r, hwm, kk, kx⟩ := h
  refine ⟨t, q.pe, ?_⟩
  have e := hl ds Ψ Ξ hwm
  refine q.ed H1 F0 y C dy [] [] F0 _ _ _ _ _ hc (startI_ok ok h1 h2 h3 (by omega) r) (hw ds Ψ Ξ hwm) fun F' σ' H' Γ' fs' ds' hk s' => ?_
  obtain ⟨rfl, hk⟩ := hk
  obtain ⟨us, g1, g2, g3⟩ := s'.at_
  exact kk F' H' us ds' hk s'.nw g1 s'.fx g3
end
structure CalC (P : Program) (w : World) (K : PySem.W.Frag) (mg : Str → Option Value) (base : Heap) (CX : CXT) (k : Nat) (c m : Str) (ps : List Str) (sp : Sp) : Prop where
  at_ : PySem.W.nsIn K mainGlobals c = some (some (.ref (CA K c)))
  cl : Cls K (CA K c)
  cal : CalM P w K mg base CX k (CA K c) m ps sp
section
variable {X : Cx} {T : Tb} {CX : CXT} {j k : Nat} {m c : Str} {ps : List Str} {wf : WF} {tab : List (Str × WF)}
theorem mt_nil : MtA X T CX k m [] := fun c wf h => by cases h
theorem mt_cons (h : CalC X.prog X.w X.K X.mg X.base CX j c m ps (spD T false wf)) (hj : j ≤ k) (hK : X.K = T.K) (r : MtA X T CX k m tab) : MtA X T CX k m ((c, wf) :: tab) := fun c' wf' e C hC => by
  rw [List.lookup_cons] at e
  split at e
  · rename_i hb
    cases e
    have ec : c' = c := beq_iff_eq.mp hb
    subst ec
    have : CA X.K c' = C := by rw [hK]; exact CA_of hC
    subst this
    exact ⟨h.cl, j, ps, hj, h.cal⟩
  · exact r c' wf' e C hC
end
section
variable {Γ : Gm} {Φ : R → Gm → Prop} {Ξ : XD → Prop} {m f c : Str} {ns : List Str} {ds : List D} {tab : List (Str × WF)} {wo : WE} {wA : WA} {wm : WM} {Ψ : R → Prop}
def fldR (o : Option D) (k : R → Prop) (_ : Tg k := ⟨⟩) : Prop := ∃ z, o = some z ∧ k (.val z)
theorem fld_ap : dFld f (.obj c ns ds) Ψ = fldR (fldF f c ns ds) Ψ := propext ⟨fun ⟨_, _, _, z, e, h⟩ => by cases e; exact ⟨z, h⟩, fun ⟨z, h⟩ => ⟨_, _, _, z, rfl, h⟩⟩
def objR (r : R) (m : Str) (tab : List (Str × WF)) (k : D → WF → Prop) (_ : Tg k := ⟨⟩) : Prop := ∃ c ns ds wf, r = .val (.obj c ns ds) ∧ tab.lookup c = some wf ∧ ns.contains m = false ∧ k (.obj c ns ds) wf
theorem meth_ap : wMeth m tab wo wA Γ Φ Ξ = wo Γ (fun r Γ1 => objR r m tab fun d wf => wA Γ1 (fun rs Γ2 => callW false wf (.val d :: rs) Γ2 Φ Ξ) Ξ) Ξ := rfl
theorem objR_by {m : Str} {tab : List (Str × WF)} {k : D → WF → Prop} {c : Str} {ns : List Str} {ds : List D} {wf : WF} (h1 : tab.lookup c = some wf) (h2 : ns.contains m = false) (h : k (.obj c ns ds) wf) : objR (.val (.obj c ns ds)) m tab k := ⟨c, ns, ds, wf, rfl, h1, h2, h⟩
def mkR (wm : WM) (ds : List D) (k : List D → Prop) (Ξ : XD → Prop) (_ : Tg k := ⟨⟩) : Prop := wm ds k Ξ
theorem make_ap : wMake c ns wm wA Γ Φ Ξ = wA Γ (fun rs Γ1 => frzLR Γ1 rs fun ds Γ2 => mkR wm ds (fun ds2 => Φ (.val (.obj c ns ds2)) Γ2) Ξ) Ξ := rfl
variable {Ψi : WIk} {u1 u2 : WIn} {w1 : WT} {w : WE} {fs : List Str}
theorem inSeq_ap : wInSeq u1 u2 Ψi Γ fs ds = u1 (u2 Ψi) Γ fs ds := rfl
theorem inIf_ap : wInIf w1 Ψi Γ fs ds = w1 Γ (fun b Γ1 => sideR (b = false) (Ψi Γ1 fs ds)) fun _ => False := rfl
theorem inDrop_ap : wInDrop w Ψi Γ fs ds = w Γ (fun _ Γ1 => Ψi Γ1 fs ds) fun _ => False := rfl
theorem inPut_ap : wInPut f w Ψi Γ fs ds = sideR (fs.length < 900 ∧ fs.contains f = false) (w Γ (fun r Γ1 => frzR Γ1 r fun d Γ2 => Ψi Γ2 (fs ++ [f]) (ds ++ [d])) fun _ => False) := by
  unfold wInPut sideR frzR
  rw [and_assoc]
theorem startI_ap {n : Nat} : startI n ds = none :: (ds.map fun d => some (.shr d)) ++ List.replicate (n - (ds.length + 1)) none := rfl
end
abbrev scD (a b : Int × Int) (n : Int) : D := .obj "Scale" ["low", "high", "rows"] [frD a, frD b, .int n]
section
variable {x y z : D} {Ψ : R → Prop}
theorem sc_low : dFld "low" (.obj "Scale" ["low", "high", "rows"] [x, y, z]) Ψ = Ψ (.val x) := by rw [fld_ap]; exact propext ⟨fun ⟨_, e, h⟩ => by cases e; exact h, fun h => ⟨_, rfl, h⟩⟩
theorem sc_high : dFld "high" (.obj "Scale" ["low", "high", "rows"] [x, y, z]) Ψ = Ψ (.val y) := by rw [fld_ap]; exact propext ⟨fun ⟨_, e, h⟩ => by cases e; exact h, fun h => ⟨_, rfl, h⟩⟩
theorem sc_rows : dFld "rows" (.obj "Scale" ["low", "high", "rows"] [x, y, z]) Ψ = Ψ (.val z) := by rw [fld_ap]; exact propext ⟨fun ⟨_, e, h⟩ => by cases e; exact h, fun h => ⟨_, rfl, h⟩⟩
end
end Dt
set_option Elab.async false
set_option linter.all false
set_option maxRecDepth 100000
set_option maxHeartbeats 1000000
set_option autoImplicit false
namespace Dt
open PySem L2 Kx
structure ScB (t b t2 b2 n : Int) : Prop where
  bt : Bd 100 t
  bb : Bd 100 b
  bt2 : Bd 100 t2
  bb2 : Bd 100 b2
  b0 : 0 < b
  b20 : 0 < b2
  lt : 0 < t2 * b - t * b2
  n0 : 2 ≤ n
  n1 : n ≤ 40
def atT (t b t2 b2 n c d : Int) : Int := t * (d * n * b2 * b) + c * (t2 * b - t * b2) * b
def atB (b b2 n d : Int) : Int := b * (d * n * b2 * b)
def nearZ (x y : Int) : Int := (2 * x + y) / (2 * y)
theorem near_scale {x y g : Int} (hy : 0 < y) (hg : 0 < g) : nearZ (x * g) (y * g) = nearZ x y := by
  unfold nearZ
  rw [show 2 * (x * g) + y * g = (2 * x + y) * g by rw [Int.add_mul, Int.mul_assoc], show 2 * (y * g) = 2 * y * g by rw [Int.mul_assoc]]
  exact Int.mul_ediv_mul_of_pos_left _ _ hg
theorem near_low {x y : Int} (hy : 0 < y) : nearZ (lowT x y) (lowB x y) = nearZ x y := by
  obtain ⟨g, g0, ex, ey⟩ := low_mul (t := x) hy
  have p := low_pos (t := x) hy
  have h := near_scale (x := lowT x y) (y := lowB x y) (g := g) (by omega) g0
  rw [Int.mul_comm _ g, Int.mul_comm _ g, ← ex, ← ey] at h
  exact h.symm
theorem low_in_mul {x y c d : Int} (hy : 0 < y) (hd : 0 < d) : lowT (c * lowT x y) (d * lowB x y) = lowT (c * x) (d * y) ∧ lowB (c * lowT x y) (d * lowB x y) = lowB (c * x) (d * y) := by
  obtain ⟨g, g0, ex, ey⟩ := low_mul (t := x) hy
  have p := low_pos (t := x) hy
  have h := low_scale (t := c * lowT x y) (b := d * lowB x y) (m := g) (Int.mul_pos hd (by omega)) g0
  rw [Int.mul_assoc, Int.mul_assoc, Int.mul_comm _ g, Int.mul_comm _ g, ← ex, ← ey] at h
  exact ⟨h.1.symm, h.2.symm⟩
theorem low_in_add {x y t b : Int} (hy : 0 < y) (hb : 0 < b) : lowT (t * lowB x y + lowT x y * b) (b * lowB x y) = lowT (t * y + x * b) (b * y) ∧ lowB (t * lowB x y + lowT x y * b) (b * lowB x y) = lowB (t * y + x * b) (b * y) := by
  obtain ⟨g, g0, ex, ey⟩ := low_mul (t := x) hy
  have p := low_pos (t := x) hy
  have h := low_scale (t := t * lowB x y + lowT x y * b) (b := b * lowB x y) (m := g) (Int.mul_pos hb (by omega)) g0
  have e1 : (t * lowB x y + lowT x y * b) * g = t * y + x * b := by
    rw [Int.add_mul, Int.mul_assoc, Int.mul_comm _ g, ← ey, Int.mul_right_comm, Int.mul_comm _ g, ← ex]
  have e2 : b * lowB x y * g = b * y := by rw [Int.mul_assoc, Int.mul_comm _ g, ← ey]
  rw [e1, e2] at h
  exact ⟨h.1.symm, h.2.symm⟩
def lvX (t b b2 n u v : Int) : Int := (u * b - t * v) * n * (b2 * b)
def lvY (t b t2 b2 v : Int) : Int := v * b * 1 * (t2 * b - t * b2)
theorem low_in_over {x y c d : Int} (hy : 0 < y) (hd : 0 < d) (hc : 0 < c) : lowT (lowT x y * lowB c d) (lowB x y * lowT c d) = lowT (x * d) (y * c) ∧ lowB (lowT x y * lowB c d) (lowB x y * lowT c d) = lowB (x * d) (y * c) := by
  obtain ⟨g, g0, ex, ey⟩ := low_mul (t := x) hy
  obtain ⟨k, k0, ec, ed⟩ := low_mul (t := c) hd
  have p := low_pos (t := x) hy
  have tc : 0 < lowT c d := by
    rcases Int.lt_or_le 0 (lowT c d) with h | h
    · exact h
    · have : k * lowT c d ≤ 0 := Int.mul_nonpos_of_nonneg_of_nonpos (by omega) h
      omega
  have h := low_scale (t := lowT x y * lowB c d) (b := lowB x y * lowT c d) (m := g * k) (Int.mul_pos (by omega) tc) (Int.mul_pos g0 k0)
  have e1 : lowT x y * lowB c d * (g * k) = x * d := by
    conv => rhs; rw [ex, ed]
    rw [Int.mul_comm g k, ← Int.mul_assoc, Int.mul_assoc _ _ k, Int.mul_comm _ k, Int.mul_right_comm, Int.mul_comm _ g]
  have e2 : lowB x y * lowT c d * (g * k) = y * c := by
    conv => rhs; rw [ey, ec]
    rw [Int.mul_comm g k, ← Int.mul_assoc, Int.mul_assoc _ _ k, Int.mul_comm _ k, Int.mul_right_comm, Int.mul_comm _ g]
  rw [e1, e2] at h
  exact ⟨h.1.symm, h.2.symm⟩
theorem at_is {t b t2 b2 n c d : Int} (h : ScB t b t2 b2 n) (hd : 0 < d) :
    let u := lowT (t2 * b - t * b2) (b2 * b); let v := lowB (t2 * b - t * b2) (b2 * b)
    let w := lowT (c * u) (d * v); let z := lowB (c * u) (d * v)
    let x := lowT (w * 1) (z * n); let y := lowB (w * 1) (z * n)
    lowT (t * y + x * b) (b * y) = lowT (atT t b t2 b2 n c d) (atB b b2 n d) ∧ lowB (t * y + x * b) (b * y) = lowB (atT t b t2 b2 n c d) (atB b b2 n d) := by
  intro u v w z x y
  have p1 : 0 < b2 * b := Int.mul_pos h.b20 h.b0
  have p2 : 0 < d * (b2 * b) := Int.mul_pos hd p1
  have n0 := h.n0
  have p3 : 0 < d * (b2 * b) * n := Int.mul_pos p2 (by omega)
  have h1 := low_in_mul (x := t2 * b - t * b2) (c := c) p1 hd
  have h2 := low_in_mul (x := c * (t2 * b - t * b2)) (y := d * (b2 * b)) (c := 1) (d := n) p2 (by omega)
  have ex : x = lowT (c * (t2 * b - t * b2)) (d * (b2 * b) * n) := by
    show lowT (lowT (c * u) (d * v) * 1) (lowB (c * u) (d * v) * n) = _
    rw [h1.1, h1.2, Int.mul_comm _ 1, Int.mul_comm _ n, h2.1, Int.one_mul, Int.mul_comm n]
  have ey : y = lowB (c * (t2 * b - t * b2)) (d * (b2 * b) * n) := by
    show lowB (lowT (c * u) (d * v) * 1) (lowB (c * u) (d * v) * n) = _
    rw [h1.1, h1.2, Int.mul_comm _ 1, Int.mul_comm _ n, h2.2, Int.one_mul, Int.mul_comm n]
  have h3 := low_in_add (x := c * (t2 * b - t * b2)) (y := d * (b2 * b) * n) (t := t) p3 h.b0
  rw [ex, ey, h3.1, h3.2]
  have e : d * (b2 * b) * n = d * n * b2 * b := by rw [Int.mul_right_comm, ← Int.mul_assoc]
  unfold atT atB
  rw [e]
  exact ⟨rfl, rfl⟩
theorem nb {n : Int} (h0 : 2 ≤ n) (h1 : n ≤ 40) : Bd 6 n := by unfold Bd; omega
def wm_Scale___init__ : WM := fun ds Ψ Ξ => ∃ a b n : D, ds = [a, b, n] ∧ Ψ [a, b, n]
def wf_Scale_at_levels : WF := fun ds row Ψ Ξ => ∃ t b t2 b2 n c d : Int, ds = [scD (t, b) (t2, b2) n, frD (c, d)] ∧ ScB t b t2 b2 n ∧ Bd 700 c ∧ Bd 700 d ∧ 0 < d ∧ Ψ (.val (frD (lowT (atT t b t2 b2 n c d) (atB b b2 n d), lowB (atT t b t2 b2 n c d) (atB b b2 n d)))) []
def wf_Scale_number : WF := fun ds row Ψ Ξ => ∃ t b t2 b2 n c : Int, ds = [scD (t, b) (t2, b2) n, .int c] ∧ ScB t b t2 b2 n ∧ Bd 700 c ∧ Ψ (.val (frD (lowT (atT t b t2 b2 n c 1) (atB b b2 n 1), lowB (atT t b t2 b2 n c 1) (atB b b2 n 1)))) []
def wf_Scale_level : WF := fun ds row Ψ Ξ => ∃ t b t2 b2 n u v : Int, ds = [scD (t, b) (t2, b2) n, frD (u, v)] ∧ ScB t b t2 b2 n ∧ Bd 600 u ∧ Bd 600 v ∧ 0 < v ∧ Ψ (.val (.int (nearZ (lvX t b b2 n u v) (lvY t b t2 b2 v)))) []
def wf_scale_over : WF := fun ds row Ψ Ξ => ∃ (ms : List (Int × Int)) (n : Int) (a z : Int × Int), ds = [.lst (ms.map frD), .int n] ∧ ms.head? = some a ∧ ms.getLast? = some z ∧ Ψ (.val (scD a z n)) []
theorem at_head {ms : List (Int × Int)} {a : Int × Int} (h : ms.head? = some a) : atI (ms.map frD) 0 = some (frD a) := by
  cases ms with
  | nil => cases h
  | cons b l => cases h; exact ix0
theorem at_last {α : Type} {f : α → D} {ms : List α} {z : α} (h : ms.getLast? = some z) : atI (ms.map f) (-1) = some (f z) := by
  obtain ⟨l, rfl⟩ : ∃ l, ms = l ++ [z] := by
    rw [List.getLast?_eq_some_iff] at h
    exact h
  rw [List.map_append]
  unfold atI ixN
  have hl : (l.map f ++ [z].map f).length = l.length + 1 := by simp
  rw [hl, if_neg (by decide), if_pos (by omega)]
  rw [show ((-1 : Int) + ((l.length + 1 : Nat) : Int)).toNat = l.length by omega]
  simp
end Dt
set_option Elab.async false
set_option linter.all false
set_option maxRecDepth 100000
set_option maxHeartbeats 1000000
set_option autoImplicit false
namespace Dt
open PySem PySem.Spec L2 Kx
section
variable {T : Tb} {E : XK} {X : Cx} {t : TE} {w : WE}
def fltF : D → List D
  | .tup [_, .tup es] => es
  | _ => []
def okF (d : D) : Prop := ∃ n es, d = .tup [n, .tup es]
def wFlat (a b c : Nat) (w : WE) : WE := fun Γ Ψ Ξ => (a < Γ.length ∧ b < Γ.length ∧ c < Γ.length) ∧ w Γ (fun r Γ1 => ∃ ds Γ2, frz Γ1 r = some (.tup ds, Γ2) ∧ (∀ d ∈ ds, okF d) ∧ (ds.flatMap fltF).length ≤ sizeLine ∧ Ψ (.new (ds.flatMap fltF)) Γ2) Ξ
variable {e : Expr} {pos pt p1 p2 p3 p4 p5 : Pos} {scope : Scope} {own : List (Str × Nat)} {x y z : Str} {k : Nat}
theorem flat_ap {a b c : Nat} {Γ : Gm} {Φ : R → Gm → Prop} {Ξ : XD → Prop} : wFlat a b c w Γ Φ Ξ = sideR (a < Γ.length ∧ b < Γ.length ∧ c < Γ.length) (w Γ (fun r Γ1 => frzR Γ1 r fun d Γ2 => match d with | .tup ds => sideR ((∀ d ∈ ds, okF d) ∧ (ds.flatMap fltF).length ≤ sizeLine) (Φ (.new (ds.flatMap fltF)) Γ2) | _ => False) Ξ) := by
  unfold wFlat sideR frzR
  congr 2
  funext r Γ1
  refine propext ⟨fun ⟨ds, Γ2, h, h1, h2, q⟩ => ⟨_, Γ2, h, ⟨h1, h2⟩, q⟩, fun ⟨d, Γ2, h, q⟩ => ?_⟩
  dsimp only at q
  split at q
  · exact ⟨_, Γ2, h, q.1.1, q.1.2, q.2⟩
  · exact q.elim
def wExt (i : Nat) (we : WE) : WE := fun Γ Ψ Ξ => ∃ ds0, Γ[i]? = some (some (.own ds0)) ∧ we Γ (fun r Γ1 => ∃ es ds, r = .new es ∧ Γ1[i]? = some (some (.own ds)) ∧ ds.length + es.length ≤ sizeLine ∧ Ψ (.val .non) (Γ1.set i (some (.own (ds ++ es))))) Ξ
def newR (r : R) (k : List D → Prop) (_ : Tg k := ⟨⟩) : Prop := ∃ es, r = .new es ∧ k es
theorem newR_new {es : List D} {k : List D → Prop} : newR (.new es) k = k es := propext ⟨fun ⟨_, e, h⟩ => by cases e; exact h, fun h => ⟨_, rfl, h⟩⟩
theorem ext_ap {i : Nat} {we : WE} {Γ : Gm} {Φ : R → Gm → Prop} {Ξ : XD → Prop} : wExt i we Γ Φ Ξ = ownR Γ i fun _ => we Γ (fun r Γ1 => newR r fun es => ownR Γ1 i fun ds => sideR (ds.length + es.length ≤ sizeLine) (goR (Φ (.val .non)) (Γ1.set i (some (.own (ds ++ es)))))) Ξ := by
  unfold wExt ownR newR sideR goR
  simp only [exists_and_left]
end
section
variable {X : Cx} {T : Tb} {E : XK} {c d : Str} {b : Bool} {e : Expr} {t : TE} {w : WE} {pos p1 p2 : Pos}
def wIsC (tab : List (Str × Bool)) (w : WE) : WE := fun Γ Ψ Ξ => w Γ (fun r Γ1 => ∃ c ns ds b, r = .val (.obj c ns ds) ∧ tab.lookup c = some b ∧ Ψ (.val (.bl b)) Γ1) Ξ
def isR (r : R) (tab : List (Str × Bool)) (k : Bool → Prop) (_ : Tg k := ⟨⟩) : Prop := ∃ c ns ds b, r = .val (.obj c ns ds) ∧ tab.lookup c = some b ∧ k b
theorem isC_ap {tab : List (Str × Bool)} {Γ : Gm} {Φ : R → Gm → Prop} {Ξ : XD → Prop} : wIsC tab w Γ Φ Ξ = w Γ (fun r Γ1 => isR r tab fun b => Φ (.val (.bl b)) Γ1) Ξ := rfl
end
section
variable {x y z : D} {Ψ : R → Prop}
end
end Dt
set_option Elab.async false
set_option linter.all false
set_option maxRecDepth 100000
set_option maxHeartbeats 1000000
set_option autoImplicit false
namespace Dt
open PySem L2 Kx
abbrev Rw := Str × List (Int × Int)
def un (p : Int × Int) : Int := p.1 * 10 ^ 12 / p.2
def CU (u v s : Int) : Int := -(-v / s) - u / s + 1
def tkU (u v : Int) : Int := if u = v then (if v = 0 then 10 ^ 12 else v + (if v < 0 then -v else v)) else v
def StpU (u v m : Int) (j : Nat) : Prop := CU u v (Kx.R j) ≤ m ∧ ∀ i, i < j → m < CU u v (Kx.R i)
def mkP (x : Int) : Int × Int := (lowT x (10 ^ 12), lowB x (10 ^ 12))
structure Un (t b u : Int) : Prop where
  b0 : 0 < b
  eq : u * b = t * 10 ^ 12
end Dt
set_option Elab.async false
set_option linter.all false
set_option maxRecDepth 100000
set_option maxHeartbeats 1000000
set_option autoImplicit false
namespace Dt
open PySem L2 Kx
theorem look_relabel {env : Env} {x : Str} : ∀ {ns : List (Str × NameKind)}, (ns.lookup x = some .cell ∨ ns.lookup x = some .free) →
    (ns.map fun (n, k) => if (k == NameKind.free && env.scope.kind == .function && env.kindOf n == some .cell) then (n, NameKind.cell) else (n, k)).lookup x = some .cell ∨
    (ns.map fun (n, k) => if (k == NameKind.free && env.scope.kind == .function && env.kindOf n == some .cell) then (n, NameKind.cell) else (n, k)).lookup x = some .free
  | [], h => by simp at h
  | (n, k) :: r, h => by
    have ih := @look_relabel env x r
    show List.lookup x ((if (k == NameKind.free && env.scope.kind == .function && env.kindOf n == some .cell) = true then (n, NameKind.cell) else (n, k)) :: _) = _ ∨ List.lookup x ((if (k == NameKind.free && env.scope.kind == .function && env.kindOf n == some .cell) = true then (n, NameKind.cell) else (n, k)) :: _) = _
    generalize (k == NameKind.free && env.scope.kind == .function && env.kindOf n == some .cell) = c
    cases hx : x == n with
    | true =>
      simp only [List.lookup_cons, hx] at h
      cases c
      · rw [if_neg (by decide)]
        simp only [List.lookup_cons, hx]
        exact h
      · rw [if_pos rfl]
        left
        simp only [List.lookup_cons, hx]
    | false =>
      simp only [List.lookup_cons, hx] at h
      have := ih h
      cases c
      · rw [if_neg (by decide), List.lookup_cons, hx]
        exact this
      · rw [if_pos rfl, List.lookup_cons, hx]
        exact this
theorem blkOk_in {N : List Str} {env : Env} {sc scope : Scope} {own : List (Str × Nat)} (h : blkC N sc scope own = true) : BlkOk N (relabel sc env) scope own := by
  have q := blkOk_by h
  exact ⟨q.kind, q.uniq, q.ix, fun y hy e => look_relabel (q.free y hy e), q.own⟩
end Dt
set_option Elab.async false
set_option linter.all false
set_option maxRecDepth 100000
set_option maxHeartbeats 1000000
set_option autoImplicit false
namespace Dt
open PySem L2 Kx
theorem ones_sum : ∀ l : List Nat, ((l.map fun c => (⟨#[c]⟩ : Str)).map (·.length)).sum = l.length
  | [] => rfl
  | c :: l => by
    rw [List.map_cons, List.map_cons, List.sum_cons, ones_sum l, List.length_cons, Nat.add_comm]
    rfl
def wf__law_names : WF := fun ds row Ψ Ξ => ∃ (m N : Int), ds = [.int m] ∧ RowD N row ∧ 0 ≤ N ∧ N < 2 ^ 40 ∧ 1 ≤ m ∧ m ≤ 12 ∧ ∀ (ss : List Str) row', (ss.length : Int) = m → (∀ s ∈ ss, TxOk 30 s) → RowD (N + 100) row' → Ψ (.new (ss.map .str)) row'
def mkI (u v : Int) (j : Nat) : List Int := (List.range (CU u v (Kx.R j)).toNat).map fun i : Nat => (u / Kx.R j + (i : Int)) * Kx.R j
def wf__law_marks : WF := fun ds row Ψ Ξ => ∃ u v n : Int, ds = [.int u, .int v, .int n] ∧ -(4 * 10 ^ 24) < u ∧ u ≤ v ∧ v < 4 * 10 ^ 24 ∧ (10 ^ 6 : Int) ∣ u ∧ (10 ^ 6 : Int) ∣ v ∧ 2 ≤ n ∧ n ≤ 40 ∧ ∀ j, j < 75 + 1 → StpU u (tkU u v) (n / 2 + 2) j → Ψ (.new ((mkI u (tkU u v) j).map .int)) []
end Dt
set_option Elab.async false
set_option linter.all false
set_option maxRecDepth 100000
set_option maxHeartbeats 1000000
set_option autoImplicit false
namespace L2
open PySem PySem.Spec PyProof.Rows
section
variable {CX : CXT} {P : Program} {w : World} {K : PySem.W.Frag} {mg : Str → Option Value} {base : Heap} {N ps : List Str} {qual : Str} {scope : Scope} {f cc : Addr} {cd : Value} {A : Around} {outer : List Env} {s : Shared} {H : Hp} {E : XK} {us : List Value} {vs : List V}
end
section
variable {X : Cx} {C f2 a dx : Addr} {m : Str} {pins : List (Addr × Obj)} {σ : St} {H : Hp} {s : Shared} {fs : List (Str × V)} {body : List Stmt} {p0 p1 : Pos} {whole : Sem Value} {Q : Value → Shared → Prop} {E : Value → Shared → Prop}
end
section
variable {X : Cx} {CX : CXT} {C f2 : Addr} {fd : FuncData} {k : Nat} {m : Str} {ps : List Str} {sp : Sp} {E : XK} {body : List Stmt} {e : Expr} {es : List Expr} {p0 p1 apos pos : Pos} {ta : TA} {te : TE} {t : TS} {rest : List Stmt}
end
end L2
namespace Dt
open PySem L2 Kx
section
variable {T : Tb} {E : XK} {m c : Str} {wf : WF} {C : Addr} {tA : TA} {wA : WA}
end
section
variable {X : Cx} {T : Tb} {CX : CXT} {E : XK} {C f2 : Addr} {fd : FuncData} {k j : Nat} {m c : Str} {ps ns : List Str} {wf : WF} {wm : WM} {body : List Stmt} {e : Expr} {es : List Expr} {p0 p1 apos pos : Pos} {tA : TA} {wA : WA}
end
section
variable {P : Program} {wd : World} {K : PySem.W.Frag} {mg : Str → Option Value} {base : Heap} {x qual m : Str} {st : Stmt} {f cc cda C f2 : Addr} {N ps ns : List Str} {k : Nat} {ts : List Addr} {ls : List (Addr × Pos × Str)} {wf : WF} {kV doc pm ct oc : Value} {an od : Option Addr} {osl : Array (Option Value)} {cl : Value} {cld : Option Addr} {csl : Array (Option Value)}
end
section
variable {X : Cx} {T : Tb} {CX : CXT} {E : XK} {k : Nat} {e : Expr} {es : List Expr} {p pos : Pos} {tA : TA} {wA : WA} {x : Str}
end
end Dt
set_option Elab.async false
set_option linter.all false
set_option maxRecDepth 100000
set_option maxHeartbeats 1000000
set_option autoImplicit false
namespace Dt
open PySem L2 Kx
def pre (fs : List (Int × Int)) (k : Nat) : Int := ((fs.take k).map un).sum
end Dt
set_option Elab.async false
set_option linter.all false
set_option maxRecDepth 100000
set_option maxHeartbeats 1000000
set_option autoImplicit false
namespace Zt
open PySem PySem.Builtin PyProof.Rows
section
variable {prog : Program} {w : World} {A : Around} {E : Value → Shared → Prop} {s : Shared}
end
section
variable {prog : Program} {w : World} {A : Around} {E : Value → Shared → Prop} {s : Shared} {z TI TO i1 i2 : Addr} {f1 f2 : List Addr} {n1 n2 k : Nat} {P1 P2 : Nat → Value → Prop} {S1 S2 : Nat → Heap → Prop} {a b : Value}
end
end Zt
namespace L2
open PySem PySem.Spec PyProof.Rows
end L2
namespace Dt
open PySem L2 Kx
section
variable {T : Tb} {E : XK} {F H : Hp} {tA : TA} {wA : WA}
def wIZipT (wA : WA) : WI := fun Γ Ψ Ξ => wA Γ (fun rs Γ1 => ∃ ds es Γ2, frzL Γ1 rs = some ([.tup ds, .tup es], Γ2) ∧ Ψ (zp ds es) Γ2) Ξ
theorem izT_ap {Γ : Gm} {Φd : List D → Gm → Prop} {Ξ : XD → Prop} : wIZipT wA Γ Φd Ξ = wA Γ (fun rs Γ1 => frzLR Γ1 rs fun ds Γ2 => match ds with | [.tup es, .tup fs] => Φd (zp es fs) Γ2 | _ => False) Ξ := by
  unfold wIZipT frzLR
  congr 1
  funext rs Γ1
  refine propext ⟨fun ⟨ds, es, Γ2, h, q⟩ => ⟨_, Γ2, h, q⟩, fun ⟨ds, Γ2, h, q⟩ => ?_⟩
  dsimp only at q
  split at q
  · exact ⟨_, _, Γ2, h, q⟩
  · exact q.elim
variable {X : Cx} {a b : Expr} {pos : Pos}
end
end Dt
set_option Elab.async false
set_option linter.all false
set_option maxRecDepth 100000
set_option maxHeartbeats 1000000
set_option autoImplicit false
namespace Zt
open PySem PySem.Builtin PyProof.Rows
end Zt
namespace Dt
open PySem PySem.Spec L2 Kx PyProof.Rows
section
variable {X : Cx} {T : Tb} {F H : Hp}
def dRepT : D → D → (R → Prop) → Prop := fun d e Ψ => ∃ xs k, d = .tup xs ∧ e = .int k ∧ (xs ≠ [] ∧ 1 ≤ k ∧ k < 2 ^ 30 ∧ xs.length * k.toNat ≤ sizeLine) ∧ Ψ (.val (.tup (List.replicate k.toNat xs).flatten))
theorem drepT_ap {xs : List D} {k : Int} {Ψ : R → Prop} : dRepT (.tup xs) (.int k) Ψ = sideR (xs ≠ [] ∧ 1 ≤ k ∧ k < 2 ^ 30 ∧ xs.length * k.toNat ≤ sizeLine) (Ψ (.val (.tup (List.replicate k.toNat xs).flatten))) := propext ⟨fun ⟨_, _, e1, e2, h⟩ => by cases e1; cases e2; exact h, fun h => ⟨_, _, rfl, rfl, h⟩⟩
end
end Dt
set_option Elab.async false
set_option linter.all false
set_option maxRecDepth 100000
set_option maxHeartbeats 1000000
set_option autoImplicit false
namespace Dt
open PySem L2 Kx
theorem mkP_key (u : Int) : 0 < (mkP u).2 ∧ (mkP u).1 * 10 ^ 12 = u * (mkP u).2 ∧ (mkP u).2 ≤ 10 ^ 12 := by
  have lp := low_pos (t := u) (b := 10 ^ 12) (by decide)
  exact ⟨by show 0 < lowB u (10 ^ 12); omega, low_eq (by decide), lp.2.1⟩
theorem mkP_bd {u : Int} (h : u.natAbs < 2 ^ 95) : Bd 100 (mkP u).1 ∧ Bd 100 (mkP u).2 := by
  obtain ⟨g, g0, e1, e2⟩ := low_mul (t := u) (b := 10 ^ 12) (by decide)
  have k := mkP_key u
  have ht : (mkP u).1.natAbs ≤ u.natAbs := by
    show (lowT u (10 ^ 12)).natAbs ≤ u.natAbs
    conv => rhs; rw [e1, Int.natAbs_mul]
    exact Nat.le_mul_of_pos_left _ (by omega)
  exact ⟨Bd.mono (m := 95) (by unfold Bd; omega) (by decide), Bd.mono (m := 95) (by unfold Bd; omega) (by decide)⟩
theorem sc_ok {u v n : Int} (h0 : u.natAbs < 2 ^ 95) (h1 : v.natAbs < 2 ^ 95) (h : u < v) (n0 : 2 ≤ n) (n1 : n ≤ 40) : ScB (mkP u).1 (mkP u).2 (mkP v).1 (mkP v).2 n := by
  have a := mkP_bd h0
  have b := mkP_bd h1
  have ka := mkP_key u
  have kb := mkP_key v
  refine ⟨a.1, a.2, b.1, b.2, ka.1, kb.1, ?_, n0, n1⟩
  refine Int.lt_of_mul_lt_mul_right (a := 10 ^ 12) ?_ (by decide)
  rw [Int.zero_mul]
  have e1 : (mkP v).1 * (mkP u).2 * 10 ^ 12 = v * ((mkP u).2 * (mkP v).2) := by rw [Int.mul_right_comm, kb.2.1, Int.mul_assoc, Int.mul_comm (mkP v).2]
  have e2 : (mkP u).1 * (mkP v).2 * 10 ^ 12 = u * ((mkP u).2 * (mkP v).2) := by rw [Int.mul_right_comm, ka.2.1, Int.mul_assoc]
  rw [Int.sub_mul, e1, e2, ← Int.sub_mul]
  exact Int.mul_pos (by omega) (Int.mul_pos ka.1 kb.1)
section
variable {X : Cx} {T : Tb}
end
end Dt
set_option Elab.async false
set_option linter.all false
set_option maxRecDepth 100000
set_option autoImplicit false
namespace Dt
open PySem L2 Kx
mutual
inductive Nol : D → Prop
  | non : Nol .non
  | bl (b : Bool) : Nol (.bl b)
  | int (i : Int) : Nol (.int i)
  | str (x : Str) : Nol (.str x)
  | tup {ds : List D} : NolA ds → Nol (.tup ds)
  | obj {c : Str} {ns : List Str} {ds : List D} : NolA ds → Nol (.obj c ns ds)
inductive NolA : List D → Prop
  | nil : NolA []
  | cons {d : D} {ds : List D} : Nol d → NolA ds → NolA (d :: ds)
end
theorem NolA.of : ∀ {ds : List D}, (∀ d ∈ ds, Nol d) → NolA ds
  | [], _ => .nil
  | d :: ds, h => .cons (h d (List.mem_cons_self ..)) (NolA.of fun e he => h e (List.mem_cons_of_mem _ he))
theorem Nol.tup_inv {ds : List D} (h : Nol (.tup ds)) : NolA ds := by cases h with | tup h => exact h
theorem Nol.obj_inv {c : Str} {ns : List Str} {ds : List D} (h : Nol (.obj c ns ds)) : NolA ds := by cases h with | obj h => exact h
theorem NolA.inv {d : D} {ds : List D} (h : NolA (d :: ds)) : Nol d ∧ NolA ds := by cases h with | cons h r => exact ⟨h, r⟩
def nlF (F : Hp) : Hp := fun b => match F b with
  | some (.lst _) => none
  | o => o
section
variable {T : Tb} {F F1 F2 F' H H1 H2 H' H0 F0 Fs Hs : Hp} {σ : St} {Γ Γ1 Γ2 Γ' Γn Γs : Gm} {E : XK} {t ta tb tc te : TE} {w wa wb wc we : WE} {ra : Addr} {K : PySem.W.Frag}
theorem nl_of {b : Addr} {o : HO} (h : nlF F b = some o) : F b = some o ∧ ∀ vs, o ≠ .lst vs := by
  unfold nlF at h
  split at h
  · cases h
  · rename_i hn
    exact ⟨h, fun vs z => hn vs (by rw [h, z])⟩
theorem nl_to {b : Addr} {o : HO} (h : F b = some o) (n : ∀ vs, o ≠ .lst vs) : nlF F b = some o := by
  unfold nlF
  split
  · rename_i vs e
    rw [h] at e
    cases e
    exact absurd rfl (n vs)
  · exact h
theorem nl_tup {a : Addr} {vs : List V} (h : SqT K F a vs) : SqT K (nlF F) a vs := by
  rcases h with (h | ⟨o, h⟩) | h
  · exact .inl (.inl (nl_to h fun _ z => by cases z))
  · exact .inl (.inr ⟨o, nl_to h fun _ z => by cases z⟩)
  · exact .inr h
mutual
theorem Rep.nol : ∀ {v : V} {d : D}, Rep K F v d → Nol d → Rep K (nlF F) v d
  | _, _, .non, _ => .non
  | _, _, .bl b, _ => .bl b
  | _, _, .int i, _ => .int i
  | _, _, .str x, _ => .str x
  | _, _, .ty n, _ => .ty n
  | _, _, .scr h r, n => by cases n
  | _, _, .lst h r, n => by cases n
  | _, _, .tup h r, n => .tup (nl_tup h) (RepA.nol r n.tup_inv)
  | _, _, .obj c h r, n => .obj c (nl_to h fun _ z => by cases z) (RepA.nol r n.obj_inv)
theorem RepA.nol : ∀ {vs : List V} {ds : List D}, RepA K F vs ds → NolA ds → RepA K (nlF F) vs ds
  | _, _, .nil, _ => .nil
  | _, _, .cons h r, n => .cons (Rep.nol h n.inv.1) (RepA.nol r n.inv.2)
end
def shrE : Option En → Option En
  | some (.own ds) => some (.shr (.lst ds))
  | e => e
def allShr (Γ : Gm) : Gm := Γ.map shrE
theorem shr_nil : allShr [] = [] := rfl
theorem shr_none : allShr (none :: Γ) = none :: allShr Γ := rfl
theorem shr_shr {d : D} : allShr (some (.shr d) :: Γ) = some (.shr d) :: allShr Γ := rfl
theorem shr_own {ds : List D} : allShr (some (.own ds) :: Γ) = some (.shr (.lst ds)) :: allShr Γ := rfl
def NoOw (Γ : Gm) : Prop := ∀ (i : Nat) (ds : List D), Γ[i]? ≠ some (some (.own ds))
theorem NoOw.owns {b : Addr} (h : NoOw Γ) : ¬ Owns σ Γ b := fun ⟨i, ds, e, _⟩ => h i ds e
abbrev WS2 := Gm → WEnds → Gm → Prop
abbrev WS3 := Gm → WEnds → Prop
variable {x m : Nat} {s1 s2 : TS} {u1 : WS} {w2 : WS2} {w3 : WS3} {t1 : TT} {w1 : WT}
def AlwV (t : TE) (v : V) : Prop := ∀ (σ : St) (H : Hp) (Q : VK), Q v H → t σ H Q
theorem alw_c {v : V} : AlwV (tC v) v := fun _ _ _ q => q
variable {Ψ : WEnds} {u : WS}
end
section
variable {X : Cx} {T : Tb} {E : XK} {e c o k v : Expr} {sts as : List Stmt} {t tk tv : TE} {w wk : WE} {pos spos apos p2 : Pos} {t1 : TT} {w1 : WT} {s1 s2 : TS} {u1 : WS} {w2 : WS2} {w3 : WS3} {x : Str} {i m : Nat} {j : Int} {y : V}
end
end Dt
set_option Elab.async false
set_option linter.all false
set_option maxRecDepth 100000
set_option maxHeartbeats 1000000
set_option autoImplicit false
namespace Dt
open PySem L2 Kx
end Dt
set_option Elab.async false
set_option linter.all false
set_option maxRecDepth 100000
set_option autoImplicit false
namespace Dt
open PySem L2 Kx
section
variable {X : Cx} {T : Tb} {K : PySem.W.Frag}
def dSlT : D → Option Int → Option Int → (R → Prop) → Prop := fun d lo hi Ψ => ∃ ds, d = .tup ds ∧ ¬ (HT.sIx ds.length 0 lo = 0 ∧ HT.sIx ds.length ds.length hi = ds.length) ∧ Ψ (.val (.tup (cutD ds lo hi)))
theorem dslT_ap {ds : List D} {lo hi : Option Int} {Ψ : R → Prop} : dSlT (.tup ds) lo hi Ψ = sideR (¬ (HT.sIx ds.length 0 lo = 0 ∧ HT.sIx ds.length ds.length hi = ds.length)) (Ψ (.val (.tup (cutD ds lo hi)))) := propext ⟨fun ⟨_, e, h⟩ => by cases e; exact h, fun h => ⟨_, rfl, h⟩⟩
def dCatT : D → D → (R → Prop) → Prop := fun d e Ψ => ∃ xs ys, d = .tup xs ∧ e = .tup ys ∧ (xs ≠ [] ∧ xs.length + ys.length ≤ sizeLine) ∧ Ψ (.val (.tup (xs ++ ys)))
theorem dcatT_ap {xs ys : List D} {Ψ : R → Prop} : dCatT (.tup xs) (.tup ys) Ψ = sideR (xs ≠ [] ∧ xs.length + ys.length ≤ sizeLine) (Ψ (.val (.tup (xs ++ ys)))) := propext ⟨fun ⟨_, _, e1, e2, h⟩ => by cases e1; cases e2; exact h, fun h => ⟨_, _, rfl, rfl, h⟩⟩
end
theorem shr_cons {x : Option En} {Γ : Gm} : allShr (x :: Γ) = shrE x :: allShr Γ := rfl
theorem shrE_none : shrE none = none := rfl
theorem shrE_shr {d : D} : shrE (some (.shr d)) = some (.shr d) := rfl
theorem shrE_own {ds : List D} : shrE (some (.own ds)) = some (.shr (.lst ds)) := rfl
theorem lcB_fg {α : Type} {l : List α} {f : α → D} {wg : WG} {we : WE} {vs : List Nat} {Φ : R → Gm → Prop} {Γ : Gm} (g : α → D) (hl : l.length ≤ sizeLine)
    (hs : ∀ a, a ∈ l → ∀ k : D → Gm → Prop, k (g a) (wipeG Γ vs) → wg (f a) (wipeG Γ vs) fun Γ2 => we Γ2 (fun r Γ4 => frzR Γ4 r fun y Γ5 => k y (wipeG Γ5 vs)) fun _ => False)
    (hd : Φ (.new (l.map g)) (rstG Γ (wipeG Γ vs) vs)) : lcB (l.map f) wg (fun Γ Ψ _ => Ψ true Γ) we vs Φ Γ := by
  refine lcB_by (fun i acc Γ' => Γ' = wipeG Γ vs ∧ acc = (l.take i).map g) (by rw [List.length_map]; exact hl) ⟨rfl, rfl⟩ (fun i acc Γ' d hd' ⟨e1, e2⟩ => ?_) fun acc Γ' ⟨e1, e2⟩ => ?_
  · subst e1 e2
    rw [List.getElem?_map] at hd'
    obtain ⟨a, ha, rfl⟩ := Option.map_eq_some_iff.mp hd'
    refine hs a (List.mem_of_getElem? ha) (fun y Γ5 => Γ5 = wipeG Γ vs ∧ (l.take i).map g ++ [y] = (l.take (i + 1)).map g) ⟨rfl, ?_⟩
    rw [List.take_add_one, ha, List.map_append]
    rfl
  · subst e1 e2
    rw [List.length_map, List.take_length]
    exact hd
end Dt
set_option Elab.async false
set_option linter.all false
set_option maxRecDepth 100000
set_option maxHeartbeats 1000000
set_option autoImplicit false
namespace Dt
open PySem L2 Kx
theorem enu_get {ds : List D} {i : Nat} {d : D} (h : (enu ds)[i]? = some d) : ∃ e, ds[i]? = some e ∧ d = .tup [.int (i : Nat), e] := by
  unfold enu at h
  rw [List.getElem?_mapIdx] at h
  obtain ⟨e, he, rfl⟩ := Option.map_eq_some_iff.mp h
  exact ⟨e, he, rfl⟩
theorem enu_len (ds : List D) : (enu ds).length = ds.length := by simp [enu]
end Dt
set_option Elab.async false
set_option linter.all false
set_option maxRecDepth 100000
set_option autoImplicit false
namespace Dt
open PySem L2 Kx
section
variable {T : Tb} {F F1 F2 F' H H1 H2 H' H0 F0 Fs Hs : Hp} {σ : St} {Γ Γ1 Γ2 Γ' Γn Γs : Gm} {E : XK} {t ta tb tc te : TE} {w wa wb wc we : WE} {ra : Addr} {K : PySem.W.Frag}
variable {x y m : Nat} {s1 s2 : TS} {u1 u2 : WS} {w2 : WS2} {w3 : WS3} {t1 : TT} {w1 : WT}
variable {Ψ : WEnds} {u : WS} {Γh : Gm} {wI : WI}
end
section
variable {X : Cx} {T : Tb} {E : XK} {e c o k v iter tg : Expr} {sts as : List Stmt} {t tk tv : TE} {w wk : WE} {pos spos apos p2 p3 : Pos} {t1 : TT} {w1 : WT} {s1 s2 : TS} {u1 : WS} {w2 : WS2} {x : Str} {i y : Nat} {z : V} {wi : TI} {wI : WI}
end
end Dt
set_option Elab.async false
set_option linter.all false
set_option maxRecDepth 100000
set_option maxHeartbeats 1000000
set_option autoImplicit false
namespace Zt
open PySem PySem.Builtin PyProof.Rows
section
variable {prog : Program} {w : World} {A : Around} {E : Value → Shared → Prop} {s : Shared} {z TI TO i1 i2 : Addr} {f1 f2 : List Addr} {n1 n2 k : Nat} {P1 P2 : Nat → Value → Prop} {S1 S2 : Nat → Heap → Prop} {a b : Value}
end
open AutoSeq1 (wpAny_loadPart')
end Zt
namespace L2
open PySem PySem.Spec PyProof.Rows
end L2
namespace Dt
open PySem L2 Kx
section
variable {T : Tb} {E : XK} {F H : Hp} {tA : TA} {wA : WA}
variable {X : Cx} {a b : Expr} {pos pos2 : Pos}
end
end Dt
set_option Elab.async false
set_option linter.all false
set_option maxRecDepth 100000
set_option maxHeartbeats 1000000
set_option autoImplicit false
namespace Mn
open PySem PyProof.Rows
section
variable {prog : Program} {w : World} {A : Around} {R : Result → Shared → Prop} {I : Addr} {fp wr : List Addr} {n : Nat} {P : Nat → Value → Prop} {St : Nat → Heap → Prop}
end
section
variable {prog : Program} {w : World} {A : Around} {E : Value → Shared → Prop} {s : Shared} {l : Addr}
end
end Mn
namespace L2
open PySem PySem.Spec PyProof.Rows
section
variable {X : Cx}
end
end L2
namespace Dt
open PySem L2 Kx
end Dt
set_option Elab.async false
set_option linter.all false
set_option maxRecDepth 100000
set_option autoImplicit false
namespace Kx
open PySem PySem.Spec L2 PyProof.Rows PySem.W
end Kx
set_option Elab.async false
set_option linter.all false
set_option maxRecDepth 100000
set_option maxHeartbeats 1000000
set_option autoImplicit false
namespace Dt
open PySem L2 Kx
def nxt (xs : List Str) (is : List Int) (i : Nat) : Int := is.getD i 0 + ((xs.getD i ⟨#[]⟩).length : Nat) + 1
def plStep (xs : List Str) (is : List Int) (p : List (Option Nat) × Int) (i : Nat) : List (Option Nat) × Int := if p.2 ≤ is.getD i 0 then (p.1.set i (some i), nxt xs is i) else p
def plFold (xs : List Str) (is : List Int) (ns : List Nat) : List (Option Nat) × Int := ns.foldl (plStep xs is) (List.replicate xs.length none, 0)
theorem plFold_succ (xs : List Str) (is : List Int) {ns : List Nat} {j i : Nat} (h : ns[j]? = some i) : plFold xs is (ns.take (j + 1)) = plStep xs is (plFold xs is (ns.take j)) i := by
  unfold plFold
  rw [List.take_add_one, h, List.foldl_append]
  rfl
def stAt (is : List Int) (i : Nat) : Int := is.getD i 0
theorem skip {xs : List Str} {is : List Int} {ns : List Nat} {j : Nat} : ∀ m, (∀ p i, j ≤ p → p < j + m → ns[p]? = some i → stAt is i < (plFold xs is (ns.take j)).2) → plFold xs is (ns.take (j + m)) = plFold xs is (ns.take j)
  | 0, _ => rfl
  | m + 1, h => by
    have ih := skip m fun p i h1 h2 h3 => h p i h1 (by omega) h3
    rw [← Nat.add_assoc]
    cases e : ns[j + m]? with
    | none =>
      rw [List.getElem?_eq_none_iff] at e
      rw [List.take_of_length_le (by omega), ← ih, List.take_of_length_le (by omega)]
    | some i =>
      rw [plFold_succ xs is e, ih]
      have := h (j + m) i (by omega) (by omega) e
      unfold plStep
      rw [if_neg (by unfold stAt at this; omega)]
def IsKd (k : Str) : Prop := k = "bars" ∨ k = "lines" ∨ k = "stacks" ∨ k = "shares"
def lanes (k : Str) (s : Int) : Int := if k = "bars" ∨ k = "lines" then s else 1
def stL (k : Str) (w s : Int) (b : Nat) : List Int := (List.range b).map fun i : Nat => (i : Int) * (lanes k s * w + 1)
end Dt
set_option Elab.async false
set_option linter.all false
set_option maxRecDepth 100000
set_option autoImplicit false
namespace Dt
open PySem L2 Kx
section
variable {T : Tb} {F F1 F2 F' H H1 H2 H' H0 F0 Fs Hs : Hp} {σ : St} {Γ Γ1 Γ2 Γ' Γn Γs : Gm} {E : XK} {t ta tb tc te : TE} {w wa wb wc we : WE} {ra : Addr} {K : PySem.W.Frag}
variable {x y m : Nat} {s1 s2 : TS} {u1 u2 : WS} {w2 : WS2} {w3 : WS3} {t1 : TT} {w1 : WT}
theorem at_nat {vs : List V} {k : Nat} {u : V} (h : vs[k]? = some u) : atI vs (k : Int) = some u := by
  have : k < vs.length := by
    by_cases z : k < vs.length
    · exact z
    · rw [List.getElem?_eq_none (by omega)] at h; cases h
  unfold atI ixN
  rw [if_pos (by omega)]
  simp [this]
  rw [List.getElem?_eq_getElem this] at h
  exact Option.some.inj h
variable {Ψ : WEnds} {u : WS}
end
section
variable {X : Cx} {T : Tb} {E : XK} {e c o k j v tg lo : Expr} {sts as : List Stmt} {t tk tj tv : TE} {w wk : WE} {pos spos apos p2 p3 p4 p5 : Pos} {t1 : TT} {w1 : WT} {s1 s2 : TS} {u1 : WS} {w2 : WS2} {w3 : WS3} {x yn : Str} {i y : Nat} {z : V}
end
end Dt
set_option Elab.async false
set_option linter.all false
set_option maxRecDepth 100000
set_option maxHeartbeats 1000000
set_option autoImplicit false
namespace Dt
open PySem L2 Kx
end Dt
set_option Elab.async false
set_option linter.all false
set_option maxRecDepth 100000
set_option maxHeartbeats 1000000
set_option autoImplicit false
namespace Dt
open PySem PySem.Spec L2 Kx PyProof.Rows
end Dt
set_option Elab.async false
set_option linter.all false
set_option maxRecDepth 100000
set_option maxHeartbeats 1000000
set_option autoImplicit false
namespace Dt
open PySem PySem.Spec L2 Kx PyProof.Rows
theorem cut_head {x : Str} {a : Int} (h0 : 0 ≤ a) (h1 : a ≤ x.length) : (cutS x none (some a)).cps.toList = x.cps.toList.take a.toNat := by
  unfold cutS
  have e : HT.sIx x.length x.length (some a) = a.toNat := by
    show (if a < 0 then _ else min a.toNat x.length) = _
    rw [if_neg (by omega)]
    omega
  rw [HT.sIx_none, e]
  simp
theorem cps_len (x : Str) : x.cps.toList.length = x.length := rfl
theorem lcB_ff {α : Type} {l : List α} {f : α → D} {wg : WG} {wt : WT} {we : WE} {vs : List Nat} {Φ : R → Gm → Prop} {Γ : Gm} (t : α → Bool) (g : α → D) (hl : l.length ≤ sizeLine)
    (hs : ∀ a, a ∈ l → ∀ k : List D → Gm → Prop, k (if t a then [g a] else []) (wipeG Γ vs) → wg (f a) (wipeG Γ vs) fun Γ2 => wt Γ2 (fun b Γ3 => iteR b (we Γ3 (fun r Γ4 => frzR Γ4 r fun y Γ5 => k [y] (wipeG Γ5 vs)) fun _ => False) (k [] (wipeG Γ3 vs))) fun _ => False)
    (hd : Φ (.new ((l.filter t).map g)) (rstG Γ (wipeG Γ vs) vs)) : lcB (l.map f) wg wt we vs Φ Γ := by
  refine lcB_by (fun i acc Γ' => Γ' = wipeG Γ vs ∧ acc = ((l.take i).filter t).map g) (by rw [List.length_map]; exact hl) ⟨rfl, rfl⟩ (fun i acc Γ' d hd' ⟨e1, e2⟩ => ?_) fun acc Γ' ⟨e1, e2⟩ => ?_
  · subst e1 e2
    rw [List.getElem?_map] at hd'
    obtain ⟨a, ha, rfl⟩ := Option.map_eq_some_iff.mp hd'
    have key : ((l.take (i + 1)).filter t).map g = ((l.take i).filter t).map g ++ (if t a then [g a] else []) := by
      rw [List.take_add_one, ha, List.filter_append, List.map_append]
      congr 1
      by_cases z : t a = true
      · rw [if_pos z]
        show List.map g (List.filter t [a]) = _
        rw [List.filter_cons_of_pos z]; rfl
      · rw [if_neg z]
        show List.map g (List.filter t [a]) = _
        rw [List.filter_cons_of_neg z]; rfl
    have := hs a (List.mem_of_getElem? ha) (fun ys Γ5 => Γ5 = wipeG Γ vs ∧ (match ys with | [] => ((l.take i).filter t).map g = ((l.take (i + 1)).filter t).map g | y :: _ => ((l.take i).filter t).map g ++ [y] = ((l.take (i + 1)).filter t).map g)) ⟨rfl, by
      rw [key]
      by_cases z : t a = true
      · rw [if_pos z]
      · rw [if_neg z, List.append_nil]⟩
    exact this
  · subst e1 e2
    rw [List.length_map, List.take_length]
    exact hd
def kp (xs : List Str) (res : List (Option Nat)) : List Str := (res.filter Option.isSome).map fun o => xs.getD (o.getD 0) ⟨#[]⟩
end Dt
set_option Elab.async false
set_option linter.all false
set_option maxRecDepth 100000
set_option maxHeartbeats 1000000
set_option autoImplicit false
namespace Kx
open PySem PySem.Spec L2 PyProof.Rows PySem.W
section
variable {X : Cx} {o e : Expr} {to te : TE} {apos pos : Pos}
end
end Kx
namespace Dt
open PySem PySem.Spec L2 Kx PyProof.Rows
section
variable {T : Tb} {E : XK}
def dPad (f : Str → Int → Str) : Str → D → (R → Prop) → Prop := fun a e Ψ => ∃ i, e = .int i ∧ PadOk i = true ∧ Ψ (.val (.str (f a i)))
theorem dpad_int {f : Str → Int → Str} {a : Str} {i : Int} {Ψ : R → Prop} : dPad f a (.int i) Ψ = sideR (PadOk i = true) (Ψ (.val (.str (f a i)))) := propext ⟨fun ⟨_, e, h⟩ => by cases e; exact h, fun h => ⟨_, rfl, h⟩⟩
def dRstr : Str → D → (R → Prop) → Prop := fun a e Ψ => ∃ b, e = .str b ∧ a.length ≤ sizeLine ∧ Ψ (.val (.str (Txt.rstripChars a b)))
theorem drstr_str {a b : Str} {Ψ : R → Prop} : dRstr a (.str b) Ψ = sideR (a.length ≤ sizeLine) (Ψ (.val (.str (Txt.rstripChars a b)))) := propext ⟨fun ⟨_, e, h⟩ => by cases e; exact h, fun h => ⟨_, rfl, h⟩⟩
def hasS (j i : Str) : Bool := !(Builtin.Str.occurrences j i 0 j.length 1).isEmpty
def bInS (f : Bool → Bool) : D → D → (Bool → Prop) → Prop := fun d e Ψ => ∃ i j, d = .str i ∧ e = .str j ∧ Ψ (f (hasS j i))
theorem inS_str {f : Bool → Bool} {i j : Str} {Ψ : Bool → Prop} : bInS f (.str i) (.str j) Ψ = Ψ (f (hasS j i)) := propext ⟨fun ⟨_, _, e1, e2, h⟩ => by cases e1; cases e2; exact h, fun h => ⟨_, _, rfl, rfl, h⟩⟩
abbrev WJ := Str → Gm → (Str → Gm → Prop) → (XD → Prop) → Prop
variable {t : TJ} {w : WJ} {te : TE} {we : WE}
def wJ0 : WJ := fun out Γ Ψ _ => out.length ≤ sizeLine ∧ Ψ out Γ
def wJT (x : Str) (w : WJ) : WJ := fun out Γ Ψ Ξ => (out ++ x).length ≤ sizeLine ∧ w (out ++ x) Γ Ψ Ξ
def fmtR (d : D) (out : Str) (k : Str → Prop) : Prop := (∃ y, d = .str y ∧ y.length ≤ sizeLine ∧ (out ++ y).length ≤ sizeLine ∧ k (out ++ y)) ∨ ∃ i : Int, d = .int i ∧ i.natAbs.log2 < 1920 ∧ (out ++ (toString i : Str)).length ≤ sizeLine ∧ k (out ++ (toString i : Str))
def wJV (we : WE) (w : WJ) : WJ := fun out Γ Ψ Ξ => we Γ (fun r Γ1 => ∃ d, r.at Γ1 = some d ∧ fmtR d out fun x => w x Γ1 Ψ Ξ) Ξ
def wFStr (w : WJ) : WE := fun Γ Ψ Ξ => w Str.empty Γ (fun x Γ1 => Ψ (.val (.str x)) Γ1) Ξ
variable {Γ : Gm} {Ψj : Str → Gm → Prop} {Ψ : R → Gm → Prop} {Ξ : XD → Prop} {out : Str}
theorem fstr_ap : wFStr w Γ Ψ Ξ = w Str.empty Γ (fun x Γ1 => Ψ (.val (.str x)) Γ1) Ξ := rfl
theorem j0_ap : wJ0 out Γ Ψj Ξ = sideR (out.length ≤ sizeLine) (Ψj out Γ) := rfl
theorem jT_ap {x : Str} : wJT x w out Γ Ψj Ξ = sideR ((out ++ x).length ≤ sizeLine) (w (out ++ x) Γ Ψj Ξ) := rfl
theorem jV_ap : wJV we w out Γ Ψj Ξ = we Γ (fun r Γ1 => getR Γ1 r fun d => fmtR d out fun x => w x Γ1 Ψj Ξ) Ξ := rfl
theorem fmt_str {y : Str} {k : Str → Prop} : fmtR (.str y) out k = sideR (y.length ≤ sizeLine ∧ (out ++ y).length ≤ sizeLine) (k (out ++ y)) := propext (Iff.intro (fun h => by
  rcases h with ⟨_, e, h1, h2, h3⟩ | ⟨_, e, _⟩
  · cases e; exact ⟨⟨h1, h2⟩, h3⟩
  · cases e) fun h => Or.inl ⟨y, rfl, h.1.1, h.1.2, h.2⟩)
theorem fmt_int {i : Int} {k : Str → Prop} : fmtR (.int i) out k = sideR (i.natAbs.log2 < 1920 ∧ (out ++ (toString i : Str)).length ≤ sizeLine) (k (out ++ (toString i : Str))) := propext (Iff.intro (fun h => by
  rcases h with ⟨_, e, _⟩ | ⟨_, e, h1, h2, h3⟩
  · cases e
  · cases e; exact ⟨⟨h1, h2⟩, h3⟩) fun h => Or.inr ⟨i, rfl, h.1.1, h.1.2, h.2⟩)
end
section
variable {X : Cx} {T : Tb} {E : XK} {o e e1 e2 : Expr} {es : List Expr} {to te : TE} {wo we : WE} {t : TJ} {w : WJ} {apos pos : Pos}
end
end Dt
set_option Elab.async false
set_option linter.all false
set_option maxRecDepth 100000
set_option maxHeartbeats 2000000
set_option autoImplicit false
namespace L2
open PySem PySem.Spec PyProof.Rows
inductive Src where
  | t (a : Addr)
  | l (a : Addr)
  | s (x : Str)
def Src.v : Src → V
  | .t a => .ref a
  | .l a => .ref a
  | .s x => .str x
section
variable {X : Cx} {pins : List (Addr × Obj)} {σ : L2.St} {H : Hp} {s : Shared}
end
end L2
namespace Dt
open PySem L2 Kx
section
variable {T : Tb} {F : Hp} {E : XK} {tA : TA} {wA : WA}
def chD (x : Str) : List D := x.cps.toList.map fun c => .str ⟨#[c]⟩
def D.src : D → Option (List D)
  | .lst ds => some ds
  | .tup ds => some ds
  | .str x => some (chD x)
  | _ => none
def wIZipG (wA : WA) : WI := fun Γ Ψ Ξ => wA Γ (fun rs Γ1 => ∃ d e ds es Γ2, frzL Γ1 rs = some ([d, e], Γ2) ∧ d.src = some ds ∧ e.src = some es ∧ Ψ (zp ds es) Γ2) Ξ
def srcR (d : D) (k : List D → Prop) : Prop := ∃ ds, d.src = some ds ∧ k ds
theorem src_lst {ds : List D} {k : List D → Prop} : srcR (.lst ds) k = k ds := propext ⟨fun ⟨_, e, h⟩ => by cases e; exact h, fun h => ⟨_, rfl, h⟩⟩
theorem src_tup {ds : List D} {k : List D → Prop} : srcR (.tup ds) k = k ds := propext ⟨fun ⟨_, e, h⟩ => by cases e; exact h, fun h => ⟨_, rfl, h⟩⟩
theorem src_str {x : Str} {k : List D → Prop} : srcR (.str x) k = k (chD x) := propext ⟨fun ⟨_, e, h⟩ => by cases e; exact h, fun h => ⟨_, rfl, h⟩⟩
theorem izG_ap {Γ : Gm} {Φd : List D → Gm → Prop} {Ξ : XD → Prop} : wIZipG wA Γ Φd Ξ = wA Γ (fun rs Γ1 => frzLR Γ1 rs fun ds Γ2 => match ds with | [d, e] => srcR d fun es => srcR e fun fs => Φd (zp es fs) Γ2 | _ => False) Ξ := by
  unfold wIZipG frzLR
  congr 1
  funext rs Γ1
  refine propext ⟨fun ⟨d, e, ds, es, Γ2, h, s1, s2, q⟩ => ⟨_, Γ2, h, ds, s1, es, s2, q⟩, fun ⟨ds, Γ2, h, q⟩ => ?_⟩
  dsimp only at q
  split at q
  · obtain ⟨es, s1, fs, s2, q⟩ := q
    exact ⟨_, _, _, _, Γ2, h, s1, s2, q⟩
  · exact q.elim
variable {X : Cx} {a b : Expr} {pos : Pos}
end
end Dt
set_option Elab.async false
set_option linter.all false
set_option maxRecDepth 100000
set_option maxHeartbeats 2000000
set_option autoImplicit false
namespace Zt
open PySem PySem.Builtin PyProof.Rows
section
variable {prog : Program} {w : World} {A : Around} {E : Value → Shared → Prop} {s : Shared} {z TI TO i1 i2 i3 : Addr} {f1 f2 f3 : List Addr} {n1 n2 n3 k : Nat} {P1 P2 P3 : Nat → Value → Prop} {S1 S2 S3 : Nat → Heap → Prop} {a b c : Value}
end
end Zt
namespace L2
open PySem PySem.Spec PyProof.Rows
end L2
namespace L2
open PySem PySem.Spec PyProof.Rows
end L2
namespace Dt
open PySem L2 Kx
section
variable {T : Tb} {F : Hp} {E : XK} {tA : TA} {wA : WA}
def zp3 : List D → List D → List D → List D
  | d :: ds, e :: es, f :: fs => .tup [d, e, f] :: zp3 ds es fs
  | _, _, _ => []
def wIZip3 (wA : WA) : WI := fun Γ Ψ Ξ => wA Γ (fun rs Γ1 => ∃ d e f ds es fs Γ2, frzL Γ1 rs = some ([d, e, f], Γ2) ∧ d.src = some ds ∧ e.src = some es ∧ f.src = some fs ∧ Ψ (zp3 ds es fs) Γ2) Ξ
theorem iz3_ap {Γ : Gm} {Φd : List D → Gm → Prop} {Ξ : XD → Prop} : wIZip3 wA Γ Φd Ξ = wA Γ (fun rs Γ1 => frzLR Γ1 rs fun ds Γ2 => match ds with | [d, e, f] => srcR d fun es => srcR e fun fs => srcR f fun gs => Φd (zp3 es fs gs) Γ2 | _ => False) Ξ := by
  unfold wIZip3 frzLR
  congr 1
  funext rs Γ1
  refine propext ⟨fun ⟨d, e, f, ds, es, fs, Γ2, h, s1, s2, s3, q⟩ => ⟨_, Γ2, h, ds, s1, es, s2, fs, s3, q⟩, fun ⟨ds, Γ2, h, q⟩ => ?_⟩
  dsimp only at q
  split at q
  · obtain ⟨es, s1, fs, s2, gs, s3, q⟩ := q
    exact ⟨_, _, _, _, _, _, Γ2, h, s1, s2, s3, q⟩
  · exact q.elim
variable {X : Cx} {a b c : Expr} {pos : Pos}
end
end Dt
set_option Elab.async false
set_option linter.all false
set_option maxRecDepth 100000
set_option maxHeartbeats 2000000
set_option autoImplicit false
namespace Zt
open PySem PySem.Builtin PyProof.Rows
section
variable {prog : Program} {w : World} {A : Around} {E : Value → Shared → Prop} {s : Shared}
end
end Zt
namespace L2
open PySem PySem.Spec PyProof.Rows
end L2
namespace Dt
open PySem L2 Kx
section
variable {T : Tb} {F : Hp} {E : XK} {tA : TA} {wA : WA}
def rvr (j : Int) : List D := (List.range j.toNat).map fun i : Nat => .int (j - 1 - (i : Int))
def wIRvr (wA : WA) : WI := fun Γ Ψ Ξ => wA Γ (fun rs Γ1 => ∃ j : Int, ats Γ1 rs = some [.int j] ∧ (0 ≤ j ∧ j < 2 ^ 62) ∧ Ψ (rvr j) Γ1) Ξ
theorem irv_ap {Γ : Gm} {Φd : List D → Gm → Prop} {Ξ : XD → Prop} : wIRvr wA Γ Φd Ξ = wA Γ (fun rs Γ1 => atsR Γ1 rs fun ds => match ds with | [.int j] => sideR (0 ≤ j ∧ j < 2 ^ 62) (Φd (rvr j) Γ1) | _ => False) Ξ := by
  unfold wIRvr atsR
  congr 1
  funext rs Γ1
  refine propext ⟨fun ⟨j, h, b, q⟩ => ⟨_, h, b, q⟩, fun ⟨ds, h, q⟩ => ?_⟩
  dsimp only at q
  split at q
  · exact ⟨_, h, q.1, q.2⟩
  · exact q.elim
variable {X : Cx} {tg a : Expr} {pos : Pos}
end
end Dt
set_option Elab.async false
set_option linter.all false
set_option maxRecDepth 100000
set_option maxHeartbeats 1000000
set_option autoImplicit false
namespace Kx
open PySem PySem.Spec L2 PyProof.Rows PySem.W
def repS (x : Str) (n : Int) : Str := ⟨(List.replicate n.toNat x.cps).foldl (· ++ ·) #[]⟩
theorem rep_fold (c : Array Nat) : ∀ (m : Nat) (a : Array Nat), ((List.replicate m c).foldl (· ++ ·) a).size = a.size + m * c.size
  | 0, a => by simp
  | m + 1, a => by
    rw [List.replicate_succ, List.foldl_cons, rep_fold c m, Array.size_append, Nat.succ_mul]
    omega
theorem repS_len (x : Str) (n : Int) : (repS x n).length = n.toNat * x.length := by
  show ((List.replicate n.toNat x.cps).foldl (· ++ ·) #[]).size = _
  rw [rep_fold]
  simp
  rfl
theorem repS_one (x : Str) : repS x 1 = x := by
  show (⟨(List.replicate 1 x.cps).foldl (· ++ ·) #[]⟩ : Str) = x
  simp
theorem repS_nil {x : Str} (n : Int) (h : x.length = 0) : repS x n = x := by
  have h1 : (repS x n).cps.size = 0 := by
    have := repS_len x n
    rw [h] at this
    exact this.trans (Nat.mul_zero _)
  have h2 : x.cps.size = 0 := h
  have e : (repS x n).cps = x.cps := by rw [Array.eq_empty_of_size_eq_zero h1, Array.eq_empty_of_size_eq_zero h2]
  cases x
  generalize hz : repS _ n = y at *
  cases y
  simp only [Str.mk.injEq]
  exact e
section
variable {X : Cx}
theorem op_repS : OpR X (binaryOp .Mult) (fun x y H Q => ∃ a n, x = .str a ∧ y = .int n ∧ (0 ≤ n ∧ n ≤ 100000 ∧ a.length ≤ 100000 ∧ a.length * n.toNat ≤ 1000000) ∧ Q (.str (repS a n)) H) := by
  intro pins s σ H x y v u Q I rx ry h
  obtain ⟨a, n, rfl, rfl, ⟨h0, h1, h2, h3⟩, q⟩ := h
  obtain ⟨t, rfl⟩ := rx
  obtain ⟨t', rfl⟩ := ry
  refine PySem.P.mul_str (by rw [decide_eq_false (by omega), decide_eq_false (by omega)]; rfl) (fun g _ => ?_) (fun g _ => ?_) ?_
  · have : (100000 : Int) ≤ (2 ^ 63 - 1) / n := (Int.le_ediv_iff_mul_le (by omega)).mpr (by
      have := Int.mul_le_mul_of_nonneg_left h1 (show (0 : Int) ≤ 100000 by decide)
      omega)
    omega
  · exact decide_eq_false (fun z : sizeLine < a.length * n.toNat => by
      have : 1000000 ≤ sizeLine := by decide
      omega)
  · by_cases g : n < 1
    · rw [if_pos g]
      have e : n = 0 := by omega
      subst e
      exact ⟨by decide, .str (repS a 0), H, I.tok _, ⟨_, rfl⟩, q⟩
    · rw [if_neg g]
      by_cases g2 : (n == 1 || a.length == 0) = true
      · rw [if_pos g2]
        have e : repS a n = a := by
          rw [Bool.or_eq_true, beq_iff_eq, beq_iff_eq] at g2
          rcases g2 with rfl | g2
          · exact repS_one a
          · exact repS_nil n g2
        rw [e] at q
        exact ⟨.str a, H, I, ⟨_, rfl⟩, q⟩
      · rw [if_neg g2]
        refine ⟨?_, .str (repS a n), H, I.tok _, ⟨_, rfl⟩, q⟩
        have e := repS_len a n
        show (repS a n).length ≤ sizeLine
        rw [e, Nat.mul_comm]
        exact Nat.le_trans h3 (by decide)
end
end Kx
namespace Dt
open PySem L2 Kx
section
variable {T : Tb}
def dRepS : D → D → (R → Prop) → Prop := fun d e Ψ => ∃ a n, d = .str a ∧ e = .int n ∧ (0 ≤ n ∧ n ≤ 100000 ∧ a.length ≤ 100000 ∧ a.length * n.toNat ≤ 1000000) ∧ Ψ (.val (.str (repS a n)))
theorem od_repS : OD T (fun x y H Q => ∃ a n, x = .str a ∧ y = .int n ∧ (0 ≤ n ∧ n ≤ 100000 ∧ a.length ≤ 100000 ∧ a.length * n.toNat ≤ 1000000) ∧ Q (.str (repS a n)) H) dRepS := fun F H x y d e Q Ψ o hx hy hg k => by
  obtain ⟨a, n, rfl, rfl, hb, h⟩ := hg
  exact ⟨a, n, hx.str, hy.int, hb, k F H _ _ h o.refl (Rep.str _)⟩
theorem drepS_ap {a : Str} {n : Int} {Ψ : R → Prop} : dRepS (.str a) (.int n) Ψ = sideR (0 ≤ n ∧ n ≤ 100000 ∧ a.length ≤ 100000 ∧ a.length * n.toNat ≤ 1000000) (Ψ (.val (.str (repS a n)))) := propext ⟨fun ⟨_, _, e1, e2, h⟩ => by cases e1; cases e2; exact h, fun h => ⟨_, _, rfl, rfl, h⟩⟩
end
end Dt
set_option Elab.async false
set_option linter.all false
set_option maxRecDepth 100000
set_option maxHeartbeats 1000000
set_option autoImplicit false
namespace Dt
open PySem PySem.Spec L2 Kx PyProof.Rows
def blank : Str := " "
def sgns : Str := "#+ox"
def barS (s : Str) (own g lv : Int) : Str := if (g < lv ∧ lv ≤ own) ∨ (own ≤ lv ∧ lv < g) then s else blank
def lineS (s : Str) (own ah lv : Int) : Str := if lv = own then s else if (if ah < own then ah else own) < lv ∧ lv < (if ah > own then ah else own) then "|" else blank
def pieceGo : List Nat → List Int → Int → Int → Str
  | c :: cs, o :: os, ah, lv => if ah < lv ∧ lv ≤ o then ⟨#[c]⟩ else pieceGo cs os o lv
  | _, _, _, _ => blank
def pieceS (is : List Int) (lv : Int) : Str := pieceGo sgns.cps.toList is 0 lv
def laneS (k : Str) (g : Option Int) (is js : List Int) (lv : Int) : List Str :=
  if k = "bars" then (sgns.cps.toList.zip is).map fun p => barS ⟨#[p.1]⟩ p.2 (g.getD 0) lv
  else if k = "lines" then ((sgns.cps.toList.zip is).zip js).map fun p => lineS ⟨#[p.1.1]⟩ p.1.2 p.2 lv
  else [pieceS is lv]
def oD : Option Str → D
  | some x => .str x
  | none => .non
def planD (k : Str) (w n : Int) (ms : List (Int × Int)) (lss : List (List Int)) (xs : List (Option Str)) (ss : List Str) : D :=
  .tup [.str k, .int w, .int n, .lst (ms.map frD), .lst (lss.map fun l => .lst (l.map .int)), .lst (xs.map oD), .lst (ss.map .str)]
def picRow (k : Str) (w : Int) (lss : List (List Int)) (g : Option Int) (lv : Int) : Str :=
  let text := Txt.join blank ((List.range lss.length).map fun at_ => Txt.join "" ((laneS k g (lss.getD at_ []) (lss.getD (at_ - 1) []) lv).map fun s => repS s w))
  if g = some lv then repS "-" text.length else text
end Dt
set_option Elab.async false
set_option linter.all false
set_option maxRecDepth 100000
set_option maxHeartbeats 1000000
set_option autoImplicit false
namespace Dt
open PySem PySem.Spec L2 Kx PyProof.Rows
end Dt
namespace Dt
open PySem PySem.Spec L2 Kx PyProof.Rows
end Dt
set_option Elab.async false
set_option linter.all false
set_option maxRecDepth 100000
set_option maxHeartbeats 1000000
set_option autoImplicit false
namespace Dt
open PySem L2 Kx
section
variable {T : Tb} {E : XK} {t : TE} {w : WE}
def wBS (w : WE) : WT := fun Γ Ψ Ξ => w Γ (fun r Γ1 => ∃ y : Str, r.at Γ1 = some (.str y) ∧ y.length ≤ sizeLine ∧ Ψ ((y.length : Int) != 0) Γ1) Ξ
def txtR (Γ : Gm) (r : R) (k : Str → Prop) : Prop := ∃ y : Str, r.at Γ = some (.str y) ∧ k y
theorem txR_val {Γ : Gm} {y : Str} {k : Str → Prop} : txtR Γ (.val (.str y)) k = k y := propext ⟨fun ⟨_, e, h⟩ => by cases e; exact h, fun h => ⟨_, rfl, h⟩⟩
theorem BS_ap {Γ : Gm} {Φb : Bool → Gm → Prop} {Ξ : XD → Prop} : wBS w Γ Φb Ξ = w Γ (fun r Γ1 => txtR Γ1 r fun y => sideR (y.length ≤ sizeLine) (Φb ((y.length : Int) != 0) Γ1)) Ξ := rfl
theorem ddm_ap {i j : Int} {Ψ : R → Prop} : dDivmod [.int i, .int j] Ψ = sideR (CDivP i j) (Ψ (.val (.tup [.int (i / j), .int (i % j)]))) := propext ⟨fun ⟨_, _, e, h⟩ => by cases e; exact h, fun h => ⟨_, _, rfl, h⟩⟩
variable {X : Cx} {e : Expr}
end
end Dt
set_option Elab.async false
set_option linter.all false
set_option maxRecDepth 100000
set_option maxHeartbeats 1000000
set_option autoImplicit false
namespace Dt
open PySem PySem.Spec L2 Kx PyProof.Rows
end Dt
set_option Elab.async false
set_option linter.all false
set_option maxRecDepth 100000
set_option maxHeartbeats 1000000
set_option autoImplicit false
namespace Dt
open PySem PySem.Spec L2 Kx PyProof.Rows
end Dt
namespace Dt
open PySem PySem.Spec L2 Kx PyProof.Rows
end Dt
namespace Dt
open PySem PySem.Spec L2 Kx PyProof.Rows
end Dt
namespace Dt
open PySem PySem.Spec L2 Kx PyProof.Rows
end Dt
namespace Dt
open PySem PySem.Spec L2 Kx PyProof.Rows
end Dt
set_option Elab.async false
set_option linter.all false
set_option maxRecDepth 100000
set_option maxHeartbeats 1000000
set_option autoImplicit false
namespace Dt
open PySem PySem.Spec L2 Kx PyProof.Rows
def AllC (P : Nat → Prop) (x : Str) : Prop := ∀ c ∈ x.cps.toList, P c
section
variable {P : Nat → Prop} {x y : Str}
end
def Cl (c : Nat) : Prop := c ≠ 10 ∧ c < 0x110000
theorem cl_ok {x : Str} (h : AllC Cl x) : PyData.strOk x = true := strOk_iff.mpr fun c hc => (h c hc).2
def Ltr (x : Str) : Prop := 1 ≤ x.length ∧ x.length ≤ 30 ∧ AllC (fun c => 97 ≤ c ∧ c ≤ 122) x
def plMs (S f : Int) (m : Nat) : List (Int × Int) := (List.range m).map fun i : Nat => mkP (S * (f + i))
structure PMk (k : Str) (n S f : Int) (m : Nat) : Prop where
  S0 : 0 < S
  S1 : S ≤ 5 * 10 ^ 24
  m0 : 2 ≤ m
  m1 : (m : Int) ≤ n / 2 + 2
  n0 : 2 ≤ n
  n1 : n ≤ 40
  f0 : -22 ≤ f
  f1 : f ≤ 20
  br : k = "bars" → f ≤ 0 ∧ 0 < f + m
  st : k = "stacks" → f = 0
  sh : k = "shares" → f = 0 ∧ S * (m - 1) = 100 * 10 ^ 12
theorem plMs_head {S f : Int} {m : Nat} (h : 2 ≤ m) : (plMs S f m).head? = some (mkP (S * f)) := by
  obtain ⟨q, rfl⟩ : ∃ q, m = q + 1 := ⟨m - 1, by omega⟩
  unfold plMs
  rw [List.range_succ_eq_map, List.map_cons, List.head?_cons]
  simp
theorem plMs_last {S f : Int} {m : Nat} (h : 2 ≤ m) : (plMs S f m).getLast? = some (mkP (S * (f + (m - 1)))) := by
  obtain ⟨q, rfl⟩ : ∃ q, m = q + 1 := ⟨m - 1, by omega⟩
  unfold plMs
  rw [List.range_succ, List.map_append, List.getLast?_append]
  simp only [List.map_cons, List.map_nil, List.getLast?_singleton, Option.some_or]
  rw [show f + (q : Int) = f + (((q + 1 : Nat) : Int) - 1) by omega]
theorem mkP_whole (c : Int) : mkP (c * 10 ^ 12) = (c, 1) := by
  have h := low_scale (t := c) (b := 1) (m := 10 ^ 12) (by decide) (by decide)
  have o := low_one c
  rw [o.1, o.2, Int.one_mul] at h
  unfold mkP
  rw [h.1, h.2]
end Dt
set_option Elab.async false
set_option linter.all false
set_option maxRecDepth 100000
set_option maxHeartbeats 1000000
set_option autoImplicit false
namespace Dt
open PySem PySem.Spec L2 Kx PyProof.Rows
theorem rep_tl (c : Nat) : ∀ (m : Nat) (a : Array Nat), ((List.replicate m #[c]).foldl (· ++ ·) a).toList = a.toList ++ List.replicate m c
  | 0, a => by simp
  | m + 1, a => by
    rw [List.replicate_succ, List.foldl_cons, rep_tl c m, Array.toList_append, List.replicate_succ, List.append_assoc]
    rfl
theorem repS_tl (c : Nat) (n : Int) : (repS ⟨#[c]⟩ n).cps.toList = List.replicate n.toNat c := by
  show ((List.replicate n.toNat #[c]).foldl (· ++ ·) #[]).toList = _
  rw [rep_tl]
  rfl
structure BandOk (k : Str) (n : Int) (l : List Int) : Prop where
  io : ∀ x ∈ l, 0 ≤ x ∧ x ≤ n
  up : k = "stacks" ∨ k = "shares" → l.Pairwise (· ≤ ·)
  sh : k = "shares" → l.getLast? = some n ∨ ∀ x ∈ l, x = 0
structure LPl (k : Str) (w n S f : Int) (m : Nat) (lss : List (List Int)) (xs : List (Option Str)) (ss : List Str) : Prop where
  kd : IsKd k
  w0 : 1 ≤ w
  w1 : w ≤ 6
  pm : PMk k n S f m
  l0 : 1 ≤ lss.length
  l1 : lss.length ≤ 12
  ll : ∀ l ∈ lss, l.length = ss.length ∧ BandOk k n l
  xl : xs.length = lss.length
  xo : ∀ x, some x ∈ xs → Ltr x
  s0 : 1 ≤ ss.length
  s1 : ss.length ≤ 4
  so : ∀ s ∈ ss, Ltr s
def wf__law_plan : WF := fun ds row Ψ Ξ => ∃ (k : Str) (N : Int), ds = [.str k] ∧ IsKd k ∧ RowD N row ∧ 0 ≤ N ∧ N < 2 ^ 30 ∧ ∀ (w n S f : Int) (m : Nat) (lss : List (List Int)) (xs : List (Option Str)) (ss : List Str) row', LPl k w n S f m lss xs ss → RowD (N + 2000) row' → Ψ (.val (planD k w n (plMs S f m) lss xs ss)) row'
theorem cl_lit {x : Str} (h : (x.cps.toList.all fun c => c != 10 && decide (c < 0x110000)) = true) : AllC Cl x := fun c hc => by
  have := List.all_eq_true.mp h c hc
  simp at this
  exact this
end Dt
namespace Dt
open PySem PySem.Spec L2 Kx PyProof.Rows
theorem band_set {ms : List Int} {n : Int} {k : Str} (n0 : 0 ≤ n) (pw : ms.Pairwise (· ≤ ·)) (hx : ∀ x ∈ ms, 0 ≤ x ∧ x ≤ n) (h : 0 < ms.length) : BandOk k n (ms.set (ms.length - 1) n) := by
  rcases List.eq_nil_or_concat ms with rfl | ⟨ys, z, rfl⟩
  · simp at h
  · rw [List.concat_eq_append] at *
    have e : (ys ++ [z]).set ((ys ++ [z]).length - 1) n = ys ++ [n] := by
      rw [List.length_append, List.length_singleton, Nat.add_sub_cancel, List.set_append_right _ _ (Nat.le_refl _), Nat.sub_self]
      rfl
    rw [e]
    refine ⟨fun x hx' => ?_, fun _ => ?_, fun _ => .inl ?_⟩
    · rcases List.mem_append.mp hx' with y | y
      · exact hx x (List.mem_append_left _ y)
      · cases List.mem_singleton.mp y
        omega
    · refine List.pairwise_append.mpr ⟨(List.pairwise_append.mp pw).1, List.pairwise_singleton .., fun a ha b hb => ?_⟩
      cases List.mem_singleton.mp hb
      exact (hx a (List.mem_append_left _ ha)).2
    · rw [List.getLast?_append]
      rfl
theorem band_nil {m : Nat} {n : Int} {k : Str} (n0 : 0 ≤ n) : BandOk k n (List.replicate m 0) := by
  have e : ∀ x ∈ List.replicate m (0 : Int), x = 0 := fun x hx => (List.mem_replicate.mp hx).2
  exact ⟨fun x hx => by rw [e x hx]; omega, fun _ => List.pairwise_replicate.mpr (.inr (Int.le_refl _)), fun _ => .inr e⟩
end Dt
set_option Elab.async false
set_option linter.all false
set_option maxRecDepth 100000
set_option maxHeartbeats 1000000
set_option autoImplicit false
namespace Kx
open PySem PySem.Spec L2 PyProof.Rows
section
variable {X : Cx}
end
end Kx
namespace Dt
open PySem PySem.Spec L2 Kx PyProof.Rows
section
variable {T : Tb}
def dRepN : D → D → (R → Prop) → Prop := fun d e Ψ => ∃ a n, d = .str a ∧ e = .int n ∧ (-100000 ≤ n ∧ n ≤ 100000 ∧ a.length ≤ 100000 ∧ a.length * n.toNat ≤ 1000000) ∧ Ψ (.val (.str (repS a n)))
theorem drepN_ap {a : Str} {n : Int} {Ψ : R → Prop} : dRepN (.str a) (.int n) Ψ = sideR (-100000 ≤ n ∧ n ≤ 100000 ∧ a.length ≤ 100000 ∧ a.length * n.toNat ≤ 1000000) (Ψ (.val (.str (repS a n)))) := propext ⟨fun ⟨_, _, e1, e2, h⟩ => by cases e1; cases e2; exact h, fun h => ⟨_, _, rfl, rfl, h⟩⟩
end
end Dt
set_option Elab.async false
set_option linter.all false
set_option maxRecDepth 100000
set_option maxHeartbeats 1000000
set_option autoImplicit false
namespace Dt
open PySem PySem.Spec L2 Kx PyProof.Rows
section
variable {α β : Type}
def jnG (w : Nat) (s : α) : List (List α) → List α
  | [] => []
  | b :: bs => b.flatMap (List.replicate w) ++ (bs.map fun b => s :: b.flatMap (List.replicate w)).flatten
end
end Dt
set_option Elab.async false
set_option linter.all false
set_option maxRecDepth 100000
set_option maxHeartbeats 1000000
set_option autoImplicit false
namespace Dt
open PySem PySem.Spec L2 Kx PyProof.Rows
theorem cut_fr (x : Str) {a : Int} (h0 : 0 ≤ a) (h2 : a ≤ x.length) : (cutS x (some a) none).cps.toList = x.cps.toList.drop a.toNat := by
  unfold cutS
  have e1 : HT.sIx x.length 0 (some a) = a.toNat := by
    show (if a < 0 then _ else min a.toNat x.length) = _
    rw [if_neg (by omega)]
    omega
  rw [e1, HT.sIx_none]
  show (x.cps.toList.drop a.toNat).take _ = _
  rw [List.take_of_length_le (by rw [List.length_drop, cps_len]; exact Nat.le_refl _)]
def picsL (k : Str) (w n : Int) (lss : List (List Int)) (g : Option Int) : List Str := (List.range (n + 1).toNat).map fun lv : Nat => picRow k w lss g (lv : Int)
end Dt
set_option Elab.async false
set_option linter.all false
set_option maxRecDepth 100000
set_option maxHeartbeats 1000000
set_option autoImplicit false
namespace Dt
open PySem PySem.Spec L2 Kx PyProof.Rows
def rowsC (w n : Int) (sep : Nat → Nat) (cols : List (List (Nat → Nat))) : List Str := (List.range (n + 1).toNat).map fun lv : Nat => mkS ((jnG w.toNat sep cols).map fun f => f lv)
theorem rng_getD {α β : Type} (F : α → β) (l : List α) (d : α) : (List.range l.length).map (fun i => F (l.getD i d)) = l.map F := by
  refine List.ext_getElem (by simp) fun i h1 h2 => ?_
  rw [List.length_map] at h2
  rw [List.getElem_map, List.getElem_map, List.getElem_range, List.getD_eq_getElem?_getD, List.getElem?_eq_getElem h2]
  rfl
end Dt
set_option Elab.async false
set_option linter.all false
set_option maxRecDepth 100000
set_option maxHeartbeats 1000000
set_option autoImplicit false
namespace Dt
open PySem PySem.Spec L2 Kx PyProof.Rows
end Dt
set_option Elab.async false
set_option linter.all false
set_option maxRecDepth 100000
set_option maxHeartbeats 1000000
set_option autoImplicit false
namespace Dt
open PySem PySem.Spec L2 Kx PyProof.Rows
section
variable {T : Tb} {E : XK} {ta tb : TE} {wa wb : WE}
end
section
variable {X : Cx} {T : Tb} {E : XK} {o e : Expr} {to te : TE} {wo we : WE} {apos pos : Pos}
end
end Dt
set_option Elab.async false
set_option linter.all false
set_option maxRecDepth 100000
set_option maxHeartbeats 1000000
set_option autoImplicit false
namespace Dt
open PySem PySem.Spec L2 Kx PyProof.Rows
end Dt
set_option Elab.async false
set_option linter.all false
set_option maxRecDepth 100000
set_option maxHeartbeats 1000000
set_option autoImplicit false
namespace Dt
open PySem PySem.Spec L2 Kx PyProof.Rows
end Dt
set_option Elab.async false
set_option linter.all false
set_option maxRecDepth 100000
set_option maxHeartbeats 1000000
set_option autoImplicit false
namespace Dt
open PySem PySem.Spec L2 Kx PyProof.Rows
theorem LPl.with {k : Str} {w n S f : Int} {m : Nat} {lss ls : List (List Int)} {xs : List (Option Str)} {ss : List Str} (h : LPl k w n S f m lss xs ss) (h0 : 1 ≤ ls.length) (h1 : ls.length ≤ 12) (hl : ∀ l ∈ ls, l ∈ lss) : LPl k w n S f m ls (List.replicate ls.length none) ss :=
  { h with l0 := h0, l1 := h1, ll := fun l x => h.ll l (hl l x), xl := List.length_replicate .., xo := fun x hx => by have := (List.mem_replicate.mp hx).2; cases this }
end Dt
set_option Elab.async false
set_option linter.all false
set_option maxRecDepth 100000
set_option maxHeartbeats 1000000
set_option autoImplicit false
namespace Dt
open PySem PySem.Spec L2 Kx PyProof.Rows
end Dt
set_option Elab.async false
set_option linter.all false
set_option maxRecDepth 100000
set_option maxHeartbeats 1000000
set_option autoImplicit false
namespace Kx
open PySem PySem.Spec L2 PyProof.Rows PySem.W
section
variable {X : Cx} {o e : Expr} {to te : TE} {apos pos : Pos}
end
end Kx
namespace Dt
open PySem PySem.Spec L2 Kx PyProof.Rows
section
variable {T : Tb} {E : XK}
def dStrC : Str → D → (R → Prop) → Prop := fun a e Ψ => ∃ b, e = .str b ∧ a.length ≤ sizeLine ∧ Ψ (.val (.str (Txt.stripChars a b)))
theorem dstrC_str {a b : Str} {Ψ : R → Prop} : dStrC a (.str b) Ψ = sideR (a.length ≤ sizeLine) (Ψ (.val (.str (Txt.stripChars a b)))) := propext ⟨fun ⟨_, e, h⟩ => by cases e; exact h, fun h => ⟨_, rfl, h⟩⟩
def partD (a b : Str) : D := .tup [.str (Txt.partition a b).1, .str (Txt.partition a b).2.1, .str (Txt.partition a b).2.2]
def dPart : Str → D → (R → Prop) → Prop := fun a e Ψ => ∃ b : Str, e = .str b ∧ ((b.length == 0) = false ∧ a.length ≤ sizeLine) ∧ Ψ (.val (partD a b))
theorem dpart_str {a b : Str} {Ψ : R → Prop} : dPart a (.str b) Ψ = sideR ((b.length == 0) = false ∧ a.length ≤ sizeLine) (Ψ (.val (partD a b))) := propext ⟨fun ⟨_, e, h⟩ => by cases e; exact h, fun h => ⟨_, rfl, h⟩⟩
end
section
variable {X : Cx} {T : Tb} {E : XK} {o e : Expr} {to te : TE} {wo we : WE} {apos pos : Pos}
end
end Dt
namespace Dt
open PySem PySem.Spec L2 Kx PyProof.Rows
end Dt
set_option Elab.async false
set_option linter.all false
set_option maxRecDepth 100000
set_option maxHeartbeats 1000000
set_option autoImplicit false
namespace Dt
open PySem PySem.Spec L2 Kx PyProof.Rows
end Dt
set_option Elab.async false
set_option linter.all false
set_option maxRecDepth 100000
set_option maxHeartbeats 1000000
set_option autoImplicit false
namespace Dt
open PySem PySem.Spec L2 Kx PyProof.Rows
section
variable {k : Str} {w n : Int} {ms : List (Int × Int)} {lss : List (List Int)} {xs : List (Option Str)} {ss : List Str} {a z : Int × Int}
end
end Dt
set_option Elab.async false
set_option linter.all false
set_option maxRecDepth 100000
set_option maxHeartbeats 1000000
set_option autoImplicit false
namespace Dt
open PySem PySem.Spec L2 Kx PyProof.Rows
section
variable {k : Str} {w n : Int} {ms : List (Int × Int)} {lss : List (List Int)} {xs : List (Option Str)} {ss : List Str} {a z : Int × Int}
end
section
variable {k : Str} {w n : Int} {ms : List (Int × Int)} {lss : List (List Int)} {xs : List (Option Str)} {ss : List Str} {a z : Int × Int}
end
end Dt
set_option Elab.async false
set_option linter.all false
set_option maxRecDepth 100000
set_option maxHeartbeats 1000000
set_option autoImplicit false
namespace Kx
open PySem PySem.Spec L2 PyProof.Rows PySem.W
section
variable {X : Cx}
end
end Kx
namespace Dt
open PySem PySem.Spec L2 Kx PyProof.Rows
section
variable {T : Tb} {E : XK}
end
end Dt
set_option Elab.async false
set_option linter.all false
set_option maxRecDepth 100000
set_option autoImplicit false
namespace L2
open PySem PySem.Spec PyProof.Rows
end L2
set_option Elab.async false
set_option linter.all false
set_option maxRecDepth 100000
set_option autoImplicit false
namespace L2
open PySem PySem.Spec PyProof.Rows PySem.W
section
variable {X : Cx} {pins : List (Addr × Obj)} {σ : St} {H : Hp} {s : Shared}
end
end L2
set_option Elab.async false
set_option linter.all false
set_option maxRecDepth 100000
set_option autoImplicit false
namespace L2
open PySem PySem.Spec PyProof.Rows PySem.W
end L2
set_option Elab.async false
set_option linter.all false
set_option maxRecDepth 100000
set_option autoImplicit false
namespace L2
open PySem PySem.Spec PyProof.Rows PySem.W
end L2
set_option Elab.async false
set_option linter.all false
set_option maxRecDepth 100000
set_option autoImplicit false
namespace L2
open PySem PySem.Spec PyProof.Rows PySem.W Kx
end L2
set_option Elab.async false
set_option linter.all false
set_option maxRecDepth 100000
set_option autoImplicit false
namespace L2
open PySem PySem.Spec PyProof.Rows PySem.W Kx
section
variable {X : Cx}
end
end L2
set_option Elab.async false
set_option linter.all false
set_option maxRecDepth 100000
set_option autoImplicit false
namespace Dt
open PySem PySem.Spec L2 Kx PyProof.Rows
section
variable {T : Tb} {F F1 F2 F' H H1 H2 H' : Hp} {σ σ2 : L2.St} {Γ Γ1 Γ2 Γ' Γw : Gm} {E : XK} {te : TE} {we : WE} {P : Addr}
def allB (ds : List D) (wg : WG) (we : WE) (vs : List Nat) (Φ : R → Gm → Prop) (Γ1 : Gm) : Prop := ∃ I : Nat → Gm → Prop, I 0 (wipeG Γ1 vs) ∧
  (∀ i Γ d, I i Γ → ds[i]? = some d → wg d Γ fun Γ2 => we Γ2 (fun r Γ3 => ∃ b, r.at Γ3 = some (.bl b) ∧ iteR b (I (i + 1) (wipeG Γ3 vs)) (Φ (.val (.bl false)) (rstG Γ1 (wipeG Γ3 vs) vs))) fun _ => False) ∧
  ∀ Γ, I ds.length Γ → Φ (.val (.bl true)) (rstG Γ1 Γ vs)
def wAllG (wI : WI) (wg : WG) (we : WE) (vs : List Nat) : WE := fun Γ Φ Ξ => wI Γ (fun ds Γ1 => allB ds wg we vs Φ Γ1) Ξ
theorem allG_ap {wI : WI} {wg : WG} {vs : List Nat} {Φ : R → Gm → Prop} {Ξ : XD → Prop} : wAllG wI wg we vs Γ Φ Ξ = wI Γ (fun ds Γ1 => allB ds wg we vs Φ Γ1) Ξ := rfl
end
section
variable {X : Cx} {T : Tb} {E : XK} {elt tg iter : Expr} {scope : Scope} {own : List (Str × Nat)} {te : TE} {we : WE} {wi : TI} {wI : WI} {g : TG} {wg : WG}
end
end Dt
set_option Elab.async false
set_option linter.all false
set_option maxRecDepth 100000
set_option autoImplicit false
namespace L2
open PySem PySem.Spec PyProof.Rows
end L2
namespace Dt
open PySem PySem.Spec L2 Kx PyProof.Rows
end Dt
set_option Elab.async false
set_option linter.all false
set_option maxRecDepth 100000
set_option maxHeartbeats 1000000
set_option autoImplicit false
namespace Kx
open PySem PySem.Spec L2 PyProof.Rows PySem.W
section
variable {X : Cx} {o e : Expr} {to te : TE} {apos pos : Pos}
end
end Kx
namespace Dt
open PySem PySem.Spec L2 Kx PyProof.Rows
section
variable {T : Tb} {E : XK} {to t1 t2 : TE} {wo w1 w2 : WE}
def dRmp : Str → D → (R → Prop) → Prop := fun a e Ψ => ∃ b, e = .str b ∧ a.length ≤ sizeLine ∧ Ψ (.val (.str (Txt.removeprefix a b)))
theorem drmp_str {a b : Str} {Ψ : R → Prop} : dRmp a (.str b) Ψ = sideR (a.length ≤ sizeLine) (Ψ (.val (.str (Txt.removeprefix a b)))) := propext ⟨fun ⟨_, e, h⟩ => by cases e; exact h, fun h => ⟨_, rfl, h⟩⟩
def dFindT : Str → D → (R → Prop) → Prop := fun a e Ψ => ∃ b, e = .str b ∧ Ψ (.val (.int (Txt.find a b)))
theorem dfind_str {a b : Str} {Ψ : R → Prop} : dFindT a (.str b) Ψ = Ψ (.val (.int (Txt.find a b))) := propext ⟨fun ⟨_, e, h⟩ => by cases e; exact h, fun h => ⟨_, rfl, h⟩⟩
def dCountT : Str → D → (R → Prop) → Prop := fun a e Ψ => ∃ b, e = .str b ∧ Ψ (.val (.int (Txt.count a b)))
theorem dcount_str {a b : Str} {Ψ : R → Prop} : dCountT a (.str b) Ψ = Ψ (.val (.int (Txt.count a b))) := propext ⟨fun ⟨_, e, h⟩ => by cases e; exact h, fun h => ⟨_, rfl, h⟩⟩
def dSplit : Str → D → (R → Prop) → Prop := fun a e Ψ => ∃ b : Str, e = .str b ∧ ((b.length == 0) = false ∧ a.length + 2 ≤ sizeLine) ∧ Ψ (.new ((Txt.split a b).map D.str))
theorem dsplit_str {a b : Str} {Ψ : R → Prop} : dSplit a (.str b) Ψ = sideR ((b.length == 0) = false ∧ a.length + 2 ≤ sizeLine) (Ψ (.new ((Txt.split a b).map D.str))) := propext ⟨fun ⟨_, e, h⟩ => by cases e; exact h, fun h => ⟨_, rfl, h⟩⟩
def ljR (a : Str) (d : D) (y : Str) (k : Str → Prop) : Prop := ∃ (i : Int) (c : Nat), d = .int i ∧ y = ⟨#[c]⟩ ∧ PadOk i = true ∧ k (Txt.ljustF a i c)
def wLjF (wo w1 w2 : WE) : WE := fun Γ Ψ Ξ => wo Γ (fun r1 Γ1 => strR Γ1 r1 fun a => w1 Γ1 (fun r2 Γ2 => getR Γ2 r2 fun d => w2 Γ2 (fun r3 Γ3 => strR Γ3 r3 fun y => ljR a d y fun x => Ψ (.val (.str x)) Γ3) Ξ) Ξ) Ξ
theorem ljF_ap {Γ : Gm} {Φ : R → Gm → Prop} {Ξ : XD → Prop} : wLjF wo w1 w2 Γ Φ Ξ = wo Γ (fun r1 Γ1 => strR Γ1 r1 fun a => w1 Γ1 (fun r2 Γ2 => getR Γ2 r2 fun d => w2 Γ2 (fun r3 Γ3 => strR Γ3 r3 fun y => ljR a d y fun x => Φ (.val (.str x)) Γ3) Ξ) Ξ) Ξ := rfl
end
end Dt
set_option Elab.async false
set_option linter.all false
set_option maxRecDepth 100000
set_option autoImplicit false
namespace L2
open PySem PySem.Spec PyProof.Rows PySem.W
section
variable {X : Cx} {pins : List (Addr × Obj)} {σ : St} {H : Hp} {s : Shared}
end
section
variable {X : Cx}
end
end L2
set_option Elab.async false
set_option linter.all false
set_option maxRecDepth 100000
set_option maxHeartbeats 4000000
set_option autoImplicit false
namespace Zt
open PySem PySem.Spec PyProof.Rows L2 Builtin
local macro_rules | `(tactic| walk_at "wps") => `(tactic| (repeat (any_goals (first | assumption | wp_step))))
end Zt
set_option Elab.async false
set_option linter.all false
set_option maxRecDepth 100000
set_option maxHeartbeats 4000000
set_option autoImplicit false
namespace Zt
open PySem PySem.Spec PyProof.Rows L2 Builtin
section
variable {prog : Program} {w : World} {A : Around} {E : Value → Shared → Prop} {s : Shared} {k : Nat} {i1 : Addr} {f1 : List Addr} {n1 : Nat} {P1 : Nat → Value → Prop} {S1 : Nat → Heap → Prop}
end
end Zt
set_option Elab.async false
set_option linter.all false
set_option maxRecDepth 100000
set_option maxHeartbeats 2000000
set_option autoImplicit false
namespace L2
open PySem PySem.Spec PyProof.Rows
end L2
namespace Dt
open PySem PySem.Spec L2 Kx PyProof.Rows
section
variable {T : Tb} {F F' H : Hp} {E : XK} {tA : TA} {wA : WA}
def enuC (k0 : Int) (ds : List D) : List D := ds.mapIdx fun i d => D.tup [.int (k0 + (i : Nat)), d]
def wIEnumC (k0 : Int) (wA : WA) : WI := fun Γ Ψ Ξ => wA Γ (fun rs Γ1 => ∃ ds Γ2, frzL Γ1 rs = some ([.lst ds], Γ2) ∧ Ψ (enuC k0 ds) Γ2) Ξ
theorem ieC_ap {k0 : Int} {Γ : Gm} {Φd : List D → Gm → Prop} {Ξ : XD → Prop} : wIEnumC k0 wA Γ Φd Ξ = wA Γ (fun rs Γ1 => frzLR Γ1 rs fun ds Γ2 => match ds with | [.lst es] => Φd (enuC k0 es) Γ2 | _ => False) Ξ := by
  unfold wIEnumC frzLR
  congr 1
  funext rs Γ1
  refine propext ⟨fun ⟨ds, Γ2, h, q⟩ => ⟨_, _, h, q⟩, fun ⟨ds, Γ2, h, q⟩ => ?_⟩
  dsimp only at q
  split at q
  · exact ⟨_, _, h, q⟩
  · exact q.elim
end
section
variable {X : Cx} {T : Tb} {E : XK} {a : Expr} {tA : TA} {wA : WA}
end
end Dt
set_option Elab.async false
set_option linter.all false
set_option maxRecDepth 100000
set_option maxHeartbeats 1000000
set_option autoImplicit false
namespace Dt
open PySem PySem.Spec L2 Kx PyProof.Rows
section
variable {T : Tb} {F F1 F2 F' H H1 H2 H' : Hp} {σ : L2.St} {Γ Γ1 Γ2 Γ' : Gm} {E : XK} {t te tw : TE} {w we ww : WE} {tA : TA} {wA : WA}
end
section
variable {X : Cx} {T : Tb} {E : XK} {o e e1 e2 : Expr} {es : List Expr} {to te t1 t2 : TE} {wo we w1 w2 : WE} {tA : TA} {wA : WA} {apos pos p : Pos} {x : Str}
end
end Dt
namespace Dt
open PySem PySem.Spec L2 Kx PyProof.Rows
section
variable {Γ : Gm} {Φ : R → Gm → Prop} {Ξ : XD → Prop} {we ww wo w1 w2 : WE} {wA : WA} {wf : WF}
end
end Dt
set_option Elab.async false
set_option linter.all false
set_option maxRecDepth 100000
set_option maxHeartbeats 4000000
set_option autoImplicit false
namespace Dt
open PySem PySem.Spec L2 Kx PyProof.Rows PySem.NumText
structure Nm (x : Str) : Prop where
  l1 : 1 ≤ x.cps.toList.length
  l2 : x.cps.toList.length ≤ 10
  az : ∀ c ∈ x.cps.toList, 97 ≤ c ∧ c ≤ 122
end Dt
set_option Elab.async false
set_option linter.all false
set_option maxRecDepth 100000
set_option maxHeartbeats 4000000
set_option autoImplicit false
namespace Dt
open PySem PySem.Spec L2 Kx PyProof.Rows PySem.NumText
end Dt
set_option Elab.async false
set_option linter.all false
set_option maxRecDepth 100000
set_option maxHeartbeats 4000000
set_option autoImplicit false
namespace Dt
open PySem PySem.Spec L2 Kx PyProof.Rows PySem.NumText
end Dt
set_option Elab.async false
set_option linter.all false
set_option maxRecDepth 100000
set_option maxHeartbeats 4000000
set_option autoImplicit false
namespace Dt
open PySem PySem.Spec L2 Kx PyProof.Rows PySem.NumText
theorem abc_at {v : Int} (h0 : 0 ≤ v) (h1 : v < 26) : atI (Str.ofString "abcdefghijklmnopqrstuvwxyz").cps.toList v = some (97 + v.toNat) := by
  have key : ∀ i : Fin 26, (Str.ofString "abcdefghijklmnopqrstuvwxyz").cps.toList[i.val]? = some (97 + i.val) := by decide +kernel
  have := key ⟨v.toNat, by omega⟩
  exact (congrArg (atI _) (show v = ((v.toNat : Nat) : Int) by omega)).trans (atI_nat this)
def Lt (l : List Nat) : Prop := ∀ c ∈ l, 97 ≤ c ∧ c ≤ 122
def nmK (L R : List Nat) (f : Int) (lg : Nat) (k : Nat) : Str := mkS ((L ++ [97 + ((f + 5 * (k : Int)) % 26).toNat] ++ R) ++ List.replicate (k % 2 * lg) 115)
theorem nmK_nm {L R : List Nat} {f : Int} {lg k : Nat} (hL : Lt L) (hR : Lt R) (hl : L.length + 1 + R.length + lg ≤ 10) : Nm (nmK L R f lg k) := by
  have h1 : k % 2 * lg ≤ lg := by
    have : k % 2 = 0 ∨ k % 2 = 1 := by omega
    rcases this with h | h <;> rw [h] <;> omega
  have e : (nmK L R f lg k).cps.toList = (L ++ [97 + ((f + 5 * (k : Int)) % 26).toNat] ++ R) ++ List.replicate (k % 2 * lg) 115 := tl_mk _
  refine ⟨by rw [e]; simp; omega, by rw [e]; simp; omega, fun c hc => ?_⟩
  rw [e] at hc
  rcases List.mem_append.mp hc with hc | hc
  · rcases List.mem_append.mp hc with hc | hc
    · rcases List.mem_append.mp hc with hc | hc
      · exact hL c hc
      · have := List.mem_singleton.mp hc
        have h2 := Int.emod_nonneg (f + 5 * (k : Int)) (show (26 : Int) ≠ 0 by decide)
        have h3 := Int.emod_lt_of_pos (f + 5 * (k : Int)) (show (0 : Int) < 26 by decide)
        omega
    · exact hR c hc
  · rw [(List.mem_replicate.mp hc).2]
    omega
theorem nmK_at {L R : List Nat} {f : Int} {lg k : Nat} : (nmK L R f lg k).cps.toList[L.length]? = some (97 + ((f + 5 * (k : Int)) % 26).toNat) := by
  unfold nmK
  rw [tl_mk, List.append_assoc, List.append_assoc, List.getElem?_append_right (Nat.le_refl _), Nat.sub_self]
  rfl
theorem nmK_ne {L R : List Nat} {f : Int} {lg i j : Nat} (hi : i < j) (hj : j < 26) : nmK L R f lg i ≠ nmK L R f lg j := fun e => by
  have := nmK_at (L := L) (R := R) (f := f) (lg := lg) (k := i)
  rw [e, nmK_at] at this
  have := Option.some.inj this
  omega
theorem nmK_nodup {L R : List Nat} {f : Int} {lg m : Nat} (hm : m ≤ 26) : ((List.range m).map (nmK L R f lg)).Nodup := by
  rw [List.nodup_iff_pairwise_ne, List.pairwise_map]
  refine List.Pairwise.imp_of_mem ?_ (List.pairwise_lt_range (n := m))
  intro a b ha hb h
  exact nmK_ne h (by have := List.mem_range.mp hb; omega)
theorem range_snoc {α : Type} (g : Nat → α) (i : Nat) : (List.range (i + 1)).map g = (List.range i).map g ++ [g i] := by rw [List.range_succ, List.map_append]; rfl
end Dt
set_option Elab.async false
set_option linter.all false
set_option maxRecDepth 100000
set_option maxHeartbeats 4000000
set_option autoImplicit false
namespace Dt
open PySem PySem.Spec L2 Kx PyProof.Rows PySem.NumText
end Dt
set_option Elab.async false
set_option linter.all false
set_option maxRecDepth 100000
set_option maxHeartbeats 4000000
set_option autoImplicit false
namespace Dt
open PySem PySem.Spec L2 Kx PyProof.Rows PySem.NumText
end Dt
set_option Elab.async false
set_option linter.all false
set_option maxRecDepth 100000
set_option maxHeartbeats 4000000
set_option autoImplicit false
namespace Dt
open PySem PySem.Spec L2 Kx PyProof.Rows PySem.W
section
variable {T : Tb} {F F1 F2 F' H H1 H2 H' : Hp} {σ : L2.St} {Γ Γ1 Γ2 Γ' : Gm} {E : XK} {t : TE} {w : WE} {tA : TA} {wA : WA} {io : Bool}
end
section
variable {X : Cx} {T : Tb} {E : XK} {io : Bool} {e : Expr} {es : List Expr} {tA : TA} {wA : WA} {pos : Pos} {x : Str}
end
section
variable {P : Program} {wd : World} {K : PySem.W.Frag} {mg : Str → Option Value} {base : Heap} {x qual : Str} {st : Stmt} {f : Addr} {fd : FuncData} {N ps : List Str} {k : Nat} {ts : List Addr} {ls : List (Addr × Pos × Str)} {io : Bool} {wf : WF} {w : WS}
variable {qual : Str} {scope : Scope} {cdv : Value} {A : Around} {outer : List Env} {s : Shared} {H : Hp} {E : XK}
end
end Dt
set_option Elab.async false
set_option linter.all false
set_option maxRecDepth 100000
set_option maxHeartbeats 4000000
set_option autoImplicit false
namespace Dt
open PySem PySem.Spec L2 Kx PyProof.Rows PySem.W
section
variable {X : Cx} {T : Tb} {E : XK} {c d : Str} {b : Bool} {e : Expr} {t : TE} {w : WE} {pos p1 p2 : Pos}
def D.isiN : D → Option Bool
  | .lst _ => some false
  | .tup _ => some false
  | .non => some false
  | d => isiB d.v "str"
def dIsiN : List D → (R → Prop) → Prop := fun ds Ψ => ∃ d b, ds = [d, .ty "str"] ∧ d.isiN = some b ∧ Ψ (.val (.bl b))
theorem disiN_ap {d : D} {Ψ : R → Prop} : dIsiN [d, .ty "str"] Ψ = ∃ b, d.isiN = some b ∧ Ψ (.val (.bl b)) := propext ⟨fun ⟨_, _, e, h⟩ => by cases e; exact ⟨_, h⟩, fun ⟨b, h⟩ => ⟨d, b, rfl, h⟩⟩
end
end Dt
set_option Elab.async false
set_option linter.all false
set_option maxRecDepth 100000
set_option maxHeartbeats 4000000
set_option autoImplicit false
namespace Dt
open PySem PySem.Spec L2 Kx PyProof.Rows PySem.NumText
end Dt
set_option Elab.async false
set_option linter.all false
set_option maxRecDepth 100000
set_option maxHeartbeats 1000000
set_option autoImplicit false
namespace L2
open PySem PySem.Spec PyProof.Rows
end L2
namespace Dt
open PySem PySem.Spec L2 Kx PyProof.Rows
section
variable {X : Cx} {T : Tb} {K : PySem.W.Frag} {F H : Hp}
def anyD (d : D) (ds : List D) : Bool := ds.any fun e => deq e d
def bInDeep : D → D → (Bool → Prop) → Prop := fun d e Ψ => ∃ ds, e = .lst ds ∧ (∃ n, n ≤ 60 ∧ Dep n d) ∧ (∃ n, n ≤ 60 ∧ ∀ x ∈ ds, Dep n x) ∧ Ψ (anyD d ds)
def bLeS : D → D → (Bool → Prop) → Prop := fun d e Ψ => ∃ i j, d = .str i ∧ e = .str j ∧ Ψ (!decide (j.cps.toList < i.cps.toList))
def bIsB : D → D → (Bool → Prop) → Prop := fun d e Ψ => ∃ b c, d = .bl b ∧ e = .bl c ∧ Ψ (!decide (b = c))
theorem isB_ap {b c : Bool} {Ψ : Bool → Prop} : bIsB (.bl b) (.bl c) Ψ = Ψ (!decide (b = c)) := propext ⟨fun ⟨_, _, e, e', h⟩ => by cases e; cases e'; exact h, fun h => ⟨b, c, rfl, rfl, h⟩⟩
theorem inDeep_ap {d : D} {ds : List D} {Ψ : Bool → Prop} : bInDeep d (.lst ds) Ψ = sideR ((∃ n, n ≤ 60 ∧ Dep n d) ∧ ∃ n, n ≤ 60 ∧ ∀ x ∈ ds, Dep n x) (Ψ (anyD d ds)) := propext ⟨fun ⟨_, e, a, b, h⟩ => by cases e; exact ⟨⟨a, b⟩, h⟩, fun ⟨⟨a, b⟩, h⟩ => ⟨ds, rfl, a, b, h⟩⟩
theorem leS_ap {i j : Str} {Ψ : Bool → Prop} : bLeS (.str i) (.str j) Ψ = Ψ (!decide (j.cps.toList < i.cps.toList)) := propext ⟨fun ⟨_, _, e, e', h⟩ => by cases e; cases e'; exact h, fun h => ⟨i, j, rfl, rfl, h⟩⟩
end
end Dt
set_option Elab.async false
set_option linter.all false
set_option maxRecDepth 100000
set_option maxHeartbeats 1000000
set_option autoImplicit false
namespace Dt
open PySem PySem.Spec L2 Kx PyProof.Rows
structure GMk (k : Str) (n : Int) (j : Nat) (f : Int) (m : Nat) : Prop where
  j1 : j ≤ 80
  m0 : 2 ≤ m
  m1 : (m : Int) ≤ n / 2 + 2
  n0 : 2 ≤ n
  n1 : n ≤ 40
  bd : ∀ i : Nat, i < m → (Kx.R j * (f + i)).natAbs < 10 ^ 27
  br : k = "bars" → f ≤ 0 ∧ 0 < f + m
  st : k = "stacks" → f = 0
  sh : k = "shares" → f = 0 ∧ Kx.R j * (m - 1) = 100 * 10 ^ 12
def given (xs : List (Option Str)) : List Str := xs.filterMap id
def touch : List (Option Str × Int) → Int → Bool
  | [], _ => false
  | (none, _) :: r, f => touch r f
  | (some x, i) :: r, f => decide (i < f) || touch r (i + x.length + 1)
structure GPl (k : Str) (w n : Int) (j : Nat) (f : Int) (m : Nat) (lss : List (List Int)) (xs : List (Option Str)) (ss : List Str) : Prop where
  kd : IsKd k
  w0 : 1 ≤ w
  w1 : w ≤ 6
  gm : GMk k n j f m
  l0 : 1 ≤ lss.length
  l1 : lss.length ≤ 12
  ll : ∀ l ∈ lss, l.length = ss.length ∧ BandOk k n l
  xl : xs.length = lss.length
  xo : ∀ x, some x ∈ xs → Nm x
  xn : (given xs).Nodup
  nt : touch (xs.zip (stL k w ss.length lss.length)) 0 = false
  s0 : 1 ≤ ss.length
  s1 : ss.length ≤ 4
  so : ∀ s ∈ ss, Nm s
  sn : ss.Nodup
def there (l : List (Option Str × Int)) : List (Int × Int) := l.filterMap fun p => p.1.map fun x => (p.2, (x.length : Int))
theorem nm_len1 {x : Str} (h : Nm x) : x.length ≤ 10 := h.l2
end Dt
set_option Elab.async false
set_option linter.all false
set_option maxRecDepth 100000
set_option maxHeartbeats 1000000
set_option autoImplicit false
namespace L2
open PySem PySem.Spec PyProof.Rows
section
variable {X : Cx} {a b c d : Expr} {ta tb tc td : TE} {pos : Pos}
end
end L2
namespace Dt
open PySem PySem.Spec L2 Kx PyProof.Rows
section
variable {X : Cx} {T : Tb} {E : XK} {a b c d : Expr} {ta tb tc td : TE} {wa wb wc wd : WE} {pos : Pos}
def wChain3 (g g' g2 : D → D → (Bool → Prop) → Prop) (wa wb wc wd : WE) : WE := fun Γ Ψ Ξ => wa Γ (fun r1 Γ1 => wb Γ1 (fun r2 Γ2 => ∃ d1 d2, r1.at Γ2 = some d1 ∧ r2.at Γ2 = some d2 ∧ g d1 d2 fun b => if b = true then wc Γ2 (fun r3 Γ3 => ∃ d2 d3, r2.at Γ3 = some d2 ∧ r3.at Γ3 = some d3 ∧ g' d2 d3 fun b => if b = true then wd Γ3 (fun r4 Γ4 => ∃ d3 d4, r3.at Γ4 = some d3 ∧ r4.at Γ4 = some d4 ∧ g2 d3 d4 fun b => Ψ (.val (.bl b)) Γ4) Ξ else Ψ (.val (.bl false)) Γ3) Ξ else Ψ (.val (.bl false)) Γ2) Ξ) Ξ
theorem chain3_ap {gb gb' gb2 : D → D → (Bool → Prop) → Prop} {Γ : Gm} {Φ : R → Gm → Prop} {Ξ : XD → Prop} : wChain3 gb gb' gb2 wa wb wc wd Γ Φ Ξ = wa Γ (fun r1 Γ1 => wb Γ1 (fun r2 Γ2 => getR Γ2 r1 fun d1 => getR Γ2 r2 fun d2 => gb d1 d2 fun b => iteR b (wc Γ2 (fun r3 Γ3 => getR Γ3 r2 fun d2 => getR Γ3 r3 fun d3 => gb' d2 d3 fun b => iteR b (wd Γ3 (fun r4 Γ4 => getR Γ4 r3 fun d3 => getR Γ4 r4 fun d4 => gb2 d3 d4 fun b => Φ (.val (.bl b)) Γ4) Ξ) (Φ (.val (.bl false)) Γ3)) Ξ) (Φ (.val (.bl false)) Γ2)) Ξ) Ξ := by
  unfold wChain3 getR iteR
  simp only [exists_and_left]
end
theorem nm_tx {x : Str} (h : Nm x) : TxOk 30 x := ⟨Nat.le_trans h.l2 (by decide), strOk_iff.mpr fun c hc => by have := h.az c hc; omega⟩
end Dt
set_option Elab.async false
set_option linter.all false
set_option maxRecDepth 100000
set_option maxHeartbeats 1000000
set_option autoImplicit false
namespace Dt
open PySem PySem.Spec L2 Kx PyProof.Rows
end Dt
set_option Elab.async false
set_option linter.all false
set_option maxRecDepth 100000
set_option maxHeartbeats 1000000
set_option autoImplicit false
namespace Zt
open PySem PySem.Builtin PyProof.Rows
section
variable {prog : Program} {w : World} {A : Around} {E : Value → Shared → Prop} {s : Shared} {z TI TO i1 i2 : Addr} {f1 f2 : List Addr} {n1 n2 k : Nat} {P1 P2 : Nat → Value → Prop} {S1 S2 : Nat → Heap → Prop} {a b : Value}
end
section
variable {prog : Program} {w : World} {A : Around} {R : Result → Shared → Prop} {z TI TO i1 i2 S : Addr} {f1 f2 : List Addr} {n1 n2 : Nat} {P1 P2 : Nat → Value → Prop} {S1 S2 : Nat → Heap → Prop} {a b : Value} {s : Shared}
end
end Zt
namespace L2
open PySem PySem.Spec PyProof.Rows
section
variable {X : Cx} {pins : List (Addr × Obj)} {σ : L2.St} {H : Hp} {s : Shared}
end
section
variable {X : Cx}
end
end L2
namespace Dt
open PySem PySem.Spec L2 Kx PyProof.Rows
section
variable {T : Tb} {E : XK} {tA : TA} {wA : WA}
variable {X : Cx} {a b : Expr} {pos pos' p p' : Pos}
end
end Dt
set_option Elab.async false
set_option linter.all false
set_option maxRecDepth 100000
set_option autoImplicit false
namespace HT
open PySem PyProof.Rows
section
variable {prog : Program} {w : World} {A : Around} {E : Value → Shared → Prop} {s : Shared}
end
end HT
namespace L2
open PySem PySem.Spec PyProof.Rows
section
variable {X : Cx}
end
end L2
namespace Dt
open PySem L2 Kx
section
variable {X : Cx} {T : Tb} {K : PySem.W.Frag}
def dSlTA : D → Option Int → Option Int → (R → Prop) → Prop := fun d lo hi Ψ => ∃ ds, d = .tup ds ∧ Ψ (.val (.tup (cutD ds lo hi)))
theorem dslTA_ap {ds : List D} {lo hi : Option Int} {Ψ : R → Prop} : dSlTA (.tup ds) lo hi Ψ = Ψ (.val (.tup (cutD ds lo hi))) := propext ⟨fun ⟨_, e, h⟩ => by cases e; exact h, fun h => ⟨_, rfl, h⟩⟩
end
end Dt
set_option Elab.async false
set_option linter.all false
set_option maxRecDepth 100000
set_option maxHeartbeats 1000000
set_option autoImplicit false
namespace Dt
open PySem L2 Kx
end Dt
namespace Dt
open PySem L2 Kx
end Dt
set_option Elab.async false
set_option linter.all false
set_option maxRecDepth 100000
set_option maxHeartbeats 1000000
set_option autoImplicit false
namespace Dt
open PySem PySem.Spec L2 Kx PyProof.Rows
section
variable {T : Tb} {E : XK} {X : Cx}
variable {to tk td : TE} {wo wk wd : WE}
end
end Dt
namespace Dt
open PySem PySem.Spec L2 Kx PyProof.Rows
end Dt
namespace Dt
open PySem PySem.Spec L2 Kx PyProof.Rows
end Dt
set_option Elab.async false
set_option linter.all false
set_option maxRecDepth 100000
set_option maxHeartbeats 1000000
set_option autoImplicit false
namespace L2
open PySem PySem.Spec PyProof.Rows PySem.W
section
variable {X : Cx} {pins : List (Addr × Obj)} {σ : L2.St} {H : Hp} {s : Shared}
end
end L2
namespace Dt
open PySem PySem.Spec L2 Kx PyProof.Rows
section
variable {T : Tb} {X : Cx} {K : PySem.W.Frag}
end
end Dt
namespace L2
open PySem PySem.Spec PyProof.Rows PySem.W
section
variable {X : Cx}
end
end L2
namespace Dt
open PySem PySem.Spec L2 Kx PyProof.Rows
section
variable {T : Tb} {E : XK} {tA : TA} {wA : WA} {to tk : TE} {wo wk : WE}
end
section
variable {T : Tb} {E : XK} {X : Cx} {tA : TA} {wA : WA} {to tk : TE} {wo wk : WE} {a b o e : Expr} {apos pos : Pos} {i : Nat}
end
end Dt
set_option Elab.async false
set_option linter.all false
set_option maxRecDepth 100000
set_option maxHeartbeats 1000000
set_option autoImplicit false
namespace Dt
open PySem L2 Kx
section
variable {c k : Str} {ss : List Str} {rs : List Rw} {n w lo hi : Int} {j : Nat} {K : D → WF → Prop}
end
end Dt
namespace Dt
open PySem L2 Kx
section
variable {c : Str} {ss : List Str} {rs : List Rw} {n w : Int} {Ψ : R → Prop}
end
end Dt
set_option Elab.async false
set_option linter.all false
set_option maxRecDepth 100000
set_option maxHeartbeats 1000000
set_option autoImplicit false
namespace HT
open PySem PyProof.Rows
section
variable {prog : Program} {w : World} {A : Around} {E : Value → Shared → Prop} {s : Shared}
end
end HT
namespace L2
open PySem PySem.Spec PyProof.Rows
section
variable {X : Cx}
end
end L2
namespace Dt
open PySem L2 Kx
section
variable {X : Cx} {T : Tb} {K : PySem.W.Frag}
def dCatA : D → D → (R → Prop) → Prop := fun d e Ψ => ∃ xs ys, d = .tup xs ∧ e = .tup ys ∧ xs.length + ys.length ≤ sizeLine ∧ Ψ (.val (.tup (xs ++ ys)))
theorem dcatA_ap {xs ys : List D} {Ψ : R → Prop} : dCatA (.tup xs) (.tup ys) Ψ = sideR (xs.length + ys.length ≤ sizeLine) (Ψ (.val (.tup (xs ++ ys)))) := propext ⟨fun ⟨_, _, e1, e2, h⟩ => by cases e1; cases e2; exact h, fun h => ⟨_, _, rfl, rfl, h⟩⟩
end
end Dt
namespace Dt
open PySem L2 Kx
end Dt
set_option Elab.async false
set_option linter.all false
set_option maxRecDepth 100000
set_option maxHeartbeats 1000000
set_option autoImplicit false
namespace Kx
open PySem PySem.Spec L2 PyProof.Rows PySem.W
open Builtin Builtin.ObjectAttr
section
variable {prog : Program} {w : World} {A : Around} {E : Value → Shared → Prop} {h : Heap} {g : Array GenState} {d : Drawn} {t : Nat} {os : OsState} {K : PySem.W.Frag} {a C dx : Addr} {o : Obj} {mA : Str → Option Value} {name : Str} {v : Value}
end
end Kx
set_option Elab.async false
set_option linter.all false
set_option maxRecDepth 100000
set_option maxHeartbeats 1000000
set_option autoImplicit false
namespace Xk
open PySem PySem.W
section
variable {prog : Program} {w : World} {A : Around} {E : Value → Shared → Prop} {h : Heap} {g : Array GenState} {d : Drawn} {t : Nat} {os : OsState} {K : Frag}
end
end Xk
namespace Xk
open PySem PySem.W
section
variable {prog : Program} {w : World} {A : Around} {E : Value → Shared → Prop} {h : Heap} {g : Array GenState} {d : Drawn} {t : Nat} {os : OsState} {K : Frag}
end
end Xk
set_option Elab.async false
set_option linter.all false
set_option maxRecDepth 100000
set_option maxHeartbeats 1000000
set_option autoImplicit false
namespace Xk
open PySem PySem.W
section
variable {M : Model} {A : Around} {E : Value → Shared → Prop} {h : Heap} {g : Array GenState} {d : Drawn} {t : Nat} {os : OsState}
variable {nm q : Str} {C N : Addr} {bs bm bmB : List Value} {hdct : Bool} {sn : List Str} {sub : List Value} {ab : Bool} {col : Option Bool} {dd : Option Addr} {k0 k1 k2 k3 k5 : Option Value} {B newId initId : String}
end
section
variable {prog : Program} {w : World} {A : Around} {R : Result → Shared → Prop} {h : Heap} {g : Array GenState} {d : Drawn} {t : Nat} {os : OsState}
variable {nm q : Str} {C N : Addr} {bs bm bmB : List Value} {hdct : Bool} {sn : List Str} {sub : List Value} {ab : Bool} {col : Option Bool} {dd : Option Addr} {k0 k1 k2 k3 k5 : Option Value} {B newId initId : String}
end
section
variable {prog : Program} {w : World} {A : Around} {E : Value → Shared → Prop} {h : Heap} {g : Array GenState} {d : Drawn} {t : Nat} {os : OsState} {K : Frag}
variable {nm q : Str} {C N : Addr} {bs bm bmB : List Value} {hdct : Bool} {sn : List Str} {sub : List Value} {ab : Bool} {col : Option Bool} {dd : Option Addr} {k0 k1 k2 k3 k5 : Option Value} {B newId initId : String}
end
section
variable {prog : Program} {w : World} {A : Around} {E : Value → Shared → Prop} {s : Shared} {env : Env} {K : Frag}
variable {nm q : Str} {C N : Addr} {bs bm bmB : List Value} {hdct : Bool} {sn : List Str} {sub : List Value} {ab : Bool} {col : Option Bool} {dd : Option Addr} {k0 k1 k2 k3 k5 : Option Value} {B newId initId : String}
end
end Xk
set_option Elab.async false
set_option linter.all false
set_option maxRecDepth 100000
set_option maxHeartbeats 1000000
set_option autoImplicit false
namespace Xk
open PySem PySem.W
open Builtin Builtin.ObjectAttr
section
variable {prog : Program} {w : World} {A : Around} {E : Value → Shared → Prop} {h : Heap} {g : Array GenState} {d : Drawn} {t : Nat} {os : OsState} {K : Frag}
end
section
variable {prog : Program} {w : World} {A : Around} {E : Value → Shared → Prop} {K : Frag} {s : Shared} {C D x : Addr} {cd : ClassData} {name : Str} {v : Value} {t0 : Value}
end
end Xk
set_option Elab.async false
set_option linter.all false
set_option maxRecDepth 100000
set_option maxHeartbeats 1000000
set_option autoImplicit false
namespace Kx
open PySem PySem.Spec L2 PyProof.Rows PySem.W Xk
section
variable {P : Program} {w : World} {K : PySem.W.Frag} {mg : Str → Option Value} {base : Heap} {N : List Str} {qual : Str} {scope : Scope} {f : Addr} {cdv : Value} {A : Around} {outer : List Env} {s : Shared} {H : Hp} {E : XK}
end
section
variable {P : Program} {w : World} {K : PySem.W.Frag} {mg : Str → Option Value} {base : Heap} {N : List Str} {qual : Str} {scope : Scope} {f : Addr} {cdv : Value} {A : Around} {outer : List Env} {s : Shared} {H : Hp} {E : XK}
end
end Kx
set_option Elab.async false
set_option linter.all false
set_option maxRecDepth 100000
set_option maxHeartbeats 1000000
set_option autoImplicit false
namespace Kx
open PySem PySem.Spec L2 PyProof.Rows PySem.W Xk
section
variable {X : Cx} {pins : List (Addr × Obj)} {σ : L2.St} {H : Hp} {s : Shared} {a dx C : Addr} {h' : Heap}
end
section
variable {X : Cx} {C D : Addr} {body : List Stmt} {e : Expr} {p0 p1 apos pos : Pos} {ta : TA}
end
section
variable {X : Cx} {C D fI : Addr} {x f : Str} {o value : Expr} {tv : TE} {pos pos' : Pos}
end
end Kx
set_option Elab.async false
set_option linter.all false
set_option maxRecDepth 100000
set_option maxHeartbeats 1000000
set_option autoImplicit false
namespace Kx
open PySem PySem.Spec L2 PyProof.Rows PySem.W Xk
section
variable {X : Cx} {e : Expr} {f : Str} {pos : Pos} {ta : TE}
end
end Kx
namespace Dt
open PySem PySem.Spec L2 Kx PyProof.Rows PySem.W Xk
section
variable {T : Tb} {F F1 F2 F' H H1 H2 H' : Hp} {σ : L2.St} {Γ Γ1 Γ2 Γ' : Gm} {E : XK} {t : TE} {w : WE} {tA : TA} {wA : WA} {io : Bool} {c f : Str}
end
section
variable {P : Program} {wd : World} {K : PySem.W.Frag} {mg : Str → Option Value} {base : Heap} {N ps : List Str} {ts : List Addr} {ls : List (Addr × Pos × Str)} {io : Bool}
variable {qual : Str} {scope : Scope} {f : Addr} {cdv : Value} {A : Around} {outer : List Env} {s : Shared} {H : Hp} {E : XK}
end
section
variable {P : Program} {wd : World} {K : PySem.W.Frag} {mg : Str → Option Value} {base : Heap} {x qual cn : Str} {st : Stmt} {f cc cda C Dd : Addr} {N ps ns : List Str} {k : Nat} {ts : List Addr} {ls : List (Addr × Pos × Str)} {fd : FuncData} {mok : List D → Prop} {wA : WA} {tA : TA}
end
end Dt
namespace Dt
open PySem PySem.Spec L2 Kx PyProof.Rows PySem.W
section
variable {X : Cx} {T : Tb} {E : XK} {io : Bool} {e : Expr} {es : List Expr} {tA : TA} {wA : WA} {pos : Pos} {x : Str}
end
end Dt
set_option Elab.async false
set_option linter.all false
set_option maxRecDepth 100000
set_option maxHeartbeats 1000000
set_option autoImplicit false
namespace Kx
open PySem PySem.Spec L2 PyProof.Rows PySem.W
end Kx
namespace Dt
open PySem PySem.Spec L2 Kx PyProof.Rows
section
variable {T : Tb} {E : XK} {ta tb : TE} {wa wb : WE}
end
section
variable {X : Cx} {T : Tb} {E : XK} {o e : Expr} {to te : TE} {wo we : WE} {apos pos : Pos}
end
end Dt
set_option Elab.async false
set_option linter.all false
set_option maxRecDepth 100000
set_option maxHeartbeats 1000000
set_option autoImplicit false
namespace Dt
open PySem PySem.Spec L2 Kx PyProof.Rows
end Dt
namespace Dtq
open PySem PySem.Spec L2 Kx PyProof.Rows Dt
end Dtq
set_option Elab.async false
set_option linter.all false
set_option maxRecDepth 100000
set_option autoImplicit false
namespace Dt
open PySem L2 Kx
section
variable {T : Tb} {F F1 F2 F' H H1 H2 H' H0 F0 Fs Hs : Hp} {σ σs : St} {Γ Γ1 Γ2 Γ' Γn Γs : Gm} {E : XK} {t : TE} {w : WE} {ra : Addr} {K : PySem.W.Frag}
def PrsA (Hs : Hp) (A : Addr) (H : Hp) (acc : List V) : Prop := H A = some (.lst acc) ∧ ∀ u ∈ acc, ∃ c b nm ws, u = .ref c ∧ H c = some (.tup [nm, .ref b]) ∧ b ≠ A ∧ Hs b = none ∧ Hs c = none ∧ H b = some (.lst ws)
theorem Rs.comp {Fm : Hp} (s : Rs T false H0 F0 ra Fs σs Hs Γs) (c : Rs T false Hs Fm ra F σ H Γ) (f : Same Fs Fm) (n : ∀ b o, Fm b = some o → Fs b = some o ∨ Hs b = Option.none) : Rs T false H0 F0 ra F σ H Γ where
  rp := c.rp
  ff := fun b o h => c.ff b o (f b o (s.ff b o h))
  en := fun b o h z y => c.en b o (s.en b o h z y) z fun z => by cases z.1
  fr := fun b h => (c.fr b h).elim (fun z => by cases z.1) fun z => .inr (s.none z)
  gro := fun b o h => let ⟨o1, h1⟩ := s.gro b o h; c.gro b o1 h1
  nf := fun b o h => by
    rcases c.nf b o h with z | z | z
    · rcases n b o z with y | y
      · exact s.nf b o y
      · exact .inr (.inl (s.none y))
    · exact .inr (.inl (s.none z))
    · cases z.1
  par := fun z => by cases z
structure Sn (T : Tb) (H0 F0 : Hp) (ra : Addr) (ks : List Nat) (o : Option Nat) (Fs : Hp) (σs : St) (Hs : Hp) (Γs : Gm) (F : Hp) (σ : St) (H : Hp) (Γ : Gm) : Prop where
  base : Rs T false H0 F0 ra Fs σs Hs Γs
  no : NoOw Γs
  cur : Rs T false Hs Fs ra F σ H Γ
  kp : ∀ i ∈ ks, σ[i]? = σs[i]?
  xs : ∀ x, o = some x → ∃ A acc, σ[x]? = some (some (.ref A)) ∧ Hs A = none ∧ PrsA Hs A F acc
def KeepE (s : TS) (P : Nat → Prop) : Prop := ∀ (D : Ends) (σ : St) (H : Hp), s { D with nx := fun σ' H' => (∀ i, P i → σ'[i]? = σ[i]?) → D.nx σ' H' } σ H = s D σ H
theorem keep_asg {t : TE} {y : Nat} {P : Nat → Prop} (h : ¬ P y) : KeepE (tAsg t (gName y)) P := fun D σ H => by
  show t σ H _ = t σ H _
  refine congrArg (t σ H) ?_
  funext v H'
  refine propext ⟨fun z => z fun i hi => List.getElem?_set_ne fun e => h (by rw [e]; exact hi), fun z _ => z⟩
theorem keep_ret {c : TT} {t : TE} {P : Nat → Prop} : KeepE (tIfS c (tRet t) tNext) P := fun D σ H => by
  show c σ H _ = c σ H _
  refine congrArg (c σ H) ?_
  funext b H'
  cases b with
  | true => rfl
  | false =>
    rw [if_neg Bool.false_ne_true, if_neg Bool.false_ne_true]
    exact propext ⟨fun z => z fun i hi => rfl, fun z _ => z⟩
abbrev WSn := Gm → WEnds → Gm → Prop
def Snd (T : Tb) (E : XK) (ks : List Nat) (o : Option Nat) (t : TS) (w : WSn) : Prop := ∀ (H0 F0 : Hp) (ra : Addr) (Fs : Hp) (σs : St) (Hs : Hp) (Γs : Gm) (F : Hp) (σ : St) (H : Hp) (Γ : Gm) (D : Ends) (Ψ : WEnds), Sn T H0 F0 ra ks o Fs σs Hs Γs F σ H Γ → w Γs Ψ Γ → EO T false H0 F0 ra E D Ψ → t D σ H
variable {ks : List Nat} {o : Option Nat} {s1 s2 : TS} {u1 : WS} {w2 : WSn}
theorem Sn.here (S : Sn T H0 F0 ra ks o Fs σs Hs Γs F σ H Γ) : Rs T false Hs F ra F σ H Γ := ⟨S.cur.rp, fun _ _ h => h, S.cur.en, S.cur.fr, S.cur.gro, fun _ _ h => .inl h, fun z => by cases z⟩
theorem Sn.nfs (S : Sn T H0 F0 ra ks o Fs σs Hs Γs F σ H Γ) : ∀ b u, F b = some u → Fs b = some u ∨ Hs b = none := fun b u h => (S.cur.nf b u h).elim .inl fun z => z.elim .inr fun y => by cases y.1
theorem Sn.to (S : Sn T H0 F0 ra ks o Fs σs Hs Γs F σ H Γ) {σ' : St} (c : Rs T false Hs F ra F' σ' H' Γ') : Rs T false H0 F0 ra F' σ' H' Γ' := S.base.comp c S.cur.ff S.nfs
theorem Sn.next (S : Sn T H0 F0 ra ks o Fs σs Hs Γs F σ H Γ) {σ' : St} (c : Rs T false Hs F ra F' σ' H' Γ') (k : ∀ i, i ∈ ks ∨ o = some i → σ'[i]? = σ[i]?) : Sn T H0 F0 ra ks o Fs σs Hs Γs F' σ' H' Γ' where
  base := S.base
  no := S.no
  cur := ⟨c.rp, fun b u h => c.ff b u (S.cur.ff b u h), c.en, c.fr, c.gro, fun b u h => (c.nf b u h).elim (S.cur.nf b u) .inr, fun z => by cases z⟩
  kp := fun i hi => (k i (.inl hi)).trans (S.kp i hi)
  xs := fun x e => by
    obtain ⟨A, acc, h1, h2, h3, h4⟩ := S.xs x e
    refine ⟨A, acc, (k x (.inr e)).trans h1, h2, c.ff _ _ h3, fun u hu => ?_⟩
    obtain ⟨c1, b1, nm, ws, e1, k1, k2, k3, k3', k4⟩ := h4 u hu
    exact ⟨c1, b1, nm, ws, e1, c.ff _ _ k1, k2, k3, k3', c.ff _ _ k4⟩
theorem Sn.rt (S : Sn T H0 F0 ra ks o Fs σs Hs Γs F σ H Γ) {v : V} {r : R} {σ' : St} (h : RepR T F' σ' H' Γ' Hs v r) : RepR T F' σ' H' Γ' H0 v r := by
  cases r with
  | val d => exact h
  | new ds => obtain ⟨a, vs, e1, e2, e3, e4, e5⟩ := h; exact ⟨a, vs, e1, e2, e3, S.base.none e4, e5⟩
  | slot i => exact h
def wSnS (u1 : WS) (w2 : WSn) : WSn := fun Γs Ψ Γ => u1 { Ψ with nx := w2 Γs Ψ } Γ
def noOwnE : Option En → Option En
  | some (.own _) => none
  | e => e
def noOwn (Γ : Gm) : Gm := Γ.map noOwnE
theorem noOwn_nil : noOwn [] = [] := rfl
theorem noOwn_cons {e : Option En} : noOwn (e :: Γ) = noOwnE e :: noOwn Γ := rfl
theorem noOwnE_none : noOwnE none = none := rfl
theorem noOwnE_shr {d : D} : noOwnE (some (.shr d)) = some (.shr d) := rfl
theorem noOwnE_own {ds : List D} : noOwnE (some (.own ds)) = none := rfl
theorem noOwn_get {i : Nat} {e : En} (h : (noOwn Γ)[i]? = some (some e)) : ∃ d, e = .shr d ∧ Γ[i]? = some (some (.shr d)) := by
  unfold noOwn at h
  rw [List.getElem?_map] at h
  cases q : Γ[i]? with
  | none => rw [q] at h; cases h
  | some u =>
    rw [q] at h
    cases u with
    | none => cases h
    | some u => cases u <;> cases h; exact ⟨_, rfl, rfl⟩
theorem noOwn_no : NoOw (noOwn Γ) := fun i ds h => by
  obtain ⟨d, e, _⟩ := noOwn_get h
  cases e
theorem Rs.noOwn (s : Rs T false H0 F0 ra F σ H Γ) : Rs T false H0 F0 ra F σ H (noOwn Γ) :=
  ⟨⟨s.rp.toOk, by unfold Dt.noOwn; rw [List.length_map]; exact s.rp.len, fun i e h => by
    obtain ⟨d, rfl, h'⟩ := noOwn_get h
    exact s.rp.at_ i _ h', fun i j ds _ _ h => absurd h (noOwn_no i ds)⟩, s.ff, s.en, fun b h => absurd h noOwn_no.owns, s.gro, s.nf, fun z => by cases z⟩
def wSn0 (w2 : WSn) : WS := fun Ψ Γ => w2 (noOwn Γ) Ψ (noOwn Γ)
theorem sd_snap (h : Snd T E ks none s2 w2) : SD T false E s2 (wSn0 w2) := fun H0 F0 ra F σ H Γ D Ψ s hw e =>
  h H0 F0 ra F σ H _ F σ H _ D Ψ ⟨s.noOwn, noOwn_no, ⟨s.noOwn.rp, fun _ _ h => h, fun b o h _ _ => h, fun b h => absurd h noOwn_no.owns, fun b o h => ⟨o, h⟩, fun _ _ h => .inl h, fun z => by cases z⟩, fun _ _ => rfl, fun x z => by cases z⟩ hw e
inductive MidG : List Bool → Gm → Gm → Gm → Prop
  | nil : MidG [] [] [] []
  | skip {b : Bool} {m : List Bool} {e e' : Option En} {Γs Γ Γn : Gm} : MidG m Γs Γ Γn → MidG (b :: m) (e :: Γs) (e' :: Γ) (none :: Γn)
  | nol {b : Bool} {m : List Bool} {e : Option En} {d : D} {Γs Γ Γn : Gm} : Nol d → MidG m Γs Γ Γn → MidG (b :: m) (e :: Γs) (some (.shr d) :: Γ) (some (.shr d) :: Γn)
  | kept {m : List Bool} {e' : Option En} {d : D} {Γs Γ Γn : Gm} : MidG m Γs Γ Γn → MidG (true :: m) (some (.shr d) :: Γs) (e' :: Γ) (some (.shr d) :: Γn)
theorem MidG.len : ∀ {m : List Bool} {Γs Γ Γn : Gm}, MidG m Γs Γ Γn → Γn.length = Γ.length
  | _, _, _, _, .nil => rfl
  | _, _, _, _, .skip h => congrArg (· + 1) h.len
  | _, _, _, _, .nol _ h => congrArg (· + 1) h.len
  | _, _, _, _, .kept h => congrArg (· + 1) h.len
theorem MidG.get : ∀ {m : List Bool} {Γs Γ Γn : Gm}, MidG m Γs Γ Γn → ∀ (i : Nat) (e : En), Γn[i]? = some (some e) → ∃ d, e = .shr d ∧ ((Nol d ∧ Γ[i]? = some (some (.shr d))) ∨ (m[i]? = some true ∧ Γs[i]? = some (some (.shr d))))
  | _, _, _, _, .nil, i, e, h => by simp at h
  | _, _, _, _, .skip g, 0, e, h => by simp at h
  | _, _, _, _, .skip g, i + 1, e, h => by simpa using g.get i e (by simpa using h)
  | _, _, _, _, .nol n g, 0, e, h => by simp at h; exact ⟨_, h.symm, .inl ⟨n, by simp⟩⟩
  | _, _, _, _, .nol n g, i + 1, e, h => by simpa using g.get i e (by simpa using h)
  | _, _, _, _, .kept g, 0, e, h => by simp at h; exact ⟨_, h.symm, .inr ⟨by simp, by simp⟩⟩
  | _, _, _, _, .kept g, i + 1, e, h => by simpa using g.get i e (by simpa using h)
def idxs (m : List Bool) : List Nat := (List.range m.length).filter fun i => m[i]? == some true
theorem idxs_mem {m : List Bool} {i : Nat} (h : m[i]? = some true) : i ∈ idxs m := List.mem_filter.mpr ⟨List.mem_range.mpr (List.getElem?_eq_some_iff.mp h).1, by rw [h]; rfl⟩
variable {Ψ : WEnds} {m : List Bool} {p q x : Nat} {d : D} {ds : List D}
theorem sn0_ap : wSn0 w2 Ψ Γ = w2 (noOwn Γ) Ψ (noOwn Γ) := rfl
theorem snS_ap : wSnS u1 w2 Γs Ψ Γ = u1 { Ψ with nx := w2 Γs Ψ } Γ := rfl
end
structure QSn (X : Cx) (T : Tb) (E : XK) (ks : List Nat) (o : Option Nat) (st : List Stmt) (t : TS) (w : WSn) : Prop where
  pe : PSs X st t
  ed : Snd T E ks o t w
section
variable {X : Cx} {T : Tb} {E : XK} {e : Expr} {st st2 : Stmt} {sts : List Stmt} {w : WE} {s1 s2 : TS} {u0 u1 u2 : WS} {w2 : WSn} {m : List Bool} {ks : List Nat} {o : Option Nat} {r p q x : Nat} {y : Str} {py spos : Pos}
theorem q_snap (h : QSn X T E ks none sts s2 w2) : QSs X T false E sts s2 (wSn0 w2) := ⟨h.pe, sd_snap h.ed⟩
end
end Dt
set_option Elab.async false
set_option linter.all false
set_option maxRecDepth 100000
set_option maxHeartbeats 1000000
set_option autoImplicit false
namespace Kx
open PySem PySem.Spec L2 PyProof.Rows
structure RoomX (k : Nat) (A : Around) : Prop where
  dp : A.depth + 3 * k + 5 < recursionLimit
  un : A.units + 16 * k + 200 < cLine
abbrev noH (A : Around) : Around := { A with handled := Option.none }
theorem RoomX.none {k : Nat} {A : Around} (r : RoomX k A) : Room k (noH A) := ⟨rfl, r.dp, r.un⟩
section
variable {P : Program} {w : World} {K : PySem.W.Frag} {mg : Str → Option Value} {base : Heap} {N ps : List Str} {qual : Str} {scope : Scope} {f : Addr} {cd : Value} {A : Around} {outer : List Env} {s s1 : Shared} {H : Hp} {E : XK} {us : List Value} {vs : List V} {CX : CXT}
end
section
variable {X : Cx} {CX : CXT} {k j : Nat} {f : Addr} {fd : FuncData} {ps : List Str} {sp : Sp} {E : XK} {x : Str} {p pos : Pos} {e : Expr} {es : List Expr} {t : TA}
end
end Kx
namespace Dt
open PySem PySem.Spec L2 Kx PyProof.Rows
section
variable {X : Cx} {T : Tb} {CX : CXT} {j k : Nat} {E : XK} {x : Str} {p pos : Pos} {ps : List Str} {io' : Bool} {wf : WF} {e : Expr} {es : List Expr} {tA : TA} {wA : WA}
end
section
variable {P : Program} {wd : World} {K : PySem.W.Frag} {mg : Str → Option Value} {base : Heap} {x qual : Str} {st : Stmt} {f : Addr} {fd : FuncData} {N ps : List Str} {k : Nat} {ts : List Addr} {ls : List (Addr × Pos × Str)} {io : Bool} {wf : WF} {w : WS}
end
end Dt
set_option Elab.async false
set_option linter.all false
set_option maxRecDepth 100000
set_option maxHeartbeats 1000000
set_option autoImplicit false
namespace Kx
open PySem PySem.Spec L2 PyProof.Rows PySem.W
section
variable {P : Program} {w : World} {K : PySem.W.Frag} {mg : Str → Option Value} {base : Heap} {N : List Str} {qual : Str} {scope : Scope} {f cc : Addr} {cdv : Value} {A : Around} {outer : List Env} {s : Shared} {H : Hp} {E : XK}
end
end Kx
namespace Dt
open PySem PySem.Spec L2 Kx PyProof.Rows
section
variable {T : Tb} {E : XK} {H1 F0 F H F' H' : Hp} {x C dx : Addr} {fs : List Str} {ds : List D} {σ : L2.St} {Γ Γ' : Gm} {ns : List Str} {t : TE} {w : WE} {t1 : TT} {w1 : WT} {f : Str} {s1 s2 : TS}
abbrev WIx := WIk → (XD → Prop) → WIk
variable {u1 u2 : WIx}
end
section
variable {X : Cx} {T : Tb} {E : XK} {ns : List Str} {c e o : Expr} {t1 : TT} {w1 : WT} {t : TE} {w : WE} {pos pos' : Pos} {f : Str} {st : Stmt} {bs ss : List Stmt} {s1 s2 : TS} {u : WS} {v1 : WIn} {u1 u2 : WIx}
end
section
variable {P : Program} {wd : World} {K : PySem.W.Frag} {mg : Str → Option Value} {base : Heap} {x qual : Str} {st : Stmt} {f : Addr} {fd : FuncData} {N ps ns : List Str} {k : Nat} {ts : List Addr} {ls : List (Addr × Pos × Str)} {wm : WM} {w : WIx}
variable {cc cda C f2 : Addr} {m : Str}
end
section
variable {Γ : Gm} {Ξ : XD → Prop} {ds : List D} {fs : List Str} {Ψi : WIk} {u1 u2 : WIx} {v1 : WIn} {w1 : WT} {w : WE} {u : WS}
end
end Dt
namespace L2
open PySem PySem.Spec PyProof.Rows
end L2
namespace Dt
open PySem PySem.Spec L2 Kx PyProof.Rows
end Dt
namespace Dt
open PySem PySem.Spec L2 Kx PyProof.Rows PySem.W Xk
end Dt
namespace Dt
open PySem PySem.Spec L2 Kx PyProof.Rows PySem.W Xk
section
variable {X : Cx} {T : Tb} {E : XK} {e : Expr} {t : TE} {w : WE} {pos p1 p2 : Pos} {c d f : Str} {b : Bool}
end
end Dt
set_option Elab.async false
set_option linter.all false
set_option maxRecDepth 100000
set_option maxHeartbeats 1000000
set_option autoImplicit false
namespace Kx
open PySem PySem.Spec L2 PyProof.Rows PySem.W
section
variable {X : Cx}
end
end Kx
namespace Dt
open PySem PySem.Spec L2 Kx PyProof.Rows PySem.W
section
variable {X : Cx} {T : Tb} {E : XK} {F F' H H' : Hp} {σ : L2.St} {Γ : Gm}
end
end Dt
set_option Elab.async false
set_option linter.all false
set_option maxRecDepth 100000
set_option maxHeartbeats 1000000
set_option autoImplicit false
namespace Dt
open PySem PySem.Spec L2 Kx PyProof.Rows
def thingD (k : Str) (w n : Int) (ps : List (Int × Int)) (lss : List (List Int)) (xs : List (Option Str)) (ss : List Str) : D := .tup [.str k, .int w, .int n, .lst (ps.map frD), .lst (lss.map fun l => .lst (l.map .int)), .lst (xs.map oD), .lst (ss.map .str)]
namespace Pn
end Pn
end Dt
set_option Elab.async false
set_option linter.all false
set_option maxRecDepth 100000
set_option maxHeartbeats 1000000
set_option autoImplicit false
namespace Dt
open PySem PySem.Spec L2 Kx PyProof.Rows PySem.NumText
end Dt
namespace Dt
open PySem PySem.Spec L2 Kx PyProof.Rows PySem.NumText
end Dt
set_option Elab.async false
set_option linter.all false
set_option maxRecDepth 100000
set_option maxHeartbeats 2000000
set_option autoImplicit false
def pkI (lo hi : Option Int) (j : Int) (n : Nat) : List Nat := PySem.sliceRange (PySem.sliceBounds lo hi (some j) n).1 (PySem.sliceBounds lo hi (some j) n).2.1 (PySem.sliceBounds lo hi (some j) n).2.2
def pickA {α : Type} (xs : List α) (lo hi : Option Int) (j : Int) : List α := (pkI lo hi j xs.length).filterMap (xs[·]?)
namespace L2
open PySem PySem.Spec PyProof.Rows
section
variable {X : Cx} {e k : Expr} {te tk : TE} {lo hi : Option Expr} {tl th : TO} {p2 pos : Pos}
end
end L2
namespace Dt
open PySem L2 Kx
section
variable {T : Tb} {E : XK} {X : Cx} {e k : Expr} {t tk : TE} {w wk : WE} {p2 pos : Pos} {lo hi : Option Expr} {tl th : TO} {wl wh : WO}
def dSlK : D → Option Int → Option Int → D → (R → Prop) → Prop := fun d lo hi k Ψ => ∃ ds j, d = .lst ds ∧ k = .int j ∧ j ≠ 0 ∧ Ψ (.new (pickA ds lo hi j))
def wSlK (w : WE) (wl wh : WO) (wk : WE) : WE := fun Γ Ψ Ξ => w Γ (fun r1 Γ1 => wl Γ1 (fun lo Γ2 => wh Γ2 (fun hi Γ3 => wk Γ3 (fun r2 Γ4 => ∃ d k, r1.at Γ4 = some d ∧ r2.at Γ4 = some k ∧ dSlK d lo hi k fun r => Ψ r Γ4) Ξ) Ξ) Ξ) Ξ
theorem slK_ap {Γ : Gm} {Φ : R → Gm → Prop} {Ξ : XD → Prop} : wSlK w wl wh wk Γ Φ Ξ = w Γ (fun r1 Γ1 => wl Γ1 (fun lo Γ2 => wh Γ2 (fun hi Γ3 => wk Γ3 (fun r2 Γ4 => getR Γ4 r1 fun d => getR Γ4 r2 fun k => dSlK d lo hi k fun r => Φ r Γ4) Ξ) Ξ) Ξ) Ξ := by
  unfold wSlK getR
  simp only [exists_and_left]
theorem dSlK_ap {ds : List D} {lo hi : Option Int} {j : Int} {Ψ : R → Prop} : dSlK (.lst ds) lo hi (.int j) Ψ = sideR (j ≠ 0) (Ψ (.new (pickA ds lo hi j))) := propext ⟨fun ⟨_, _, e1, e2, h⟩ => by cases e1; cases e2; exact h, fun h => ⟨_, _, rfl, rfl, h⟩⟩
end
end Dt
namespace Dt
open PySem L2 Kx
section
variable {T : Tb} {E : XK} {t : TE} {w : WE} {X : Cx} {e : Expr}
def wBL (w : WE) : WT := fun Γ Ψ Ξ => w Γ (fun r Γ1 => ∃ ds : List D, r.at Γ1 = some (.lst ds) ∧ Ψ (!ds.isEmpty) Γ1) Ξ
def lstQ (d : D) (k : List D → Prop) : Prop := ∃ ds, d = .lst ds ∧ k ds
theorem lstQ_lst {ds : List D} {k : List D → Prop} : lstQ (.lst ds) k = k ds := propext ⟨fun ⟨_, e, h⟩ => by cases e; exact h, fun h => ⟨_, rfl, h⟩⟩
theorem BL_ap {Γ : Gm} {Φb : Bool → Gm → Prop} {Ξ : XD → Prop} : wBL w Γ Φb Ξ = w Γ (fun r Γ1 => getR Γ1 r fun d => lstQ d fun ds => Φb (!ds.isEmpty) Γ1) Ξ := by
  unfold wBL getR lstQ
  refine congrArg (fun F => w Γ F Ξ) (funext fun r => funext fun Γ1 => propext ⟨fun ⟨ds, a, h⟩ => ⟨_, a, ds, rfl, h⟩, fun ⟨_, a, ds, e, h⟩ => ⟨ds, e ▸ a, h⟩⟩)
end
end Dt
set_option Elab.async false
set_option linter.all false
set_option maxRecDepth 100000
set_option maxHeartbeats 1000000
set_option autoImplicit false
namespace Dt
open PySem PySem.Spec L2 Kx PyProof.Rows
section
variable {k : Str} {w n : Int} {j : Nat} {f : Int} {m : Nat} {lss : List (List Int)} {xs : List (Option Str)} {ss : List Str}
end
structure ThT (k : Str) (xs : List (Option Str)) (ss : List Str) : Prop where
  kt : TxOk 100 k
  xt : ∀ x, some x ∈ xs → TxOk 100 x
  st : ∀ s ∈ ss, TxOk 100 s
theorem thing_dep {k : Str} {w n : Int} {ps : List (Int × Int)} {lss : List (List Int)} {xs : List (Option Str)} {ss : List Str} (h : ThT k xs ss) : Dep 3 (thingD k w n ps lss xs ss) := by
  refine .tup fun d hd => ?_
  simp only [List.mem_cons, List.not_mem_nil, or_false] at hd
  rcases hd with rfl | rfl | rfl | rfl | rfl | rfl | rfl
  · exact .str h.kt.2
  · exact .int _
  · exact .int _
  · refine .lst fun d hd => ?_
    obtain ⟨p, _, rfl⟩ := List.mem_map.mp hd
    exact .tup fun d hd => by
      simp only [List.mem_cons, List.not_mem_nil, or_false] at hd
      rcases hd with rfl | rfl <;> exact .int _
  · refine .lst fun d hd => ?_
    obtain ⟨p, _, rfl⟩ := List.mem_map.mp hd
    exact .lst fun d hd => by
      obtain ⟨i, _, rfl⟩ := List.mem_map.mp hd
      exact .int _
  · refine .lst fun d hd => ?_
    obtain ⟨p, hp, rfl⟩ := List.mem_map.mp hd
    cases p with
    | none => exact .non
    | some x => exact .str (h.xt x hp).2
  · refine .lst fun d hd => ?_
    obtain ⟨p, hp, rfl⟩ := List.mem_map.mp hd
    exact .str (h.st p hp).2
theorem GPl.tht {k : Str} {w n : Int} {j : Nat} {f : Int} {m : Nat} {lss : List (List Int)} {xs : List (Option Str)} {ss : List Str} (g : GPl k w n j f m lss xs ss) : ThT k xs ss := by
  refine ⟨?_, fun x hx => (nm_tx (g.xo x hx)).mono (by decide), fun s hs => (nm_tx (g.so s hs)).mono (by decide)⟩
  rcases g.kd with rfl | rfl | rfl | rfl <;> exact ⟨by decide, cl_ok (cl_lit (by decide +kernel))⟩
theorem R_of {s T : Int} (h : s = 1 ∨ s = 2 ∨ s = 5) (hT : ∃ e : Nat, e ≤ 25 ∧ T = 10 ^ e) : ∃ j, j ≤ 80 ∧ s * T = Kx.R j := by
  obtain ⟨e, he, rfl⟩ := hT
  rcases h with rfl | rfl | rfl
  · exact ⟨3 * e, by omega, (Kx.R0 e).symm⟩
  · exact ⟨3 * e + 1, by omega, (Kx.R1 e).symm⟩
  · exact ⟨3 * e + 2, by omega, (Kx.R2 e).symm⟩
theorem R_sh {s : Int} (h : s ∈ ([100, 50, 20, 10, 5] : List Int)) : ∃ j, j ≤ 80 ∧ s * 10 ^ 12 = Kx.R j := by
  simp only [List.mem_cons, List.not_mem_nil, or_false] at h
  rcases h with rfl | rfl | rfl | rfl | rfl
  · exact ⟨42, by decide, by decide +kernel⟩
  · exact ⟨41, by decide, by decide +kernel⟩
  · exact ⟨40, by decide, by decide +kernel⟩
  · exact ⟨39, by decide, by decide +kernel⟩
  · exact ⟨38, by decide, by decide +kernel⟩
def freeE : List (Option Str × Int) → Int → Int
  | [], f => f
  | (none, _) :: r, f => freeE r f
  | (some x, i) :: r, _ => freeE r (i + x.length + 1)
theorem touch_app : ∀ (l r : List (Option Str × Int)) (f : Int), touch (l ++ r) f = (touch l f || touch r (freeE l f))
  | [], r, f => rfl
  | (none, i) :: l, r, f => touch_app l r f
  | (some x, i) :: l, r, f => by
    show (decide (i < f) || touch (l ++ r) (i + x.length + 1)) = ((decide (i < f) || touch l (i + x.length + 1)) || touch r (freeE l (i + x.length + 1)))
    rw [touch_app l r, Bool.or_assoc]
theorem freeE_app : ∀ (l r : List (Option Str × Int)) (f : Int), freeE (l ++ r) f = freeE r (freeE l f)
  | [], r, f => rfl
  | (none, i) :: l, r, f => freeE_app l r f
  | (some x, i) :: l, r, f => freeE_app l r _
theorem zip_snoc {α β : Type} : ∀ {xs : List α} {is : List β} {o : α} {t : β}, is[xs.length]? = some t → (xs ++ [o]).zip is = xs.zip is ++ [(o, t)]
  | [], [], _, _, h => by simp at h
  | [], i :: is, _, _, h => by simp at h; subst h; simp
  | x :: xs, [], _, _, h => by simp at h
  | x :: xs, i :: is, o, t, h => by
    have := zip_snoc (xs := xs) (is := is) (o := o) (t := t) (by simpa using h)
    simp [this]
theorem given_snoc {xs : List (Option Str)} {o : Option Str} : given (xs ++ [o]) = given xs ++ given [o] := by
  unfold given
  rw [List.filterMap_append]
theorem pl_put {ns : List Str} {is : List Int} {i : Nat} {xs : List (Option Str)} {fr t : Int} {x : Str} (hl : xs.length = i) (hx : ns[i]? = some x) (ht : is[i]? = some t) (h : fr ≤ t) (p : (given xs).Sublist (ns.take i) ∧ touch (xs.zip is) 0 = false ∧ freeE (xs.zip is) 0 = fr) :
    (given (xs ++ [some x])).Sublist (ns.take (i + 1)) ∧ touch ((xs ++ [some x]).zip is) 0 = false ∧ freeE ((xs ++ [some x]).zip is) 0 = t + (x.length : Nat) + 1 := by
  obtain ⟨p1, p2, p3⟩ := p
  rw [zip_snoc (by rw [hl]; exact ht), touch_app, freeE_app, p2, p3, given_snoc, List.take_add_one, hx]
  refine ⟨p1.append (List.Sublist.refl _), ?_, rfl⟩
  show (false || (decide (t < fr) || false)) = false
  rw [decide_eq_false (by omega)]
  rfl
theorem pl_skip {ns : List Str} {is : List Int} {i : Nat} {xs : List (Option Str)} {fr t : Int} {x : Str} (hl : xs.length = i) (hx : ns[i]? = some x) (ht : is[i]? = some t) (p : (given xs).Sublist (ns.take i) ∧ touch (xs.zip is) 0 = false ∧ freeE (xs.zip is) 0 = fr) :
    (given (xs ++ [none])).Sublist (ns.take (i + 1)) ∧ touch ((xs ++ [none]).zip is) 0 = false ∧ freeE ((xs ++ [none]).zip is) 0 = fr := by
  obtain ⟨p1, p2, p3⟩ := p
  rw [zip_snoc (by rw [hl]; exact ht), touch_app, freeE_app, p2, p3, given_snoc, List.take_add_one, hx]
  refine ⟨?_, rfl, rfl⟩
  show (given xs ++ []).Sublist _
  rw [List.append_nil]
  exact p1.trans (List.sublist_append_left ..)
section
variable {P : D → Prop} {n m : Nat} {ds es : List D} {lo hi : Option Int}
end
end Dt
set_option Elab.async false
set_option linter.all false
set_option maxRecDepth 100000
set_option maxHeartbeats 1000000
set_option autoImplicit false
namespace Dt
open PySem PySem.Spec L2 Kx PyProof.Rows PySem.NumText
section
variable {k : Str} {w n : Int} {j : Nat} {f : Int} {m : Nat} {lss : List (List Int)} {xs : List (Option Str)} {ss : List Str}
end
end Dt
set_option Elab.async false
set_option linter.all false
set_option maxRecDepth 100000
set_option maxHeartbeats 1000000
set_option autoImplicit false
namespace Dt
open PySem PySem.Spec L2 Kx PyProof.Rows PySem.NumText
section
variable {k : Str} {w n : Int} {j : Nat} {f : Int} {m : Nat} {lss : List (List Int)} {xs : List (Option Str)} {ss : List Str}
end
end Dt
set_option Elab.async false
set_option linter.all false
set_option maxRecDepth 100000
set_option maxHeartbeats 1000000
set_option autoImplicit false
namespace Dt
open PySem PySem.Spec L2 Kx PyProof.Rows PySem.NumText
section
variable {k : Str} {w n : Int} {j : Nat} {f : Int} {m : Nat} {lss : List (List Int)} {xs : List (Option Str)} {ss : List Str}
structure ColOk (k : Str) (w n : Int) (lss : List (List Int)) (s : Int) (g : Option Int) (sep : Nat → Nat) (cols : List (List (Nat → Nat))) : Prop where
  pic : picsL k w n lss g = rowsC w n sep cols
  ln : cols.length = lss.length
  wd : ∀ b ∈ cols, b.length = (lanes k s).toNat
  fl : ∃ lv : Nat, lv < (n + 1).toNat ∧ ∀ F, (jnG w.toNat sep cols).getLast? = some F → F lv ≠ 32
end
end Dt
set_option Elab.async false
set_option linter.all false
set_option maxRecDepth 100000
set_option maxHeartbeats 1000000
set_option autoImplicit false
namespace Dt
open PySem PySem.Spec L2 Kx PyProof.Rows PySem.NumText
end Dt
namespace Dt
open PySem PySem.Spec L2 Kx PyProof.Rows PySem.NumText
section
variable {k : Str} {w n : Int} {j : Nat} {f : Int} {m : Nat} {lss : List (List Int)} {xs : List (Option Str)} {ss : List Str}
end
end Dt
namespace Dt
open PySem PySem.Spec L2 Kx PyProof.Rows PySem.NumText
section
variable {k : Str} {w n : Int} {j : Nat} {f : Int} {m : Nat} {lss : List (List Int)} {xs : List (Option Str)} {ss : List Str} {sep : Nat → Nat} {cols : List (List (Nat → Nat))}
theorem ColOk.row {g : Option Int} {s : Int} (h : ColOk k w n lss s g sep cols) {lv : Nat} (hl : lv < (n + 1).toNat) : picRow k w lss g (lv : Int) = mkS ((jnG w.toNat sep cols).map fun F => F lv) := by
  have e := congrArg (fun l : List Str => l[lv]?) h.pic
  unfold picsL rowsC at e
  simp only [List.getElem?_map, List.getElem?_range hl, Option.map_some] at e
  exact Option.some.inj e
end
end Dt
namespace Dt
open PySem PySem.Spec L2 Kx PyProof.Rows PySem.NumText
section
variable {k : Str} {w n : Int} {j : Nat} {f : Int} {m : Nat} {lss : List (List Int)} {xs : List (Option Str)} {ss : List Str}
end
end Dt
namespace Dt
open PySem PySem.Spec L2 Kx PyProof.Rows PySem.NumText
section
variable {k : Str} {w n : Int} {j : Nat} {f : Int} {m : Nat} {lss : List (List Int)} {xs : List (Option Str)} {ss : List Str}
end
end Dt
namespace Dt
open PySem PySem.Spec L2 Kx PyProof.Rows PySem.NumText
end Dt
set_option Elab.async false
set_option linter.all false
set_option maxRecDepth 100000
set_option maxHeartbeats 1000000
set_option autoImplicit false
namespace Kx
open PySem PySem.Spec L2 PyProof.Rows PySem.W
section
variable {X : Cx} {o e : Expr} {to te : TE} {apos pos : Pos}
end
end Kx
namespace Dt
open PySem PySem.Spec L2 Kx PyProof.Rows
section
variable {X : Cx} {T : Tb} {E : XK} {o e : Expr} {to te : TE} {wo we : WE} {apos pos : Pos}
end
end Dt
namespace Dt
open PySem PySem.Spec L2 Kx PyProof.Rows
end Dt
namespace Dt
open PySem PySem.Spec L2 Kx PyProof.Rows
end Dt
namespace Dt
open PySem PySem.Spec L2 Kx PyProof.Rows
end Dt
set_option Elab.async false
set_option linter.all false
set_option maxRecDepth 100000
set_option maxHeartbeats 1000000
set_option autoImplicit false
namespace Dt
open PySem L2 Kx
theorem low_odd (c : Int) : lowT (2 * c - 1) 2 = 2 * c - 1 ∧ lowB (2 * c - 1) 2 = 2 := by
  obtain ⟨g, g0, e1, e2⟩ := low_mul (t := 2 * c - 1) (b := 2) (by decide)
  have p := low_pos (t := 2 * c - 1) (b := 2) (by decide)
  have : lowB (2 * c - 1) 2 = 1 ∨ lowB (2 * c - 1) 2 = 2 := by omega
  rcases this with h | h
  · rw [h] at e2
    have : g = 2 := by omega
    subst this
    omega
  · rw [h] at e2
    have : g = 1 := by omega
    subst this
    exact ⟨by omega, h⟩
theorem low_odd' (c : Int) : lowT (2 * c + 1) 2 = 2 * c + 1 ∧ lowB (2 * c + 1) 2 = 2 := by
  have h := low_odd (c + 1)
  rw [show 2 * (c + 1) - 1 = 2 * c + 1 by omega] at h
  exact h
def lowP (t b : Int) : Int × Int := (lowT t b, lowB t b)
def at2 (a z : Int × Int) (n x : Int) : Int × Int := lowP (atT a.1 a.2 z.1 z.2 n x 2) (atB a.2 z.2 n 2)
def strD (a z : Int × Int) (n c : Int) : D := .tup [frD (at2 a z n (2 * c - 1)), frD (at2 a z n (2 * c + 1))]
def wf_Scale_stretchC : WF := fun ds row Ψ Ξ => ∃ t b t2 b2 n c : Int, ds = [scD (t, b) (t2, b2) n, .int c] ∧ ScB t b t2 b2 n ∧ 0 ≤ c ∧ c ≤ 40 ∧ Ψ (.val (strD (t, b) (t2, b2) n c)) []
def prv (l : List Int) (i : Nat) : Int := if i = 0 then 0 else l.getD (i - 1) 0
def shrP (n d : Int) : D := .tup [frD (lowP (100 * (d - 1)) n), frD (lowP (100 * (d + 1)) n)]
def shrB (n : Int) (l : List Int) : List D := (List.range l.length).map fun i => shrP n (l.getD i 0 - prv l i)
def wf_share_stretchesC : WF := fun ds row Ψ Ξ => ∃ (n : Int) (l : List Int), ds = [.int n, .lst (l.map .int)] ∧ 2 ≤ n ∧ n ≤ 40 ∧ l.length ≤ 4 ∧ (∀ x ∈ l, 0 ≤ x ∧ x ≤ n) ∧ Ψ (.new (shrB n l)) []
def bndD (k : Str) (a z : Int × Int) (n : Int) (l : List Int) : List D := if k = "shares" then shrB n l else l.map (strD a z n)
def wf_stretches_ofC : WF := fun ds row Ψ Ξ => ∃ (k : Str) (w n : Int) (j : Nat) (f : Int) (m : Nat) (lss : List (List Int)) (xs : List (Option Str)) (ss : List Str), ds = [planD k w n (plMs (Kx.R j) f m) lss xs ss] ∧ GPl k w n j f m lss xs ss ∧ Ψ (.new (lss.map fun l => .lst (bndD k (mkP (Kx.R j * f)) (mkP (Kx.R j * (f + (m - 1)))) n l))) []
theorem GMk.sc {k : Str} {n : Int} {j : Nat} {f : Int} {m : Nat} (g : GMk k n j f m) : ScB (mkP (Kx.R j * f)).1 (mkP (Kx.R j * f)).2 (mkP (Kx.R j * (f + (m - 1)))).1 (mkP (Kx.R j * (f + (m - 1)))).2 n := by
  have p := Kx.R_pos j
  have m0 := g.m0
  have b0 := g.bd 0 (by omega)
  have b1 := g.bd (m - 1) (by omega)
  rw [show f + ((0 : Nat) : Int) = f by omega] at b0
  rw [show f + ((m - 1 : Nat) : Int) = f + ((m : Int) - 1) by omega] at b1
  have q : (10 : Nat) ^ 27 ≤ 2 ^ 95 := by decide
  exact sc_ok (by omega) (by omega) (Int.mul_lt_mul_of_pos_left (by omega) p) g.n0 g.n1
end Dt
set_option Elab.async false
set_option linter.all false
set_option maxRecDepth 100000
set_option maxHeartbeats 1000000
set_option autoImplicit false
namespace Dt
open PySem L2 Kx
def wf_glMarks : WF := fun ds row Ψ Ξ => ∃ (k : Str) (n N : Int), ds = [.str k, .int n] ∧ IsKd k ∧ 2 ≤ n ∧ n ≤ 40 ∧ RowD N row ∧ 0 ≤ N ∧ N < 2 ^ 40 ∧ ∀ (j : Nat) (f : Int) (m : Nat) row', GMk k n j f m → RowD (N + 20) row' → Ψ (.new ((plMs (Kx.R j) f m).map frD)) row'
def wf_glPlan : WF := fun ds row Ψ Ξ => ∃ (gr N : Int), ds = [.int gr] ∧ 0 ≤ gr ∧ gr ≤ 1 ∧ RowD N row ∧ 0 ≤ N ∧ N < 2 ^ 39 ∧ ∀ (k : Str) (w n : Int) (j : Nat) (f : Int) (m : Nat) (lss : List (List Int)) (xs : List (Option Str)) (ss : List Str) row', GPl k w n j f m lss xs ss → RowD (N + 5000) row' → Ψ (.val (planD k w n (plMs (Kx.R j) f m) lss xs ss)) row'
def wf_glCopy : WF := fun ds row Ψ Ξ => ∃ (k : Str) (w n : Int) (ps : List (Int × Int)) (lss : List (List Int)) (xs : List (Option Str)) (ss : List Str), ds = [planD k w n ps lss xs ss] ∧ lss.length ≤ 100 ∧ Ψ (.val (planD k w n ps lss xs ss)) []
theorem low_step {S t b g f : Int} (hb : 0 < b) (hg : 0 < g) (h1 : S = t * g) (h2 : (10 : Int) ^ 12 = b * g) : (lowT (t * f) b, lowB (t * f) b) = mkP (S * f) := by
  have h := low_scale (t := t * f) (b := b) (m := g) hb hg
  unfold mkP
  rw [h1, h2, show t * g * f = t * f * g from Int.mul_right_comm .., h.1, h.2]
end Dt
set_option Elab.async false
set_option linter.all false
set_option maxRecDepth 100000
set_option autoImplicit false
namespace Dt
open PySem L2 Kx
section
variable {T : Tb} {F F1 F2 F' H H1 H2 H' H0 F0 Fs Hs : Hp} {σ σs : St} {Γ Γ1 Γ2 Γ' Γn Γs : Gm} {E : XK} {t tk tj tv : TE} {w : WE} {ra : Addr} {K : PySem.W.Frag}
variable {ks : List Nat} {s1 s2 : TS} {u1 : WS} {w2 : WSn} {x y p : Nat}
def Gw (H H' : Hp) : Prop := (∀ b, H' b = H b ∨ H b = none) ∧ (∀ P, Tab H P → Tab H' P) ∧ ∀ a b c, TabL H a b c → TabL H' a b c
theorem Gw.at {a : Addr} {o : HO} (g : Gw H H') (h : H a = some o) : H' a = some o := by
  rcases g.1 a with y | y
  · rw [y]; exact h
  · rw [h] at y; cases y
variable {Ψ : WEnds} {m : List Bool}
end
section
variable {X : Cx} {T : Tb} {E : XK} {e : Expr} {st st2 : Stmt} {sts : List Stmt} {t tk tj tv : TE} {w : WE} {s1 s2 : TS} {u0 u1 u2 : WS} {w2 : WSn} {m : List Bool} {ks : List Nat} {x y p : Nat} {v : V}
end
end Dt
set_option Elab.async false
set_option linter.all false
set_option maxRecDepth 100000
set_option autoImplicit false
namespace Dt
open PySem L2 Kx
theorem RepA.of {K : PySem.W.Frag} {F : Hp} : ∀ {vs : List V} {ds : List D}, vs.length = ds.length → (∀ (i : Nat) (v : V) (d : D), vs[i]? = some v → ds[i]? = some d → Rep K F v d) → RepA K F vs ds
  | [], [], _, _ => .nil
  | [], _ :: _, h, _ => by simp at h
  | _ :: _, [], h, _ => by simp at h
  | v :: vs, d :: ds, h, g => .cons (g 0 v d rfl rfl) (RepA.of (by simpa using h) fun i v d h1 h2 => g (i + 1) v d (by simpa using h1) (by simpa using h2))
section
variable {T : Tb} {F F1 F2 F' H H1 H2 H' H0 F0 Fs Hs : Hp} {σ σs : St} {Γ Γ1 Γ2 Γ' Γn Γs : Gm} {E : XK} {w : WE} {ra : Addr} {K : PySem.W.Frag}
variable {Ψ : WEnds}
end
section
variable {X : Cx} {T : Tb} {E : XK} {e eb e1 ea ev : Expr} {st : Stmt} {sts : List Stmt} {t1 : TE} {s2 : TS} {u0 u : WS} {t p q x b a v : Nat} {p1 p2 p3 pos : Pos} {ex : Expr}
end
end Dt
set_option Elab.async false
set_option linter.all false
set_option maxRecDepth 100000
set_option maxHeartbeats 1000000
set_option autoImplicit false
namespace Dt
open PySem PySem.Spec L2 Kx PyProof.Rows
end Dt
set_option Elab.async false
set_option linter.all false
set_option maxRecDepth 100000
set_option maxHeartbeats 1000000
set_option autoImplicit false
namespace Dt
open PySem PySem.Spec L2 Kx PyProof.Rows
section
variable {α : Type}
end
end Dt
set_option Elab.async false
set_option linter.all false
set_option maxRecDepth 100000
set_option maxHeartbeats 1000000
set_option autoImplicit false
namespace L2
open PySem PySem.Spec PyProof.Rows
section
variable {X : Cx}
end
end L2
namespace Dt
open PySem PySem.Spec L2 Kx PyProof.Rows
section
variable {T : Tb} {E : XK} {tA : TA} {wA : WA}
variable {X : Cx} {a b : Expr} {pos pos' p p' : Pos}
end
end Dt
set_option Elab.async false
set_option linter.all false
set_option maxRecDepth 100000
set_option maxHeartbeats 1000000
set_option autoImplicit false
namespace Dt
open PySem PySem.Spec L2 Kx PyProof.Rows
section
variable {k : Str} {w n : Int} {j : Nat} {f : Int} {m : Nat} {lss : List (List Int)} {l' : List Int} {xs : List (Option Str)} {ss : List Str} {b a : Nat}
end
end Dt
set_option Elab.async false
set_option linter.all false
set_option maxRecDepth 100000
set_option maxHeartbeats 1000000
set_option autoImplicit false
namespace L2
open PySem PySem.Spec PyProof.Rows
section
variable {X : Cx}
end
end L2
namespace Dt
open PySem PySem.Spec L2 Kx PyProof.Rows
section
variable {T : Tb} {E : XK} {ta tb : TE} {wa wb : WE} {Γ : Gm} {Φ : R → Gm → Prop} {Ξ : XD → Prop}
variable {X : Cx} {a b : Expr} {es : List Expr} {pos : Pos}
end
end Dt
set_option Elab.async false
set_option linter.all false
set_option maxRecDepth 100000
set_option maxHeartbeats 1000000
set_option autoImplicit false
namespace Dt
open PySem PySem.Spec L2 Kx PyProof.Rows
end Dt
set_option Elab.async false
set_option linter.all false
set_option maxRecDepth 100000
set_option maxHeartbeats 1000000
set_option autoImplicit false
namespace Dt
open PySem PySem.Spec L2 Kx PyProof.Rows
section
variable {k : Str} {w n : Int} {j : Nat} {f : Int} {m : Nat} {lss : List (List Int)} {xs : List (Option Str)} {ss : List Str}
end
end Dt
set_option Elab.async false
set_option linter.all false
set_option maxRecDepth 100000
set_option autoImplicit false
namespace Dt
open PySem L2 Kx
section
variable {T : Tb} {F F1 F2 F' H H1 H2 H' H0 F0 Fs Hs : Hp} {σ σs : St} {Γ Γ1 Γ2 Γ' Γn Γs : Gm} {E : XK} {t te : TE} {w we : WE} {wi : TI} {wI : WI} {g : TG} {wg : WG} {ra : Addr} {K : PySem.W.Frag}
def PwN (H F : Hp) (vs : List V) : Prop := (∀ (i : Nat) (u : V), vs[i]? = some u → ∃ b ws, u = .ref b ∧ H b = none ∧ F b = some (.lst ws)) ∧ ∀ (i j : Nat) (u : V), vs[i]? = some u → vs[j]? = some u → i = j
theorem PwN.nil : PwN H F [] := ⟨fun i u h => by simp at h, fun i j u h => by simp at h⟩
theorem PwN.mono {vs : List V} (h : PwN H F vs) (g : Same F F') : PwN H F' vs := ⟨fun i u hu => by
  obtain ⟨b, ws, e1, e2, e3⟩ := h.1 i u hu
  exact ⟨b, ws, e1, e2, g _ _ e3⟩, h.2⟩
theorem PwN.snoc {vs : List V} {a : Addr} {ws : List V} (h : PwN H F vs) (n : H a = none) (f : F a = some (.lst ws)) (fr : ∀ (i : Nat) (b : Addr), vs[i]? = some (.ref b) → b ≠ a) : PwN H F (vs ++ [.ref a]) := by
  have key : ∀ {i : Nat} {u : V}, (vs ++ [V.ref a])[i]? = some u → (i < vs.length ∧ vs[i]? = some u) ∨ (i = vs.length ∧ u = .ref a) := fun {i u} hu => by
    by_cases hi : i < vs.length
    · rw [List.getElem?_append_left hi] at hu
      exact .inl ⟨hi, hu⟩
    · rw [List.getElem?_append_right (by omega)] at hu
      have hz : i - vs.length = 0 := by
        have := (List.getElem?_eq_some_iff.mp hu).1
        simp at this
        omega
      rw [hz] at hu
      simp at hu
      exact .inr ⟨by omega, hu.symm⟩
  refine ⟨fun i u hu => ?_, fun i j u hi hj => ?_⟩
  · rcases key hu with ⟨_, y⟩ | ⟨_, rfl⟩
    · exact h.1 i u y
    · exact ⟨a, ws, rfl, n, f⟩
  · rcases key hi with ⟨_, y⟩ | ⟨y, rfl⟩ <;> rcases key hj with ⟨_, y'⟩ | ⟨y', e⟩
    · exact h.2 i j u y y'
    · subst e
      exact absurd rfl (fr i a y)
    · exact absurd rfl (fr j a y')
    · omega
def Apt (H F' H' : Hp) (v : V) : Prop := ∃ a vs, v = .ref a ∧ H' a = some (.lst vs) ∧ PwN H F' vs
def EDN (T : Tb) (E : XK) (t : TE) (w : WE) : Prop := ∀ (F : Hp) (σ : St) (H : Hp) (Γ : Gm) (Q : VK) (Ψ : R → Gm → Prop) (Ξ : XD → Prop), Rp T F σ H Γ → w Γ Ψ Ξ → XO T σ E Ξ F H Γ →
  (∀ F1 H1 Γ1 v r, Ψ r Γ1 → Po T F σ H Γ F1 H1 Γ1 → RepR T F1 σ H1 Γ1 H v r → Apt H F1 H1 v → Q v H1) → t σ H Q
def newRR (r : R) (k : List D → Prop) : Prop := ∃ es, r = .new es ∧ k es
def lcN (ds : List D) (wg : WG) (we : WE) (vs : List Nat) (Φ : R → Gm → Prop) (Γ1 : Gm) : Prop := ds.length ≤ sizeLine ∧ ∃ I : Nat → List D → Gm → Prop, I 0 [] (wipeG Γ1 vs) ∧
  (∀ i acc Γ d, I i acc Γ → ds[i]? = some d → wg d Γ fun Γ2 => we Γ2 (fun r Γ4 => newRR r fun es => I (i + 1) (acc ++ [.lst es]) (wipeG Γ4 vs)) (fun _ => False)) ∧ ∀ acc Γ, I ds.length acc Γ → Φ (.new acc) (rstG Γ1 Γ vs)
def wLcN (wI : WI) (wg : WG) (we : WE) (vs : List Nat) : WE := fun Γ Ψ Ξ => wI Γ (fun ds Γ1 => lcN ds wg we vs Ψ Γ1) Ξ
theorem ed_lcN {vs : List Nat} (hi : ID T E wi wI) (hg : CG T vs g wg) (he : ED T E0 te we) : EDN T E (tLc wi g tYes te vs) (wLcN wI wg we vs) := by
  intro F σ H Γ Q Ψ Ξ p hw x k
  refine hi F σ H Γ _ _ Ξ p hw x fun F1 H1 Γ1 J ds hr q1 wk => ?_
  obtain ⟨hlen, I, h0, hs, hd⟩ := hr
  intro Dn hDn
  have p1 := q1.rp
  have pw := p1.wipe (vs := vs)
  have xo0 : ∀ {ρ : St} {F H : Hp} {Γ : Gm}, XO T ρ E0 (fun _ => False) F H Γ := fun {ρ F H Γ} _ _ _ _ h => h.elim
  have noW : ¬ Owns (wipe σ vs) (wipeG Γ1 vs) Dn := fun z => by
    obtain ⟨us, h1, _⟩ := pw.owns z
    rw [hDn] at h1
    cases h1
  have f1D : F1 Dn = none := by
    cases e : F1 Dn with
    | none => rfl
    | some u => have := p1.sub _ _ e; rw [hDn] at this; cases this
  refine ⟨fun i m H => m = ds.length - i ∧ i ≤ ds.length ∧ ∃ F Γw acc ws, I i acc Γw ∧ acc.length ≤ i ∧ Γw = wipeG Γw vs ∧ Po T F1 (wipe σ vs) H1 (wipeG Γ1 vs) F H Γw ∧ Same F1 F ∧ H Dn = some (.lst ws) ∧ F Dn = none ∧ RepA T.K F ws acc ∧ PwN H1 F ws,
    ⟨ds.length, by simp, Nat.zero_le _, F1, _, [], [], h0, Nat.le_refl _, wipeG_idem.symm, pw.po (pw.toOk.put hDn), fun _ _ h => h, upd_same, f1D, .nil, .nil⟩, ?_⟩
  rintro i m H2 ⟨rfl, hle, F2, Γ2, acc, ws, i2, hacc, hw2, q2, f2, hD2, fD2, r2, pn2⟩
  by_cases hlt : ¬ i < ds.length
  · have ei : i = ds.length := by omega
    subst ei
    refine .inl ⟨(wk F2 H2 _ f2 q2.rp.toOk).1 rfl, ?_⟩
    have q3 := Po.unwipe p1 q2
    have e3 : RepR T F2 σ H2 (rstG Γ1 Γ2 vs) H1 (.ref Dn) (.new acc) := ⟨Dn, ws, rfl, hD2, fD2, hDn, r2, fun z => by
      obtain ⟨us, h1, _⟩ := p1.owns (q3.ows z)
      rw [hDn] at h1
      cases h1⟩
    exact k F2 H2 _ _ _ (hd acc Γ2 i2) (q1.trans q3) (e3.back q1) ⟨Dn, ws, rfl, hD2, fun i u hu => by
      obtain ⟨b, us, e1, e2, e4⟩ := pn2.1 i u hu
      exact ⟨b, us, e1, q1.none e2, e4⟩, pn2.2⟩
  · have hlt : i < ds.length := by omega
    refine .inr ?_
    obtain ⟨go, yl⟩ := (wk F2 H2 i f2 q2.rp.toOk).2 _ (List.getElem?_eq_getElem hlt)
    refine ⟨go, fun H => ∃ F Γw acc ws, I (i + 1) acc Γw ∧ acc.length ≤ i + 1 ∧ Γw = wipeG Γw vs ∧ Po T F1 (wipe σ vs) H1 (wipeG Γ1 vs) F H Γw ∧ Same F1 F ∧ H Dn = some (.lst ws) ∧ F Dn = none ∧ RepA T.K F ws acc ∧ PwN H1 F ws, fun H' h => ⟨ds.length - (i + 1), by omega, rfl, hlt, h⟩, fun xv H3 hy => ?_⟩
    obtain ⟨F3, n3, r3⟩ := yl xv H3 hy
    have q3 := q2.nw n3
    have nown2 : NoOwn vs Γ2 := hw2 ▸ noOwn_wipe
    have hD3 : H3 Dn = some (.lst ws) := n3.hh _ _ hD2 lst_nt
    have fD3 : F3 Dn = none := by
      cases z : F3 Dn with
      | none => rfl
      | some u =>
        rcases n3.nf _ _ z with y | y
        · rw [fD2] at y; cases y
        · rw [hD2] at y; cases y
    refine hg F3 (wipe σ vs) H3 Γ2 xv _ _ _ q3.rp nown2 r3 (hs i acc Γ2 _ i2 (List.getElem?_eq_getElem hlt)) fun σ4 Γ4 h4 p4 n4 l4 j4 => ?_
    have eσ : wipe σ4 vs = wipe σ vs := by
      refine (wipe_ext l4 fun j hj => (j4 j hj).1).trans (wipe_ext (by rw [wipe_length]) fun j hj => wipe_out hj)
    have eΓ : wipeG Γ4 vs = Γ2 := (wipeG_ext (by rw [p4.len, l4, ← q3.rp.len]) fun j hj => (j4 j hj).2).trans hw2.symm
    have noD4 : ¬ Owns σ4 Γ4 Dn := fun z => by
      have z1 := owns_wipe' n4 z
      rw [eσ, eΓ] at z1
      exact noW (q3.ows z1)
    have f13 : Same F1 F3 := fun b o h => n3.ff b o (f2 b o h)
    refine ⟨eσ, ?_⟩
    show te σ4 H3 _
    refine he F3 σ4 H3 Γ4 _ _ _ p4 h4 xo0 fun F6 H6 Γ6 y r h6 q6 e6 => ?_
    obtain ⟨es, rfl, h7⟩ := h6
    have e6' := e6
    obtain ⟨a6, vs6, rfl, ha6, _, na6, _, _⟩ := e6'
    obtain ⟨F7, q7, s7, r7⟩ := RepR.frz (d := .lst es) (Γ' := Γ6) q6 e6 rfl
    have fa7 : F7 a6 = some (.lst vs6) := by
      cases r7 with
      | lst hb _ =>
        have := q7.rp.sub _ _ hb
        rw [ha6] at this
        cases this
        exact hb
    have n5 : NoOwn vs Γ4 := n4
    have q7w : Po T F3 (wipe σ vs) H3 Γ2 F7 H6 (wipeG Γ6 vs) := by
      have := q7.wipe n5
      rw [eσ, eΓ] at this
      exact this
    have hD7 := q7.fr _ _ hD3 lst_nt noD4
    have fD7 := q7.known hD3 fD3 noD4
    have s37 : Same F3 F7 := fun b o h => q7.ff b o h
    refine ⟨ws, hD7, ?_, F7, _, acc ++ [.lst es], ws ++ [.ref a6], h7, by simp; omega, wipeG_idem.symm, Po.grow pw (q3.trans q7w) hDn fD7 hD7, fun b o h => s37 b o (f13 b o h), upd_same, fD7, ?_, ?_⟩
    · rw [r2.length]
      omega
    · exact (r2.mono fun b o h => s37 b o (n3.ff b o h)).append (.cons r7 .nil)
    · refine (pn2.mono fun b o h => s37 b o (n3.ff b o h)).snoc ?_ fa7 fun i b hb z => ?_
      · cases y : H1 a6 with
        | none => rfl
        | some o =>
          obtain ⟨o', y'⟩ := q3.gro a6 o y
          rw [na6] at y'
          cases y'
      · subst z
        obtain ⟨b', us, e1, _, e2⟩ := pn2.1 i _ hb
        cases e1
        have := n3.ok.sub _ _ (n3.ff _ _ e2)
        rw [na6] at this
        cases this
theorem lcN_fg {α : Type} {l : List α} {f : α → D} {vs : List Nat} {Φ : R → Gm → Prop} (g : α → List D) (hl : l.length ≤ sizeLine)
    (hs : ∀ a, a ∈ l → ∀ k : List D → Gm → Prop, k (g a) (wipeG Γ vs) → wg (f a) (wipeG Γ vs) fun Γ2 => we Γ2 (fun r Γ4 => newRR r fun es => k es (wipeG Γ4 vs)) fun _ => False)
    (hd : Φ (.new (l.map fun a => .lst (g a))) (rstG Γ (wipeG Γ vs) vs)) : lcN (l.map f) wg we vs Φ Γ := by
  refine ⟨by rw [List.length_map]; exact hl, fun i acc Γ' => Γ' = wipeG Γ vs ∧ acc = (l.take i).map fun a => .lst (g a), ⟨rfl, rfl⟩, fun i acc Γ' d ⟨e1, e2⟩ hd' => ?_, fun acc Γ' ⟨e1, e2⟩ => ?_⟩
  · subst e1 e2
    rw [List.getElem?_map] at hd'
    obtain ⟨a, ha, rfl⟩ := Option.map_eq_some_iff.mp hd'
    refine hs a (List.mem_of_getElem? ha) (fun y Γ5 => Γ5 = wipeG Γ vs ∧ (l.take i).map (fun a => D.lst (g a)) ++ [.lst y] = (l.take (i + 1)).map fun a => .lst (g a)) ⟨rfl, ?_⟩
    rw [List.take_add_one, ha, List.map_append]
    rfl
  · subst e1 e2
    rw [List.length_map, List.take_length]
    exact hd
theorem lcN_ap {vs : List Nat} {Φ : R → Gm → Prop} {Ξ : XD → Prop} : wLcN wI wg we vs Γ Φ Ξ = wI Γ (fun ds Γ1 => lcN ds wg we vs Φ Γ1) Ξ := rfl
theorem newRR_ap {es : List D} {k : List D → Prop} : newRR (.new es) k = k es := propext ⟨fun ⟨_, e, h⟩ => by cases e; exact h, fun h => ⟨_, rfl, h⟩⟩
end
end Dt
set_option Elab.async false
set_option linter.all false
set_option maxRecDepth 100000
set_option autoImplicit false
namespace Dt
open PySem PySem.Spec L2 Kx PyProof.Rows
section
variable {T : Tb} {F F1 F2 F' H H1 H2 H' H0 F0 Fs Hs : Hp} {σ σs : L2.St} {Γ Γ1 Γ2 Γ' Γn Γs : Gm} {E : XK} {t te : TE} {w we : WE} {ra : Addr} {io : Bool} {s1 s2 : TS} {u1 u2 : WS} {t1 : TT} {w1 : WT} {tA : TA} {wA : WA} {wf : WF}
structure EON (T : Tb) (io : Bool) (H0 F0 : Hp) (ra : Addr) (E : XK) (D : Ends) (Ψ : WEnds) : Prop where
  nx : ∀ F σ H Γ, Ψ.nx Γ → Rs T io H0 F0 ra F σ H Γ → D.nx σ H
  bk : ∀ F σ H Γ, Ψ.bk Γ → Rs T io H0 F0 ra F σ H Γ → D.bk σ H
  ct : ∀ F σ H Γ, Ψ.ct Γ → Rs T io H0 F0 ra F σ H Γ → D.ct σ H
  rt : ∀ F σ H Γ v r, Ψ.rt r Γ → Rs T io H0 F0 ra F σ H Γ → RepR T F σ H Γ H0 v r → Apt H0 F H v → D.rt v H
  xe : ∀ F σ H Γ xd, Ψ.xe xd → Rs T io H0 F0 ra F σ H Γ → XE T F H E xd
theorem EON.xo {D : Ends} {Ψ : WEnds} (e : EON T io H0 F0 ra E D Ψ) (s : Rs T io H0 F0 ra F σ H Γ) : XO T σ E Ψ.xe F H Γ := fun F' H' Γ' xd h q => e.xe F' σ H' Γ' xd h (s.po q)
def SDN (T : Tb) (io : Bool) (E : XK) (t : TS) (w : WS) : Prop := ∀ (H0 F0 : Hp) (ra : Addr) (F : Hp) (σ : L2.St) (H : Hp) (Γ : Gm) (D : Ends) (Ψ : WEnds), Rs T io H0 F0 ra F σ H Γ → w Ψ Γ → EON T io H0 F0 ra E D Ψ → t D σ H
theorem sdn_lift (h : SD T io E s1 u1) (hw : ∀ Ψ Γ, u1 Ψ Γ → u1 { Ψ with rt := fun _ _ => False } Γ) : SDN T io E s1 u1 := fun H0 F0 ra F σ H Γ D Ψ s hu e => h H0 F0 ra F σ H Γ D _ s (hw Ψ Γ hu) ⟨e.nx, e.bk, e.ct, fun _ _ _ _ _ _ z => z.elim, e.xe⟩
theorem sdn_seq (h : SDN T io E s1 u1) (h' : SDN T io E s2 u2) : SDN T io E (tSeq s1 s2) (wSeq u1 u2) := fun H0 F0 ra F σ H Γ D Ψ s hw e =>
  h H0 F0 ra F σ H Γ _ _ s hw ⟨fun F1 σ1 H1 Γ1 h1 s1 => h' H0 F0 ra F1 σ1 H1 Γ1 D Ψ s1 h1 e, e.bk, e.ct, e.rt, e.xe⟩
theorem sdn_if (h : TD T E t1 w1) (h1 : SDN T io E s1 u1) (h2 : SDN T io E s2 u2) : SDN T io E (tIfS t1 s1 s2) (wIfS w1 u1 u2) := fun H0 F0 ra F σ H Γ D Ψ s hw e => h F σ H Γ _ _ _ s.rp hw (e.xo s) fun F1 H1 Γ1 b hb q => by
  cases b with
  | true => exact h1 H0 F0 ra F1 σ H1 Γ1 D Ψ (s.po q) hb e
  | false => exact h2 H0 F0 ra F1 σ H1 Γ1 D Ψ (s.po q) hb e
theorem sdn_next : SDN T io E tNext wNext := fun H0 F0 ra F σ H Γ D Ψ s h e => e.nx F σ H Γ h s
theorem PwN.none {vs : List V} (h : PwN H F vs) (g : ∀ b, H b = Option.none → H' b = Option.none) : PwN H' F vs := ⟨fun i u hu => by
  obtain ⟨b, ws, e1, e2, e3⟩ := h.1 i u hu
  exact ⟨b, ws, e1, g b e2, e3⟩, h.2⟩
theorem sdn_ret (h : EDN T E t w) : SDN T io E (tRet t) (wRet w) := fun H0 F0 ra F σ H Γ D Ψ s hw e => h F σ H Γ _ _ _ s.rp hw (e.xo s) fun F1 H1 Γ1 v r hr q er ap => e.rt F1 σ H1 Γ1 v r hr (s.po q) (by
  cases r with
  | val d => exact er
  | new ds => obtain ⟨a, vs, e1, e2, e3, e4, e5⟩ := er; exact ⟨a, vs, e1, e2, e3, s.none e4, e5⟩
  | slot i => exact er) (by
  obtain ⟨a, vs, e1, e2, e3⟩ := ap
  exact ⟨a, vs, e1, e2, e3.none fun b hb => s.none hb⟩)
def spN (T : Tb) (wf : WF) : Sp := fun vs H Q E => ∃ (F : Hp) (ds : List D) (Ψ : R → List D → Prop), Ok T F H ∧ RepA T.K F vs ds ∧ wf ds [] Ψ (fun _ => False) ∧
  ∀ F' H' v r, Ψ r [] → Fx T false 0 F H F' H' → RepN T F' H H' v r → Apt H F' H' v → Q v H'
def endsN (Ψ : R → List D → Prop) : WEnds := { nx := fun _ => False, rt := fun r Γ => newRR r fun es => Ψ (.new es) [], bk := fun _ => False, ct := fun _ => False, xe := fun _ => False }
theorem endN_rt {Ψ : R → List D → Prop} {r : R} : (endsN Ψ).rt r Γ = newRR r fun es => Ψ (.new es) [] := rfl
def wCallN (wf : WF) (wA : WA) : WE := fun Γ Ψ Ξ => wA Γ (fun rs Γ1 => callW false wf rs Γ1 Ψ fun _ => False) Ξ
theorem callN_ap {Φ : R → Gm → Prop} {Ξ : XD → Prop} : wCallN wf wA Γ Φ Ξ = wA Γ (fun rs Γ1 => callW false wf rs Γ1 Φ fun _ => False) Ξ := rfl
theorem ed_callN (h : AD T E tA wA) : EDN T E (tCall (spN T wf) [] E tA) (wCallN wf wA) := fun F σ H Γ Q Ψ Ξ p h1 x k => h F σ H Γ _ _ Ξ p h1 x fun F1 H1 Γ1 vs rs hr q e => by
  rw [List.append_nil]
  obtain ⟨ds, Γ2, a, hw⟩ := hr
  obtain ⟨F2, q2, s2, r2⟩ := e.frz q a
  refine ⟨F2, ds, _, q2.rp.toOk, r2, hw, fun F' H' v r hr f e' ap => ?_⟩
  refine k F' H' Γ2 v r hr (q2.nw f.nw) (e'.toR q2) ?_
  obtain ⟨b, us, e1, e2, e3⟩ := ap
  exact ⟨b, us, e1, e2, e3.none fun b hb => q2.none hb⟩
variable {P : Program} {wd : World} {K : PySem.W.Frag} {mg : Str → Option Value} {base : Heap} {x qual : Str} {st : Stmt} {f : Addr} {fd : FuncData} {N ps : List Str} {k : Nat} {ts : List Addr} {ls : List (Addr × Pos × Str)} {u : WS}
structure QNs (X : Cx) (T : Tb) (E : XK) (st : List Stmt) (t : TS) (w : WS) : Prop where
  pe : PSs X st t
  ed : SDN T false E t w
theorem fn_dN (F : Fun K x qual st f fd) (S : FnScope N ps (defScope st)) (hn : ps.length ≤ N.length) (hl : ∀ ds row Ψ Ξ, wf ds row Ψ Ξ → ds.length = ps.length)
    (hw : ∀ ds Ψ, wf ds [] Ψ (fun _ => False) → u (endsN Ψ) (startW false N.length ds []))
    (hb : ∀ (cdv : Value) (A : Around) (outer : List Env) (s : Shared) (H : Hp) (E : XK), Room k (A.deeper (envOfC qual (defScope st) s.heap.objs.size f cdv)) → ∃ t, QNs (cxOf (CXE P wd) P wd K mg base N qual (defScope st) f cdv A outer s H E).nox ⟨K, ts, ls⟩ E0 (defBody st) t u) :
    FnOk P wd K mg base (CXE P wd) (k + 1) f fd ps (spN ⟨K, ts, ls⟩ wf) := by
  refine Fun.okT F S (fun vs H Q E h => ?_) fun cdv A outer s H vs Q E hr h => ?_
  · obtain ⟨F, ds, Ψ, o, r, hwf, _⟩ := h
    rw [← hl ds [] Ψ _ hwf, ← r.length]
  obtain ⟨t, q⟩ := hb cdv A outer s H E hr
  obtain ⟨F0, ds, Ψ, o, r, hwf, kk⟩ := h
  refine ⟨t, q.pe, ?_⟩
  have so := start_ok (io := false) (ra := 0) (rv := []) (row := []) (N := N) o (by rw [← hl ds [] Ψ _ hwf] at hn; simpa using hn) r (fun z => by cases z)
  exact q.ed H F0 0 F0 _ H _ _ _ so (hw ds Ψ hwf) ⟨fun _ _ _ _ z => z.elim, fun _ _ _ _ z => z.elim, fun _ _ _ _ z => z.elim, fun F' σ' H' Γ' v r hr s' er ap => by
    obtain ⟨es, rfl, hr⟩ := hr
    obtain ⟨a, us, e1, e2, e3, e4, e5, _⟩ := er
    exact kk F' H' v _ hr ⟨s'.rp.toOk, s'.ff, s'.en, s'.gro, s'.nf⟩ ⟨a, us, e1, e2, e3, e4, e5⟩ ap, fun _ _ _ _ _ z => z.elim⟩
end
end Dt
set_option Elab.async false
set_option linter.all false
set_option maxRecDepth 100000
set_option autoImplicit false
namespace Dt
open PySem PySem.Spec L2 Kx PyProof.Rows
section
variable {T : Tb} {F F1 F2 F' H H1 H2 H' H0 F0 Fs Hs : Hp} {σ σs : L2.St} {Γ Γ1 Γ2 Γ' Γn Γs : Gm} {E : XK} {t te : TE} {w we : WE} {ra : Addr} {s1 s2 : TS} {u1 u2 : WS} {w2 w3 : WSn} {tA : TA} {wA : WA} {ks : List Nat} {x y : Nat} {P : Nat → Prop}
def KN (σ : L2.St) (P : Nat → Prop) (n : L2.St → Hp → Prop) : L2.St → Hp → Prop := fun σ' H' => (∀ i, P i → σ'[i]? = σ[i]?) → n σ' H'
theorem kn_kn {σ σ1 : L2.St} {n : L2.St → Hp → Prop} (h : ∀ i, P i → σ1[i]? = σ[i]?) : KN σ1 P n = KN σ P n := by
  funext σ' H'
  refine propext ⟨fun q z => q fun i hi => (z i hi).trans (h i hi).symm, fun q z => q fun i hi => (z i hi).trans (h i hi)⟩
def NoBk (s : TS) : Prop := ∀ (D : Ends) (B C : L2.St → Hp → Prop) (σ : L2.St) (H : Hp), s { D with bk := B, ct := C } σ H = s D σ H
theorem nob_asg {t : TE} {g : TG} : NoBk (tAsg t g) := fun _ _ _ _ _ => rfl
theorem nob_ret {c : TT} {t : TE} : NoBk (tIfS c (tRet t) tNext) := fun _ _ _ _ _ => rfl
theorem nob_seq (h1 : NoBk s1) (h2 : NoBk s2) : NoBk (tSeq s1 s2) := fun D B C σ H => by
  show s1 { D with bk := B, ct := C, nx := s2 { D with bk := B, ct := C } } σ H = s1 { D with nx := s2 D } σ H
  have e : s2 { D with bk := B, ct := C } = s2 D := by funext σ H; exact h2 D B C σ H
  rw [e]
  exact h1 { D with nx := s2 D } B C σ H
theorem keep_seq (h1 : KeepE s1 P) (h2 : KeepE s2 P) : KeepE (tSeq s1 s2) P := fun D σ H => by
  show s1 { D with nx := s2 { D with nx := KN σ P D.nx } } σ H = s1 { D with nx := s2 D } σ H
  rw [← h1 { D with nx := s2 D } σ H, ← h1 { D with nx := s2 { D with nx := KN σ P D.nx } } σ H]
  have e : (fun (σ' : L2.St) (H' : Hp) => (∀ i, P i → σ'[i]? = σ[i]?) → s2 { D with nx := KN σ P D.nx } σ' H') = fun σ' H' => (∀ i, P i → σ'[i]? = σ[i]?) → s2 D σ' H' := by
    funext σ' H'
    refine propext (forall_congr' fun k => ?_)
    rw [← kn_kn (σ := σ) (n := D.nx) k]
    exact Eq.to_iff (h2 D σ' H')
  exact congrArg (fun n => s1 { D with nx := n } σ H) e
theorem keep_for {wi : TI} (hy : ¬ P y) (hk : KeepE s1 P) (hb : NoBk s1) : KeepE (tFor wi (gName y) s1) P := fun D σ H => by
  show wi σ H _ = wi σ H _
  refine congrArg (wi σ H) ?_
  funext J H1
  have body : ∀ (D1 : Ends) (N B B' : L2.St → Hp → Prop) (σ3 : L2.St) (H3 : Hp), s1 { D1 with nx := N, ct := N, bk := B } σ3 H3 = s1 { D1 with nx := N } σ3 H3 := fun D1 N B B' σ3 H3 => hb { D1 with nx := N } B N σ3 H3
  refine propext ⟨fun ⟨W, h0, hs⟩ => ?_, fun ⟨W, h0, hs⟩ => ?_⟩
  · refine ⟨fun i m σ2 H2 => W i m σ2 H2 ∧ ∀ i, P i → σ2[i]? = σ[i]?, h0.imp fun m h => ⟨h, fun _ _ => rfl⟩, fun i m σ2 H2 ⟨hw, hk2⟩ => ?_⟩
    rcases hs i m σ2 H2 hw with ⟨a, b⟩ | ⟨go, N, hn, hy'⟩
    · exact .inl ⟨a, b hk2⟩
    · refine .inr ⟨go, fun σ' H' => N σ' H' ∧ ∀ i, P i → σ'[i]? = σ[i]?, fun σ' H' ⟨h1, h2⟩ => (hn σ' H' h1).imp fun m' h => ⟨h.1, h.2, h2⟩, fun z H3 hz => ?_⟩
      have h3 := hy' z H3 hz
      show s1 { D with nx := _, ct := _, bk := _ } (σ2.set y (some z)) H3
      replace h3 : s1 { D with nx := N, ct := N, bk := _ } (σ2.set y (some z)) H3 := h3
      rw [body D _ _ D.bk] at h3 ⊢
      have ks3 : ∀ i, P i → (σ2.set y (some z))[i]? = σ[i]? := fun i hi => by
        rw [List.getElem?_set_ne (fun e => hy (by rw [e]; exact hi))]
        exact hk2 i hi
      rw [← hk { D with nx := N }] at h3
      rw [← hk]
      have e : (fun (σ' : L2.St) (H' : Hp) => (∀ i, P i → σ'[i]? = (σ2.set y (some z))[i]?) → N σ' H') = fun σ' H' => (∀ i, P i → σ'[i]? = (σ2.set y (some z))[i]?) → N σ' H' ∧ ∀ i, P i → σ'[i]? = σ[i]? := by
        funext σ' H'
        refine propext (forall_congr' fun k => ⟨fun q => ⟨q, fun i hi => (k i hi).trans (ks3 i hi)⟩, fun q => q.1⟩)
      exact (congrArg (fun n => s1 { D with nx := n } (σ2.set y (some z)) H3) e) ▸ h3
  · refine ⟨W, h0, fun i m σ2 H2 hw => ?_⟩
    rcases hs i m σ2 H2 hw with ⟨a, b⟩ | ⟨go, N, hn, hy'⟩
    · exact .inl ⟨a, fun _ => b⟩
    · refine .inr ⟨go, N, hn, fun z H3 hz => ?_⟩
      have h3 := hy' z H3 hz
      show s1 { D with nx := N, ct := N, bk := _ } (σ2.set y (some z)) H3
      replace h3 : s1 { D with nx := N, ct := N, bk := _ } (σ2.set y (some z)) H3 := h3
      rw [body D _ _ D.bk] at h3 ⊢
      exact h3
structure SnA (T : Tb) (H0 F0 : Hp) (ra : Addr) (ks : List Nat) (x : Nat) (Fs : Hp) (σs : L2.St) (Hs : Hp) (Γs : Gm) (F : Hp) (σ : L2.St) (H : Hp) (Γ : Gm) : Prop where
  sn : Sn T H0 F0 ra ks none Fs σs Hs Γs F σ H Γ
  xs : ∃ A vs, σ[x]? = some (some (.ref A)) ∧ F A = some (.lst vs) ∧ PwN Hs F vs ∧ ∀ i : Nat, vs[i]? ≠ some (.ref A)
theorem SnA.next {σ' : L2.St} (S : SnA T H0 F0 ra ks x Fs σs Hs Γs F σ H Γ) (c : Rs T false Hs F ra F' σ' H' Γ') (k : ∀ i, i ∈ ks ∨ i = x → σ'[i]? = σ[i]?) : SnA T H0 F0 ra ks x Fs σs Hs Γs F' σ' H' Γ' := ⟨S.sn.next c fun i hi => hi.elim (fun z => k i (.inl z)) (fun z => by cases z), by
  obtain ⟨A, vs, h1, h2, h3, h4⟩ := S.xs
  exact ⟨A, vs, (k x (.inr rfl)).trans h1, c.ff _ _ h2, h3.mono c.ff, h4⟩⟩
def SbD (T : Tb) (E : XK) (ks : List Nat) (x : Nat) (t : TS) (w : WSn) : Prop := ∀ (H0 F0 : Hp) (ra : Addr) (Fs : Hp) (σs : L2.St) (Hs : Hp) (Γs : Gm) (F : Hp) (σ : L2.St) (H : Hp) (Γ : Gm) (D : Ends) (Ψ : WEnds), SnA T H0 F0 ra ks x Fs σs Hs Γs F σ H Γ → w Γs Ψ Γ → EO T false H0 F0 ra E D Ψ → t D σ H
structure EOA (T : Tb) (H0 F0 : Hp) (ra : Addr) (ks : List Nat) (x : Nat) (Fs : Hp) (σs : L2.St) (Hs : Hp) (Γs : Gm) (E : XK) (D : Ends) (Ψ : WEnds) : Prop where
  nx : ∀ F σ H Γ, Ψ.nx Γ → SnA T H0 F0 ra ks x Fs σs Hs Γs F σ H Γ → D.nx σ H
  bk : ∀ Γ, ¬ Ψ.bk Γ
  ct : ∀ Γ, ¬ Ψ.ct Γ
  rt : ∀ F σ H Γ v r, Ψ.rt r Γ → Rs T false H0 F0 ra F σ H Γ → RepR T F σ H Γ H0 v r → D.rt v H
  xe : ∀ F σ H Γ xd, Ψ.xe xd → Rs T false H0 F0 ra F σ H Γ → XE T F H E xd
def SaD (T : Tb) (E : XK) (ks : List Nat) (x : Nat) (t : TS) (w : WSn) : Prop := ∀ (H0 F0 : Hp) (ra : Addr) (Fs : Hp) (σs : L2.St) (Hs : Hp) (Γs : Gm) (F : Hp) (σ : L2.St) (H : Hp) (Γ : Gm) (D : Ends) (Ψ : WEnds), SnA T H0 F0 ra ks x Fs σs Hs Γs F σ H Γ → w Γs Ψ Γ → EOA T H0 F0 ra ks x Fs σs Hs Γs E D Ψ → t D σ H
theorem sb_stm (h1 : SD T false E s1 u1) (hk : KeepE s1 fun i => i ∈ ks ∨ i = x) (h2 : SbD T E ks x s2 w2) : SbD T E ks x (tSeq s1 s2) (wSnS u1 w2) := fun H0 F0 ra Fs σs Hs Γs F σ H Γ D Ψ S hw e => by
  show s1 { D with nx := s2 D } σ H
  rw [← hk]
  exact h1 Hs F ra F σ H Γ _ _ S.sn.here hw ⟨fun F1 σ1 H1 Γ1 g c k => h2 H0 F0 ra Fs σs Hs Γs F1 σ1 H1 Γ1 D Ψ (S.next c k) g e, fun F1 σ1 H1 Γ1 g c => e.bk F1 σ1 H1 Γ1 g (S.sn.to c), fun F1 σ1 H1 Γ1 g c => e.ct F1 σ1 H1 Γ1 g (S.sn.to c), fun F1 σ1 H1 Γ1 v r g c rr => e.rt F1 σ1 H1 Γ1 v r g (S.sn.to c) (S.sn.rt rr), fun F1 σ1 H1 Γ1 xd g c => e.xe F1 σ1 H1 Γ1 xd g (S.sn.to c)⟩
theorem sa_stm (h1 : SD T false E s1 u1) (hk : KeepE s1 fun i => i ∈ ks ∨ i = x) (h2 : SaD T E ks x s2 w2) : SaD T E ks x (tSeq s1 s2) (wSnS u1 w2) := fun H0 F0 ra Fs σs Hs Γs F σ H Γ D Ψ S hw e => by
  show s1 { D with nx := s2 D } σ H
  rw [← hk]
  exact h1 Hs F ra F σ H Γ _ _ S.sn.here hw ⟨fun F1 σ1 H1 Γ1 g c k => h2 H0 F0 ra Fs σs Hs Γs F1 σ1 H1 Γ1 D Ψ (S.next c k) g e, fun F1 σ1 H1 Γ1 g c => absurd g (e.bk Γ1), fun F1 σ1 H1 Γ1 g c => absurd g (e.ct Γ1), fun F1 σ1 H1 Γ1 v r g c rr => e.rt F1 σ1 H1 Γ1 v r g (S.sn.to c) (S.sn.rt rr), fun F1 σ1 H1 Γ1 xd g c => e.xe F1 σ1 H1 Γ1 xd g (S.sn.to c)⟩
def wSbA (x : Nat) (w : WE) (w2 : WSn) : WSn := fun Γs Ψ Γ => x < Γ.length ∧ w Γ (fun r Γ1 => newRR r fun dss => w2 Γs Ψ (Γ1.set x (some (.shr (.lst dss))))) Ψ.xe
theorem sb_asg (hxk : x ∉ ks) (h : EDN T E t w) (h2 : SbD T E ks x s2 w2) : Snd T E ks none (tSeq (tAsg t (gName x)) s2) (wSbA x w w2) := fun H0 F0 ra Fs σs Hs Γs F σ H Γ D Ψ S hw e => by
  obtain ⟨hx, hw⟩ := hw
  have sc := S.here
  refine h F σ H Γ _ _ _ sc.rp hw (fun F' H' Γ' xd g q => e.xe F' σ H' Γ' xd g (S.to (sc.po q))) fun F1 H1 Γ1 v r hr q er ap => ?_
  obtain ⟨dss, rfl, hr⟩ := hr
  obtain ⟨A, vs, rfl, hA, pw⟩ := ap
  obtain ⟨F2, q2, s2', r2⟩ := RepR.frz (d := .lst dss) (Γ' := Γ1) q er rfl
  have s2 := sc.po q2
  have nn : ∀ b, H b = none → Hs b = none := fun b z => by
    cases y : Hs b with
    | none => rfl
    | some u => obtain ⟨u', y'⟩ := S.cur.gro b u y; rw [z] at y'; cases y'
  have fA : F2 A = some (.lst vs) := by
    cases r2 with
    | lst hb _ =>
      have := q2.rp.sub _ _ hb
      rw [hA] at this
      cases this
      exact hb
  have s4 : Rs T false Hs F ra F2 (σ.set x (some (.ref A))) H1 (Γ1.set x (some (.shr (.lst dss)))) := s2.set r2 (.inr rfl) (fun _ z => by cases z)
  have lx : x < σ.length := by rw [← sc.rp.len]; exact hx
  refine h2 H0 F0 ra Fs σs Hs Γs F2 _ H1 _ D Ψ ⟨S.next s4 fun i hi => ?_, A, vs, List.getElem?_set_self lx, fA, (pw.mono s2').none nn, fun i hi => ?_⟩ hr e
  · rcases hi with z | z
    · exact List.getElem?_set_ne (fun k => hxk (by rw [k]; exact z))
    · cases z
  · obtain ⟨b, ws, e1, _, e2⟩ := pw.1 i _ hi
    cases e1
    obtain ⟨a', vs', e3, _, f0, _⟩ := er
    cases e3
    rw [e2] at f0
    cases f0
def wAp (m : List Bool) (x y : Nat) : WSn := fun Γs Ψ Γ => x < Γ.length ∧ ∃ (dss es : List D) (i : Nat) (Γn : Gm), Γ[x]? = some (some (.shr (.lst dss))) ∧ Γ[y]? = some (some (.shr (.int (i : Nat)))) ∧ dss[i]? = some (.lst es) ∧ (∀ d ∈ dss, ∃ es, d = .lst es ∧ NolA es) ∧ es.length ≤ 1000 ∧ MidG m Γs Γ Γn ∧
  Ψ.nx (Γn.set x (some (.shr (.lst (dss.set i (.lst (es ++ [.int 0])))))))
theorem sa_put {m : List Bool} {tv : TE} (hm : ∀ i, m[i]? = some true → i ∈ ks) (iv : AlwV tv (.int 0)) : SaD T E ks x (tDrop (tBM T.K "list" rAppend (tOp (rIx T.K) (tVar x) (tVar y)) (tCons tv tNil))) (wAp m x y) := fun H0 F0 ra Fs σs Hs Γs F σ H Γ DE Ψ S hw e => by
  obtain ⟨hx, dss, es, i, Γn, gx, gy, gi, hn, hl, hg, hw⟩ := hw
  obtain ⟨A, vs, hσ, fA, pw, nA⟩ := S.xs
  have cur := S.sn.cur
  have rp := cur.rp
  obtain ⟨vx, x1, x2⟩ := rp.at_ x _ gx
  obtain ⟨vy, y1, y2⟩ := rp.at_ y _ gy
  have ey : vy = .int (i : Nat) := by cases y2; rfl
  subst ey
  rw [hσ] at x1
  cases x1
  have rr : RepA T.K F vs dss := by
    cases x2 with
    | lst hb rb =>
      rw [fA] at hb
      cases hb
      exact rb
  obtain ⟨u, hu, ru⟩ := rr.get gi
  obtain ⟨b, ws, rfl, nb, fb⟩ := pw.1 i u hu
  have rb : RepA T.K F ws es := by
    cases ru with
    | lst hb rb =>
      rw [fb] at hb
      cases hb
      exact rb
  have bA : b ≠ A := fun z => nA i (by rw [hu, z])
  have HA := rp.sub _ _ fA
  have Hb := rp.sub _ _ fb
  have nol : NolA es := by
    obtain ⟨es', e1, e2⟩ := hn _ (List.mem_of_getElem? gi)
    cases e1
    exact e2
  refine ⟨_, hσ, _, y1, .inl ⟨A, vs, (i : Nat), .ref b, rfl, rfl, .inl (.inl HA), at_nat hu, .inl ⟨rfl, ws, .inl (.inl Hb)⟩, iv σ H _ ⟨b, ws, .int 0, rfl, rfl, Hb, Nat.lt_of_le_of_lt (m := 1000) (by rw [rb.length]; exact hl) (by decide), ?_⟩⟩⟩
  have sN : Same (nlF F) (upd F b (.lst (ws ++ [.int 0]))) := fun c o h => by
    obtain ⟨h1, h2⟩ := nl_of h
    rw [upd_ne (fun z => by rw [z, fb] at h1; cases h1; exact h2 _ rfl)]
    exact h1
  have sS : Same Fs (upd F b (.lst (ws ++ [.int 0]))) := fun c o h => by
    have := S.sn.base.rp.sub c o h
    rw [upd_ne (fun z => by rw [z, nb] at this; cases this)]
    exact cur.ff c o h
  have lists : ∀ (k : Nat) (v : V) (d : D), vs[k]? = some v → (dss.set i (.lst (es ++ [.int 0])))[k]? = some d → Rep T.K (upd F b (.lst (ws ++ [.int 0]))) v d := fun k v d hv hd => by
    by_cases z : k = i
    · subst z
      rw [hu] at hv
      cases hv
      rw [List.getElem?_set_self (List.getElem?_eq_some_iff.mp gi).1] at hd
      cases hd
      exact Rep.lst upd_same ((RepA.mono sN (RepA.nol rb nol)).append (.cons (.int 0) .nil))
    · rw [List.getElem?_set_ne (Ne.symm z)] at hd
      obtain ⟨v', hv', rv⟩ := rr.get hd
      rw [hv] at hv'
      cases hv'
      obtain ⟨es', rfl, nol'⟩ := hn d (List.mem_of_getElem? hd)
      cases rv with
      | @lst c ws' _ hc rc =>
        have cb : c ≠ b := fun q => z (pw.2 k i (.ref c) hv (by rw [hu, q]))
        exact Rep.lst (by rw [upd_ne cb]; exact hc) (RepA.mono sN (RepA.nol rc nol'))
  have rA : Rep T.K (upd F b (.lst (ws ++ [.int 0]))) (.ref A) (.lst (dss.set i (.lst (es ++ [.int 0])))) := Rep.lst (by rw [upd_ne (Ne.symm bA)]; exact fA) (RepA.of (by rw [List.length_set]; exact rr.length) lists)
  have lx : x < Γn.length := by rw [hg.len]; exact hx
  have get : ∀ (j : Nat) (en : En), (Γn.set x (some (.shr (.lst (dss.set i (.lst (es ++ [.int 0])))))))[j]? = some (some en) → (j = x ∧ en = .shr (.lst (dss.set i (.lst (es ++ [.int 0]))))) ∨ (j ≠ x ∧ Γn[j]? = some (some en)) := fun j en h => by
    by_cases z : j = x
    · subst z
      rw [List.getElem?_set_self lx] at h
      cases h
      exact .inl ⟨rfl, rfl⟩
    · rw [List.getElem?_set_ne (Ne.symm z)] at h
      exact .inr ⟨z, h⟩
  have shr : ∀ (j : Nat) (en : En), (Γn.set x (some (.shr (.lst (dss.set i (.lst (es ++ [.int 0])))))))[j]? = some (some en) → ∃ d, en = .shr d := fun j en h => by
    rcases get j en h with ⟨_, rfl⟩ | ⟨_, h⟩
    · exact ⟨_, rfl⟩
    · obtain ⟨d, e, _⟩ := hg.get j en h
      exact ⟨d, e⟩
  refine e.nx (upd F b (.lst (ws ++ [.int 0]))) σ _ _ hw ⟨⟨S.sn.base, S.sn.no, ⟨⟨⟨fun c o h => ?_, fun c o h => ?_, fun P hP => tab_lst Hb (rp.tabs P hP), fun l hl => lab_lst Hb (rp.labs l hl)⟩, by rw [List.length_set, hg.len]; exact rp.len, fun j en h => ?_, fun j _ ds _ _ h => ?_⟩, sS, fun c o h n y => ?_, fun c oc => ?_, fun c o h => ?_, fun c o h => ?_, fun z => by cases z⟩, S.sn.kp, fun _ z => by cases z⟩, A, vs, hσ, by rw [upd_ne (Ne.symm bA)]; exact fA, ⟨fun k u hk => ?_, pw.2⟩, nA⟩
  · by_cases z : c = b
    · subst z; rw [upd_same] at h ⊢; exact h
    · rw [upd_ne z] at h ⊢; exact rp.sub c o h
  · by_cases z : c = b
    · subst z; rw [upd_same] at h; cases h; exact lst_nt
    · rw [upd_ne z] at h; exact rp.nt c o h
  · rcases get j en h with ⟨rfl, rfl⟩ | ⟨_, h⟩
    · exact ⟨_, hσ, rA⟩
    · obtain ⟨d, rfl, hd⟩ := hg.get j en h
      rcases hd with ⟨nd, z2⟩ | ⟨z2, z3⟩
      · obtain ⟨v, h1, h2⟩ := rp.at_ j _ z2
        exact ⟨v, h1, (Rep.nol h2 nd).mono sN⟩
      · obtain ⟨v, h1, h2⟩ := S.sn.base.rp.at_ j _ z3
        exact ⟨v, by rw [S.sn.kp j (hm j z2)]; exact h1, Rep.mono sS h2⟩
  · obtain ⟨d, z⟩ := shr j _ h
    cases z
  · rw [upd_ne (fun z => by rw [z, nb] at h; cases h)]
    exact cur.en c o h n y
  · obtain ⟨j, ds, z, _⟩ := oc
    obtain ⟨d, z⟩ := shr j _ z
    cases z
  · obtain ⟨o', h'⟩ := cur.gro c o h
    by_cases z : c = b
    · subst z; exact ⟨_, upd_same⟩
    · exact ⟨o', by rw [upd_ne z]; exact h'⟩
  · by_cases z : c = b
    · subst z; exact .inr (.inl nb)
    · rw [upd_ne z] at h; exact cur.nf c o h
  · obtain ⟨c, us, e1, e2, e3⟩ := pw.1 k u hk
    by_cases z : c = b
    · subst z; exact ⟨c, _, e1, e2, upd_same⟩
    · exact ⟨c, us, e1, e2, by rw [upd_ne z]; exact e3⟩
def wSbF (wA : WA) (y : Nat) (w3 : WSn) (u2 : WS) : WSn := fun Γs Ψ Γ => wA Γ (fun rs Γ1 => ∃ (j : Int) (Γ2 : Gm), frzL Γ1 rs = some ([.int j], Γ2) ∧ (-(2 ^ 62) ≤ j ∧ j < 2 ^ 62) ∧ ∃ I : Nat → Gm → Prop, I 0 Γ2 ∧
  (∀ i Γ, i < j.toNat → I i Γ → y < Γ.length ∧ w3 Γs { Ψ with nx := I (i + 1), bk := fun _ => False, ct := fun _ => False } (Γ.set y (some (.shr (.int (i : Nat)))))) ∧ ∀ Γ, I j.toNat Γ → u2 Ψ Γ) Ψ.xe
theorem sb_for (ha : AD T E tA wA) (hyk : y ∉ ks) (hyx : y ≠ x) (hb : SaD T E ks x s1 w3) (h2 : SD T false E s2 u2) : SbD T E ks x (tSeq (tFor (iRng1 tA) (gName y) s1) s2) (wSbF wA y w3 u2) := fun H0 F0 ra Fs σs Hs Γs F σ H Γ D Ψ S hw e => by
  have sc := S.sn.here
  refine ha F σ H Γ _ _ _ sc.rp hw (fun F' H' Γ' xd g q => e.xe F' σ H' Γ' xd g (S.sn.to (sc.po q))) fun F1 H1 Γ1 vs rs hr q er => ?_
  obtain ⟨j, Γ2, fz, ⟨j0, j1⟩, I, i0, hs, hd⟩ := hr
  obtain ⟨F2, q2, _, r2⟩ := er.frz q fz
  have ev : vs = [.int j] := by
    cases r2 with
    | cons h1 h2 => cases h1; cases h2; rfl
  subst ev
  refine ⟨j, rfl, j0, j1, ?_⟩
  have S2 : SnA T H0 F0 ra ks x Fs σs Hs Γs F2 σ H1 Γ2 := S.next (sc.po q2) fun _ _ => rfl
  refine ⟨fun i m σ' H' => m = j.toNat - i ∧ i ≤ j.toNat ∧ ∃ F Γ, I i Γ ∧ SnA T H0 F0 ra ks x Fs σs Hs Γs F σ' H' Γ, ⟨_, rfl, Nat.zero_le _, F2, Γ2, i0, S2⟩, ?_⟩
  rintro i m σ3 H3 ⟨rfl, hle, F3, Γ3, i3, S3⟩
  by_cases hlt : i < j.toNat
  · refine .inr ⟨hlt, fun σ' H' => i + 1 ≤ j.toNat ∧ ∃ F Γ, I (i + 1) Γ ∧ SnA T H0 F0 ra ks x Fs σs Hs Γs F σ' H' Γ, fun σ' H' hh => ⟨j.toNat - (i + 1), by omega, rfl, hh⟩, fun v H4 hy => ?_⟩
    obtain ⟨rfl, rfl⟩ := hy
    obtain ⟨yl, h3⟩ := hs i Γ3 hlt i3
    have ez : (0 : Int) + (i : Int) = (i : Nat) := Int.zero_add _
    rw [ez]
    have s4 := S3.sn.here.set (i := y) (v := .int (i : Nat)) (e := .shr (.int (i : Nat))) (Rep.int _) (.inr rfl) (fun _ z => by cases z)
    have S4 := S3.next s4 fun k hk => List.getElem?_set_ne (fun z => by
      subst z
      exact hk.elim hyk hyx)
    exact hb H0 F0 ra Fs σs Hs Γs F3 _ H4 _ _ _ S4 h3 ⟨fun F σ H Γ g SA => ⟨hlt, F, Γ, g, SA⟩, fun _ z => z, fun _ z => z, e.rt, e.xe⟩
  · have ei : i = j.toNat := by omega
    subst ei
    exact .inl ⟨Nat.le_refl _, h2 H0 F0 ra F3 σ3 H3 Γ3 D Ψ (S3.sn.to S3.sn.here) (hd Γ3 i3) e⟩
variable {Ψ : WEnds} {m : List Bool} {u : WS} {Φ : R → Gm → Prop} {Ξ : XD → Prop}
theorem sbA_by (hx : x < Γ.length) (h : w Γ (fun r Γ1 => newRR r fun dss => w2 Γs Ψ (Γ1.set x (some (.shr (.lst dss))))) Ψ.xe) : wSbA x w w2 Γs Ψ Γ := ⟨hx, h⟩
def forA (j : Int) (y : Nat) (w3 : WSn) (u2 : WS) (Γs : Gm) (Ψ : WEnds) (Γ : Gm) : Prop := (-(2 ^ 62) ≤ j ∧ j < 2 ^ 62) ∧ ∃ I : Nat → Gm → Prop, I 0 Γ ∧
  (∀ i Γ, i < j.toNat → I i Γ → y < Γ.length ∧ w3 Γs { Ψ with nx := I (i + 1), bk := fun _ => False, ct := fun _ => False } (Γ.set y (some (.shr (.int (i : Nat)))))) ∧ ∀ Γ, I j.toNat Γ → u2 Ψ Γ
theorem sbF_ap : wSbF wA y w3 u2 Γs Ψ Γ = wA Γ (fun rs Γ1 => frzLR Γ1 rs fun ds Γ2 => match ds with | [.int j] => forA j y w3 u2 Γs Ψ Γ2 | _ => False) Ψ.xe := by
  unfold wSbF frzLR
  congr 1
  funext rs Γ1
  refine propext ⟨fun ⟨j, Γ2, h, q⟩ => ⟨_, Γ2, h, q⟩, fun ⟨ds, Γ2, h, q⟩ => ?_⟩
  dsimp only at q
  split at q
  · exact ⟨_, Γ2, h, q⟩
  · exact q.elim
theorem forA_by {j : Int} (I : Nat → Gm → Prop) (hj : -(2 ^ 62) ≤ j ∧ j < 2 ^ 62) (h0 : I 0 Γ) (hs : ∀ i Γ, i < j.toNat → I i Γ → y < Γ.length ∧ w3 Γs { Ψ with nx := I (i + 1), bk := fun _ => False, ct := fun _ => False } (Γ.set y (some (.shr (.int (i : Nat)))))) (hd : ∀ Γ, I j.toNat Γ → goR (u2 Ψ) Γ) : forA j y w3 u2 Γs Ψ Γ := ⟨hj, I, h0, hs, hd⟩
theorem ap_by {dss es : List D} {i : Nat} (hx : x < Γ.length) (gx : Γ[x]? = some (some (.shr (.lst dss)))) (gy : Γ[y]? = some (some (.shr (.int (i : Nat))))) (gi : dss[i]? = some (.lst es)) (hn : ∀ d ∈ dss, ∃ es, d = .lst es ∧ NolA es) (hl : es.length ≤ 1000) (hg : MidG m Γs Γ Γn)
    (h : Ψ.nx (Γn.set x (some (.shr (.lst (dss.set i (.lst (es ++ [.int 0])))))))) : wAp m x y Γs Ψ Γ := ⟨hx, dss, es, i, Γn, gx, gy, gi, hn, hl, hg, h⟩
end
section
variable {X : Cx} {T : Tb} {E : XK} {e a b c : Expr} {st st2 : Stmt} {sts as bs : List Stmt} {t t1' tv te : TE} {w we wh : WE} {s1 s2 : TS} {u0 u1 u2 : WS} {w2 w3 : WSn} {m : List Bool} {ks : List Nat} {x y : Nat} {tA : TA} {wA : WA} {t1 : TT} {w1 : WT} {wf : WF} {pos spos p : Pos} {es : List Expr} {z : Str} {pz : Pos} {wi : TI} {wI : WI} {g : TG} {wg : WG} {elt tg iter : Expr}
structure QEN (X : Cx) (T : Tb) (E : XK) (e : Expr) (t : TE) (w : WE) : Prop where
  pe : PE X e t
  ed : EDN T E t w
structure QSb (X : Cx) (T : Tb) (E : XK) (ks : List Nat) (x : Nat) (st : List Stmt) (t : TS) (w : WSn) : Prop where
  pe : PSs X st t
  ed : SbD T E ks x t w
structure QSa (X : Cx) (T : Tb) (E : XK) (ks : List Nat) (x : Nat) (st : List Stmt) (t : TS) (w : WSn) : Prop where
  pe : PSs X st t
  ed : SaD T E ks x t w
theorem q_nlift (h : QS X T false E st s1 u1) (hw : ∀ Ψ Γ, u1 Ψ Γ → u1 { Ψ with rt := fun _ _ => False } Γ) (h2 : QNs X T E sts s2 u2) : QNs X T E (st :: sts) (tSeq s1 s2) (wSeq u1 u2) := ⟨pss_cons h.pe h2.pe, sdn_seq (sdn_lift h.ed hw) h2.ed⟩
theorem q_nif (hc : QT X T E c t1 w1) (ha : QNs X T E as s1 u1) (h2 : QNs X T E sts s2 u2) : QNs X T E (.If c as [] pos :: sts) (tSeq (tIfS t1 s1 tNext) s2) (wSeq (wIfS w1 u1 wNext) u2) := ⟨pss_cons (ps_if hc.pe ha.pe pss_nil) h2.pe, sdn_seq (sdn_if hc.ed ha.ed sdn_next) h2.ed⟩
theorem q_nret (h : QEN X T E e t w) : QNs X T E [.Return (some e) pos] (tRet t) (wRet w) := ⟨pss_one (ps_ret h.pe), sdn_ret h.ed⟩
theorem q_callN {CX : CXT} {j k : Nat} {ps : List Str} (C : Cal X.prog X.w X.K X.mg X.base CX j z ps (spN T wf)) (hr : Room k X.A) (hx : Passes CX X E) (ha : QA X T E (e :: es) tA wA) (hg : Gl X z) (hj : j ≤ k) (hdb : (z == ("__debug__" : Str)) = false) (hs : (e :: es).any isStar = false) :
    QEN X T E (.Call (.Name z p) (e :: es) [] pos) (tCall (spN T wf) [] E tA) (wCallN wf wA) := ⟨pe_callC C hr hx ha.pe hg hj hdb hs, ed_callN ha.ed⟩
theorem q_sbA (hxk : x ∉ ks) (hN : X.N.Nodup) (hi : X.N[x]? = some z) (hz : L2.Loc X.env.scope z) (h : QEN X T E e t w) (hs : swapsWith e (some (.Name z pz)) pos.line X.env = pure false) (hf : X.fn z = true ∨ X.env.scope.names.lookup z = some .local) (h2 : QSb X T E ks x sts s2 w2) :
    QSn X T E ks none (.Assign [.Name z pz] e pos :: sts) (tSeq (tAsg t (gName x)) s2) (wSbA x w w2) := ⟨pss_cons (ps_set hN hi hz h.pe hs hf) h2.pe, sb_asg hxk h.ed h2.ed⟩
theorem q_sbS (h1 : QS X T false E st s1 u1) (hk : KeepE s1 fun i => i ∈ ks ∨ i = x) (h2 : QSb X T E ks x sts s2 w2) : QSb X T E ks x (st :: sts) (tSeq s1 s2) (wSnS u1 w2) := ⟨pss_cons h1.pe h2.pe, sb_stm h1.ed hk h2.ed⟩
theorem q_saS (h1 : QS X T false E st s1 u1) (hk : KeepE s1 fun i => i ∈ ks ∨ i = x) (h2 : QSa X T E ks x sts s2 w2) : QSa X T E ks x (st :: sts) (tSeq s1 s2) (wSnS u1 w2) := ⟨pss_cons h1.pe h2.pe, sa_stm h1.ed hk h2.ed⟩
theorem q_sbF {p' : Pos} (hp : PassesOwn (model X.prog X.w) X.A X.env X.xe) (hc : X.calm = true) (hg : Gl X "range") (hm : X.mg "range" = none) (ha : QA X T E [a] tA wA) (hst : starEach [a] X.env = [(false, eval a X.env)]) (hy : PG X tg (gName y)) (hf : ∀ v, foldedSetIterable (.Call (.Name "range" p) [a] [] p') X.env v = pure v)
    (hyk : y ∉ ks) (hyx : y ≠ x) (hb : QSa X T E ks x bs s1 w3) (h2 : QSs X T false E sts s2 u2) : QSb X T E ks x (.For tg (.Call (.Name "range" p) [a] [] p') bs [] pos :: sts) (tSeq (tFor (iRng1 tA) (gName y) s1) s2) (wSbF wA y w3 u2) :=
  ⟨pss_cons (ps_for hp hc (pi_range1 hg hm ha.pe hst) hy hb.pe hf) h2.pe, sb_for ha.ed hyk hyx hb.ed h2.ed⟩
theorem q_saP {o k v : Expr} {apos p2 : Pos} (ho : PE X o (tVar x)) (hk : PE X k (tVar y)) (hv : PE X v tv) (iv : AlwV tv (.int 0)) (hpk : PlainIx k) (hb : attributeBase (.Subscript o k p2) "append" X.env (eval (.Subscript o k p2) X.env) = eval (.Subscript o k p2) X.env) (hl : (apos.endLine == pos.line) = true) (hs : isStar v = false) (hK : X.K = T.K)
    (hw : swapsWith (.Call (.Attribute (.Subscript o k p2) "append" apos) [v] [] pos) none spos.line X.env = pure false) :
    QSa X T E (idxs m) x [.Expr (.Call (.Attribute (.Subscript o k p2) "append" apos) [v] [] pos) spos] (tDrop (tBM T.K "list" rAppend (tOp (rIx T.K) (tVar x) (tVar y)) (tCons tv tNil))) (wAp m x y) :=
  ⟨pss_one (ps_expr (hK ▸ pe_bm PySem.F.plainAttrs_list PySem.F.slot_list_append PySem.F.type_list_append mt_append (pe_ix ix_seq ho hk hpk) (pa_c hv pa_nil hs) hb (by
    rw [star_cons hs]
    rfl) hl (star_cons hs) rfl) hw), sa_put (fun i h => idxs_mem h) iv⟩
theorem QEN.toE (h : QEN X T E e t w) : QE X T E e t w := ⟨h.pe, fun F σ H Γ Q Ψ Ξ p hw x k => h.ed F σ H Γ Q Ψ Ξ p hw x fun F1 H1 Γ1 v r hr q e _ => k F1 H1 Γ1 v r hr q e⟩
theorem q_lcN {scope : Scope} {own : List (Str × Nat)} {wt : WT} (hc : X.calm = true) (hN : X.N.Nodup) (hi : QI X T E tg iter wi wI) (ok : BlkOk X.N X.env.scope scope own)
    (hg : ∀ (s : Shared) (H : Hp) (C : Addr) (cl : List (Str × Addr)) (fp : List Addr), QC (X.blk s H scope (compEnvC scope cl C X.env) fp) T (own.map (·.2)) tg g wg)
    (ht : ∀ (s : Shared) (H : Hp) (C : Addr) (cl : List (Str × Addr)) (fp : List Addr), QTs (X.blk s H scope (compEnvC scope cl C X.env) fp) T E0 [] tYes wt)
    (he : ∀ (s : Shared) (H : Hp) (C : Addr) (cl : List (Str × Addr)) (fp : List Addr), QE (X.blk s H scope (compEnvC scope cl C X.env) fp) T E0 elt te we) (hs : ∀ x, foldedSetIterable iter X.env x = pure x) :
    QEN X T E (.ListComp elt [⟨tg, iter, [], 0⟩] scope pos) (tLc wi g tYes te (own.map (·.2))) (wLcN wI wg we (own.map (·.2))) :=
  ⟨pe_lc hc hN hi.pe ok (fun s H C cl fp => (hg s H C cl fp).pe) (fun s H C cl fp => (ht s H C cl fp).pe) (fun s H C cl fp => (he s H C cl fp).pe) hs,
    ed_lcN hi.ed (hg X.s_0 (fun _ => none) 0 [] []).ed (he X.s_0 (fun _ => none) 0 [] []).ed⟩
end
end Dt
set_option Elab.async false
set_option linter.all false
set_option maxRecDepth 100000
set_option maxHeartbeats 1000000
set_option autoImplicit false
namespace Dt
open PySem PySem.Spec L2 Kx PyProof.Rows
section
variable {k : Str} {a z : Int × Int} {n : Int} {l : List Int}
theorem bnd_ln : (bndD k a z n l).length = l.length := by
  unfold bndD
  split
  · unfold shrB; rw [List.length_map, List.length_range]
  · rw [List.length_map]
theorem bnd_two {d : D} (h : d ∈ bndD k a z n l) : ∃ p q, d = .tup [frD p, frD q] := by
  unfold bndD at h
  split at h
  · obtain ⟨i, _, rfl⟩ := List.mem_map.mp h
    exact ⟨_, _, rfl⟩
  · obtain ⟨i, _, rfl⟩ := List.mem_map.mp h
    exact ⟨_, _, rfl⟩
theorem nol_fr {p : Int × Int} : Nol (frD p) := .tup (.cons (.int _) (.cons (.int _) .nil))
theorem bnd_nol : NolA (bndD k a z n l) := NolA.of fun d hd => by
  obtain ⟨p, q, rfl⟩ := bnd_two hd
  exact .tup (.cons nol_fr (.cons nol_fr .nil))
theorem two_dep {p q : Int × Int} : Dep 3 (.tup [frD p, frD q]) := by
  have f : ∀ p : Int × Int, Dep 2 (frD p) := fun p => .tup fun e he => by
    simp only [List.mem_cons, List.not_mem_nil, or_false] at he
    rcases he with rfl | rfl <;> exact .int _
  exact .tup fun e he => by
    simp only [List.mem_cons, List.not_mem_nil, or_false] at he
    rcases he with rfl | rfl <;> exact f _
end
def nghI (f : List Int → List D) (lss : List (List Int)) (i : Nat) : List D := (List.range lss.length).map fun t => .lst (if t < i then f (lss.getD t []) ++ [.int 0] else f (lss.getD t []))
theorem ngh_zero (f : List Int → List D) (lss : List (List Int)) : nghI f lss 0 = lss.map fun l => .lst (f l) := by
  rw [← rng_getD (fun l => D.lst (f l)) lss []]
  unfold nghI
  exact List.map_congr_left fun t _ => by rw [if_neg (Nat.not_lt_zero t)]
theorem ngh_get {f : List Int → List D} {lss : List (List Int)} {i : Nat} {l : List Int} (h : lss[i]? = some l) : (nghI f lss i)[i]? = some (.lst (f l)) := by
  unfold nghI
  rw [List.getElem?_map, List.getElem?_range (List.getElem?_eq_some_iff.mp h).1]
  show some (D.lst (if i < i then _ else _)) = _
  rw [if_neg (Nat.lt_irrefl i), List.getD_eq_getElem?_getD, h]
  rfl
theorem ngh_len {f : List Int → List D} {lss : List (List Int)} {i : Nat} : (nghI f lss i).length = lss.length := by unfold nghI; rw [List.length_map, List.length_range]
theorem ngh_set {f : List Int → List D} {lss : List (List Int)} {i : Nat} {l : List Int} (h : lss[i]? = some l) : (nghI f lss i).set i (.lst (f l ++ [.int 0])) = nghI f lss (i + 1) := by
  have hi := (List.getElem?_eq_some_iff.mp h).1
  refine List.ext_getElem? fun t => ?_
  by_cases z : t = i
  · subst z
    rw [List.getElem?_set_self (by rw [ngh_len]; exact hi)]
    unfold nghI
    rw [List.getElem?_map, List.getElem?_range hi]
    show _ = some (D.lst (if t < t + 1 then _ else _))
    rw [if_pos (Nat.lt_succ_self t), List.getD_eq_getElem?_getD, h]
    rfl
  · rw [List.getElem?_set_ne (Ne.symm z)]
    unfold nghI
    rw [List.getElem?_map, List.getElem?_map]
    by_cases ht : t < lss.length
    · rw [List.getElem?_range ht]
      show some (D.lst (if t < i then _ else _)) = some (D.lst (if t < i + 1 then _ else _))
      by_cases q : t < i
      · rw [if_pos q, if_pos (by omega)]
      · rw [if_neg q, if_neg (by omega)]
    · rw [List.getElem?_eq_none (by rw [List.length_range]; omega)]
      rfl
theorem ngh_nol {f : List Int → List D} {lss : List (List Int)} {i : Nat} (h : ∀ l, NolA (f l)) : ∀ d ∈ nghI f lss i, ∃ es, d = .lst es ∧ NolA es := fun d hd => by
  obtain ⟨t, _, rfl⟩ := List.mem_map.mp hd
  refine ⟨_, rfl, ?_⟩
  split
  · refine NolA.of fun e he => ?_
    rcases List.mem_append.mp he with q | q
    · have : ∀ {ds : List D}, NolA ds → ∀ e ∈ ds, Nol e := fun {ds} hn => by
        induction ds with
        | nil => intro e he; cases he
        | cons d ds ih =>
          obtain ⟨h1, h2⟩ := hn.inv
          intro e he
          rcases List.mem_cons.mp he with rfl | he
          · exact h1
          · exact ih h2 e he
      exact this (h _) e q
    · rw [List.mem_singleton.mp q]
      exact .int 0
  · exact h _
theorem rep_int (s : Int) : ∀ L : List (List Int), (List.replicate L.length [D.int s]).flatten = (L.map fun _ => s).map D.int
  | [] => rfl
  | _ :: L => by rw [List.length_cons, List.replicate_succ, List.flatten_cons, rep_int s L]; rfl
end Dt
set_option Elab.async false
set_option linter.all false
set_option maxRecDepth 100000
set_option maxHeartbeats 4000000
namespace Law
open PySem L2 Kx Dt
local macro_rules | `(tactic| walk_at "ev") => `(tactic| (try simp only [↓endN_rt, ↓newRR_ap, ↓lcN_ap, ↓callN_ap, ↓sbF_ap, ↓shr_cons, ↓shrE_none, ↓shrE_shr, ↓shrE_own, ↓sn0_ap, ↓snS_ap, ↓noOwn_nil, ↓noOwn_cons, ↓noOwnE_none, ↓noOwnE_shr, ↓noOwnE_own, ↓shr_nil, ↓shr_none, ↓shr_shr, ↓shr_own, ↓disiN_ap, ↓BL_ap, ↓lstQ_lst, ↓slK_ap, ↓dSlK_ap, ↓inDeep_ap, ↓leS_ap, ↓chain3_ap, ↓fr_ix0, ↓fr_ix1, ↓fr_gT, ↓fr_isi, ↓two_ap, ↓sc_low, ↓sc_high, ↓sc_rows, ↓meth_ap, ↓make_ap, ↓inSeq_ap, ↓inIf_ap, ↓inDrop_ap, ↓inPut_ap, ↓startI_ap, ↓flat_ap, ↓ext_ap, ↓newR_new, ↓isC_ap, ↓izT_ap, ↓drepT_ap, ↓dslT_ap, ↓dcatT_ap, ↓dslTA_ap, ↓dcatA_ap, ↓dpad_int, ↓drstr_str, ↓inS_str, ↓fstr_ap, ↓j0_ap, ↓jT_ap, ↓jV_ap, ↓fmt_str, ↓fmt_int, ↓izG_ap, ↓src_lst, ↓src_tup, ↓src_str, ↓iz3_ap, ↓irv_ap, ↓drepS_ap, ↓BS_ap, ↓txR_val, ↓ddm_ap, ↓drepN_ap, ↓revS_ap, ↓dpart_str, ↓dstrC_str, ↓allG_ap, ↓lenSet_ap, ↓dfind_str, ↓ljF_ap, ↓drmp_str, ↓dcount_str, ↓dsplit_str, ↓ieC_ap, ↓isB_ap, ↓seq_ap, ↓next_ap, ↓brk_ap, ↓cnt_ap, ↓drop_ap, ↓ret_ap, ↓retN_ap, ↓ifS_ap, ↓set_ap, ↓asg_ap, ↓putAt_ap, ↓par_ap, ↓aug_ap, ↓augAt_ap, ↓C_ap, ↓op_ap, ↓un_ap, ↓B_ap, ↓cmp_ap, ↓not_ap, ↓and_ap, ↓or_ap, ↓if_ap, ↓andV_ap, ↓orV_ap, ↓notV_ap, ↓chain_ap, ↓nil_ap, ↓cons_ap, ↓cb_ap, ↓tup_ap, ↓lst_ap, ↓call_ap, ↓callF, ↓callT, ↓sl_ap, ↓noP_ap, ↓prt_ap, ↓m1_ap, ↓rev_ap, ↓clr_ap, ↓app_ap, ↓gN_ap, ↓gT_ap, ↓g0_ap, ↓g1_ap, ↓il_ap, ↓it_ap, ↓ir1_ap, ↓ir2_ap, ↓is_ap, ↓ie_ap, ↓iz_ap, ↓for_ap, ↓lc_ap, ↓lcO_ap, ↓var_ap, ↓end_rt, ↓end_nx, ↓retT_val, ↓retT_new, ↓retT_slot, ↓retF_val, ↓retF_new, ↓retF_slot, ↓getR_val, ↓getR_new, ↓getR_slot, ↓blR_val, ↓intR_val, ↓strR_val, ↓frzR_val, ↓frzR_new, ↓frzR_slot, ↓atsR_nil, ↓atsR_cons, ↓frzLR_nil, ↓frzLR_cons, ↓ownR_ap, ↓shrR_ap, ↓anyR_ap, ↓ixR_ap, ↓atR_ap, ↓iteR_true, ↓iteR_false, ↓sideR_true, ↓put_val', ↓put_new', ↓put_slot, ↓I0_int, ↓I_ap, ↓B_int, ↓bod_eq, ↓sc_int, ↓sc_str, ↓sc_bl, ↓dx_lst, ↓dx_scr, ↓dx_tup, ↓dx_str, ↓len_lst, ↓len_tup, ↓len_scr, ↓dlen_str, ↓one_int, ↓two_int, ↓isi_ap, ↓din_tup, ↓din_lst, ↓daddS, ↓dcat, ↓dneg_int, ↓list_lst, ↓list_tup, ↓dtuple_lst, ↓dtuple_tup, ↓sl_lst, ↓dsl_str, ↓isN_non, ↓deq_ap, ↓dStrI_ap, ↓dInt1_bl, ↓dInt1_int, ↓drep_ap, ↓djoin_ap, startT, startF, goR_ap, varM_shr, varM_own, getM_shr, getM_own, frzM_shr, frzM_own, ownM_own, shrM_shr, anyM_some, ixM_some, atM_some, boM_some, retM_shr, retM_own, isi_int_int, isi_int_bool, isi_int_str, isi_int_tuple, isi_bl_int, isi_bl_bool, isi_bl_str, isi_bl_tuple, isi_str_int, isi_str_bool, isi_str_str, isi_str_tuple, isi_lst, isi_tup, v_int, v_str, v_bl, v_non, fl_int, fl_str, fl_bl, fl_non, List.all_cons, List.all_nil, Bool.and_self, end_xe, hold_val, hold_new, hold_slot, ix0, ix1, ix2, ixN_0, ixN_1, ixN_2, List.map_cons, List.map_nil, List.length_cons, List.length_nil, List.cons_append, List.nil_append, List.replicate_succ, List.replicate_zero, List.getElem?_cons_zero, List.getElem?_cons_succ, List.getElem?_nil, List.set_cons_zero, List.set_cons_succ, List.set_nil, and_true, true_and, reduceIte, reduceCtorEq, Bool.false_eq_true, Bool.not_true, Bool.not_false, if_true, if_false, Nat.zero_add, Nat.reduceAdd, Nat.reduceSub, wipeG, rstG]))
local macro_rules | `(tactic| walk_at "side") => `(tactic| first
  | assumption
  | exact ⟨by decide, by decide, by decide⟩
  | exact ⟨by decide, by decide⟩
  | (show (0 : Int) < _; decide)
  | (show (0 : Int) < _; omega)
  | exact Or.inr (Or.inr ⟨by omega, by omega⟩)
  | exact Or.inr (Or.inl ⟨by omega, by omega⟩)
  | exact ⟨by omega, Bd.mono (n := 8000) (m := 400) (by unfold Bd; omega) (by decide)⟩
  | exact ⟨by omega, by omega⟩
  | exact Nat.le_trans (m := 1000) (by simp) (by decide)
  | (show _ ≤ 16777216; omega)
  | rfl
  | decide)
local macro_rules | `(tactic| walk_at "sd") => `(tactic| (refine sideR_by (by walk_at "side") fun _ => ?_; walk_at "ev"))
def top (i : Nat) : Stmt := PySem.Challenge.pw_chartscribe_k49_stretches_told.main.body.getD i (.Pass ⟨0, 0, 0, 0⟩)
abbrev LSK (K : PySem.W.Frag) : List (Addr × Pos × Str) := []
def wf__law_low : WF := fun ds row Ψ Ξ => ∃ t b : Int, ds = [.int t, .int b] ∧ b ≠ 0 ∧ Bd 3100 t ∧ Bd 3100 b ∧ Ψ (.val (frD (lowT t b, lowB t b))) []
def wf__law_names : WF := fun ds row Ψ Ξ => ∃ (m N : Int), ds = [.int m] ∧ RowD N row ∧ 0 ≤ N ∧ N < 2 ^ 40 ∧ 1 ≤ m ∧ m ≤ 12 ∧ ∀ (ss : List Str) row', (ss.length : Int) = m → (∀ s ∈ ss, Nm s) → ss.Nodup → RowD (N + 20) row' → Ψ (.new (ss.map .str)) row'
def wf__law_marks : WF := wf_glMarks
def wf__law_plan : WF := wf_glPlan
def wf__law_copy : WF := wf_glCopy
def wf_Scale_stretch : WF := wf_Scale_stretchC
def wf_share_stretches : WF := wf_share_stretchesC
def wf_stretches_of : WF := wf_stretches_ofC
def wf__law_whole : WF := fun ds row Ψ Ξ => ∃ i : Int, ds = [.int i] ∧ Ψ (.val (.bl true)) []
def wf__law_is_fraction : WF := fun ds row Ψ Ξ => ∃ p : Int × Int, ds = [frD p] ∧ Ψ (.val (.bl true)) []
def wf__law_standing : WF := fun ds row Ψ Ξ => ∃ t b t2 b2 n c : Int, ds = [frD (t, b), frD (t2, b2), .int n, .tup [.int c, .int 2]] ∧ ScB t b t2 b2 n ∧ Bd 20 c ∧ Ψ (.val (frD (at2 (t, b) (t2, b2) n c))) []
def wf__law_due : WF := fun ds row Ψ Ξ => ∃ (k : Str) (w n : Int) (j : Nat) (f : Int) (m : Nat) (lss : List (List Int)) (xs : List (Option Str)) (ss : List Str) (b a : Nat) (l : List Int) (d : D), ds = [planD k w n (plMs (Kx.R j) f m) lss xs ss, .int (b : Nat), .int (a : Nat)] ∧ GPl k w n j f m lss xs ss ∧ lss[b]? = some l ∧ (bndD k (mkP (Kx.R j * f)) (mkP (Kx.R j * (f + (m - 1)))) n l)[a]? = some d ∧ a < l.length ∧ Ψ (.val d) []
def wf_law : WF := fun ds row Ψ Ξ => ∃ ns : List Int, ds = [.scr (ns.map .int)] ∧ ns.length ≤ 63 ∧ Ψ (.val (.bl true)) []
def w_is_whole : WS := (wRet (wAndV (wCB dIsi (wACons (wVar 0) (wACons (wC (.ty "int")) wANil))) (wNotV (wCB dIsi (wACons (wVar 0) (wACons (wC (.ty "bool")) wANil))))))
theorem d_is_whole : ∀ ds row Ψ Ξ, wf_is_whole ds row Ψ Ξ → goR (w_is_whole (endsW false Ψ fun _ => False)) (startW false 1 ds row) := by
  rintro ds row Ψ Ξ ⟨t, rfl, q⟩
  unfold w_is_whole
  walk_at "ev"
  exact q
abbrev s_is_whole : Stmt := top 4
theorem sc_is_whole : FnScope ["thing"] ["thing"] (defScope s_is_whole) := ⟨rfl, rfl, rfl, by decide +kernel, rfl, by decide +kernel, by decide +kernel⟩
theorem ok_is_whole {P : Program} {w : World} {K : PySem.W.Frag} {mg : Str → Option Value} {base : Heap} {ts : List Addr} {f : Addr} {fd : FuncData} (F : Fun K "is_whole" "is_whole" s_is_whole f fd)  (z_isinstance : mg "isinstance" = none) (z_int : mg "int" = none) (z_bool : mg "bool" = none) : FnOk P w K mg base (CXE P w) 1 f fd ["thing"] (spD ⟨K, ts, LSK K⟩ false wf_is_whole) := by
  have nd := (sc_is_whole).nd
  refine fn_d F sc_is_whole (by decide) (fun ds row Ψ Ξ h => by first | (obtain ⟨rfl, _⟩ := h; rfl) | (obtain ⟨_, rfl, _⟩ := h; rfl) | (obtain ⟨_, _, rfl, _⟩ := h; rfl) | (obtain ⟨_, _, _, rfl, _⟩ := h; rfl) | (obtain ⟨_, _, _, _, rfl, _⟩ := h; rfl) | (obtain ⟨_, _, _, _, _, rfl, _⟩ := h; rfl) | (obtain ⟨_, _, _, _, _, _, rfl, _⟩ := h; rfl) | (obtain ⟨_, _, _, _, _, _, _, rfl, _⟩ := h; rfl) | (obtain ⟨_, _, _, _, _, _, _, _, rfl, _⟩ := h; rfl) | (obtain ⟨_, _, _, _, _, _, _, _, _, rfl, _⟩ := h; rfl) | (obtain ⟨_, _, _, _, _, _, _, _, _, _, rfl, _⟩ := h; rfl) | (obtain ⟨_, _, _, _, _, _, _, _, _, _, _, rfl, _⟩ := h; rfl) | (obtain ⟨_, _, _, _, _, _, _, _, _, _, _, _, rfl, _⟩ := h; rfl) | (obtain ⟨_, _, _, _, _, _, _, _, _, _, _, _, _, rfl, _⟩ := h; rfl)) d_is_whole (fun cdv A outer s H E hr => ⟨_, (q_s1 (q_ret (q_andV (q_cB (call_isiK (by rfl)) cd_isi (by rfl) z_isinstance (by decide +kernel) (q_cons (q_v 0 (pv 0)) (q_cons (q_glob (pe_bltn (v := .ty "int") (by rfl) z_int (by decide +kernel) rfl) (fun _ => .ty _)) q_nil (by rfl)) (by rfl)) (by decide) (by decide) (by rfl)) (q_one (q_notV (q_cB (call_isiK (by rfl)) cd_isi (by rfl) z_isinstance (by decide +kernel) (q_cons (q_v 0 (pv 0)) (q_cons (q_glob (pe_bltn (v := .ty "bool") (by rfl) z_bool (by decide +kernel) rfl) (fun _ => .ty _)) q_nil (by rfl)) (by rfl)) (by decide) (by decide) (by rfl)))))))⟩)
def w_common_divisor : WS := (wSeq (wWhile (wCmp (bSc not) (wVar 1) (wC (.int 0))) (wPar 0 1 (wACons (wVar 1) (wACons (wOp dMod (wVar 0) (wVar 1)) wANil))))
  (wRet (wVar 0)))
theorem d_common_divisor : ∀ ds row Ψ Ξ, wf_common_divisor ds row Ψ Ξ → goR (w_common_divisor (endsW false Ψ fun _ => False)) (startW false 2 ds row) := by
  rintro ds row Ψ Ξ ⟨x, y, rfl, x0, y0, q⟩
  unfold w_common_divisor
  refine ⟨fun m Γ => ∃ (x' y' : Int), Γ = [some (En.shr (D.int x')), some (En.shr (D.int y'))] ∧ 0 ≤ x' ∧ 0 ≤ y' ∧ m = y'.toNat ∧ Nat.gcd x'.toNat y'.toNat = Int.gcd x y, ⟨_, x, y, rfl, x0, y0, rfl, ?_⟩, ?_⟩
  · unfold Int.gcd
    congr 1 <;> omega
  rintro m Γ ⟨x', y', rfl, hx, hy, rfl, hg⟩
  walk_at "ev"
  by_cases h0 : y' = 0
  · subst h0
    simp only [decide_true, Bool.not_true]
    walk_at "ev"
    have e : x' = ((Int.gcd x y : Nat) : Int) := by
      rw [← hg]
      simp
      omega
    rw [e]
    exact q
  · simp only [h0, decide_false, Bool.not_false]
    walk_at "ev"
    refine sideR_by (show 0 < y' by omega) fun _ => ?_
    walk_at "ev"
    have h1 := Int.emod_nonneg x' h0
    have h2 := Int.emod_lt_of_pos x' (show 0 < y' by omega)
    refine ⟨(x' % y').toNat, by omega, _, _, rfl, hy, h1, rfl, ?_⟩
    have e : (x' % y').toNat = x'.toNat % y'.toNat := by
      have := Int.toNat_emod hx hy
      omega
    rw [e]
    exact gcd_step hg (by omega)
abbrev s_common_divisor : Stmt := top 5
theorem sc_common_divisor : FnScope ["one", "other"] ["one", "other"] (defScope s_common_divisor) := ⟨rfl, rfl, rfl, by decide +kernel, rfl, by decide +kernel, by decide +kernel⟩
theorem ok_common_divisor {P : Program} {w : World} {K : PySem.W.Frag} {mg : Str → Option Value} {base : Heap} {ts : List Addr} {f : Addr} {fd : FuncData} (F : Fun K "common_divisor" "common_divisor" s_common_divisor f fd)   : FnOk P w K mg base (CXE P w) 1 f fd ["one", "other"] (spD ⟨K, ts, LSK K⟩ false wf_common_divisor) := by
  have nd := (sc_common_divisor).nd
  refine fn_d F sc_common_divisor (by decide) (fun ds row Ψ Ξ h => by first | (obtain ⟨rfl, _⟩ := h; rfl) | (obtain ⟨_, rfl, _⟩ := h; rfl) | (obtain ⟨_, _, rfl, _⟩ := h; rfl) | (obtain ⟨_, _, _, rfl, _⟩ := h; rfl) | (obtain ⟨_, _, _, _, rfl, _⟩ := h; rfl) | (obtain ⟨_, _, _, _, _, rfl, _⟩ := h; rfl) | (obtain ⟨_, _, _, _, _, _, rfl, _⟩ := h; rfl) | (obtain ⟨_, _, _, _, _, _, _, rfl, _⟩ := h; rfl) | (obtain ⟨_, _, _, _, _, _, _, _, rfl, _⟩ := h; rfl) | (obtain ⟨_, _, _, _, _, _, _, _, _, rfl, _⟩ := h; rfl) | (obtain ⟨_, _, _, _, _, _, _, _, _, _, rfl, _⟩ := h; rfl) | (obtain ⟨_, _, _, _, _, _, _, _, _, _, _, rfl, _⟩ := h; rfl) | (obtain ⟨_, _, _, _, _, _, _, _, _, _, _, _, rfl, _⟩ := h; rfl) | (obtain ⟨_, _, _, _, _, _, _, _, _, _, _, _, _, rfl, _⟩ := h; rfl)) d_common_divisor (fun cdv A outer s H E hr => ⟨_, (q_sc (q_while PassesOwn.never (q_cmpT op_ne bd_ne (q_v 1 (pv 1)) q_int (nomark _)) (q_s1 (q_par (i := 0) (j := 1) (by rfl) nd rfl rfl (by decide) rfl rfl (q_cons (q_v 1 (pv 1)) (q_cons (q_op op_mod od_mod (q_v 0 (pv 0)) (q_v 1 (pv 1))) q_nil (by rfl)) (by rfl)) (Or.inr rfl) (by rfl) (by rfl))))
      (q_s1 (q_ret (q_v 0 (pv 0)))))⟩)
def w_fraction : WS := (wSeq (wIfS (wOr (wNot (wB (wCall false wf_is_whole (wACons (wVar 0) wANil)))) (wNot (wB (wCall false wf_is_whole (wACons (wVar 1) wANil))))) (fun _ _ => False) wNext)
  (wSeq (wIfS (wCmp (bSc id) (wVar 1) (wC (.int 0))) (fun _ _ => False) wNext)
  (wSeq (wSet 2 (wCall false wf_common_divisor (wACons (wCB dAbs (wACons (wVar 0) wANil)) (wACons (wCB dAbs (wACons (wVar 1) wANil)) wANil))))
  (wSeq (wIfS (wCmp bLt (wVar 1) (wC (.int 0))) (wSet 2 (wUn dNeg (wVar 2))) wNext)
  (wRet (wTup (wACons (wOp dDivB (wVar 0) (wVar 2)) (wACons (wOp dDivB (wVar 1) (wVar 2)) wANil))))))))
theorem d_fraction : ∀ ds row Ψ Ξ, wf_fraction ds row Ψ Ξ → goR (w_fraction (endsW false Ψ fun _ => False)) (startW false 3 ds row) := by
  rintro ds row Ψ Ξ ⟨t, b, rfl, bt, bb, b0, q⟩
  unfold w_fraction
  walk_at "ev"
  refine ⟨t, rfl, ?_⟩
  walk_at "ev"
  refine ⟨b, rfl, ?_⟩
  walk_at "ev"
  simp only [b0, decide_false, id]
  walk_at "ev"
  refine ⟨_, _, rfl, by split <;> omega, by split <;> omega, ?_⟩
  rw [gcd_abs]
  walk_at "ev"
  have hpos : 0 < Int.gcd t b := Int.gcd_pos_of_ne_zero_right t b0
  have hb : Bd 3100 ((Int.gcd t b : Nat) : Int) := by
    have : Int.gcd t b ≤ b.natAbs := Nat.gcd_le_right _ (by omega)
    unfold Bd at *
    omega
  refine iteR_by (fun h => ?_) (fun h => ?_)
  · have h := of_decide_eq_true h
    walk_at "ev"
    refine sideR_by ⟨by omega, (Bd.mono (m := 3101) (by unfold Bd at *; omega) (by decide))⟩ fun _ => ?_
    walk_at "ev"
    refine sideR_by ⟨by omega, (Bd.mono (m := 3101) (by unfold Bd at *; omega) (by decide))⟩ fun _ => ?_
    walk_at "ev"
    walk_at "sd"
    rw [show -((Int.gcd t b : Nat) : Int) = lowG t b by unfold lowG; rw [if_pos h]]
    exact q
  · have h := of_decide_eq_false h
    walk_at "ev"
    refine sideR_by ⟨by omega, hb.mono⟩ fun _ => ?_
    walk_at "ev"
    refine sideR_by ⟨by omega, hb.mono⟩ fun _ => ?_
    walk_at "ev"
    walk_at "sd"
    rw [show ((Int.gcd t b : Nat) : Int) = lowG t b by unfold lowG; rw [if_neg h]]
    exact q
abbrev s_fraction : Stmt := top 6
theorem sc_fraction : FnScope ["top", "bottom", "shared"] ["top", "bottom"] (defScope s_fraction) := ⟨rfl, rfl, rfl, by decide +kernel, rfl, by decide +kernel, by decide +kernel⟩
theorem ok_fraction {P : Program} {w : World} {K : PySem.W.Frag} {mg : Str → Option Value} {base : Heap} {ts : List Addr} {f : Addr} {fd : FuncData} (F : Fun K "fraction" "fraction" s_fraction f fd) (C_is_whole : Cal P w K mg base (CXE P w) 1 "is_whole" ["thing"] (spD ⟨K, ts, LSK K⟩ false wf_is_whole)) (C_common_divisor : Cal P w K mg base (CXE P w) 1 "common_divisor" ["one", "other"] (spD ⟨K, ts, LSK K⟩ false wf_common_divisor)) (z_abs : mg "abs" = none) : FnOk P w K mg base (CXE P w) 2 f fd ["top", "bottom"] (spD ⟨K, ts, LSK K⟩ false wf_fraction) := by
  have nd := (sc_fraction).nd
  refine fn_d F sc_fraction (by decide) (fun ds row Ψ Ξ h => by first | (obtain ⟨rfl, _⟩ := h; rfl) | (obtain ⟨_, rfl, _⟩ := h; rfl) | (obtain ⟨_, _, rfl, _⟩ := h; rfl) | (obtain ⟨_, _, _, rfl, _⟩ := h; rfl) | (obtain ⟨_, _, _, _, rfl, _⟩ := h; rfl) | (obtain ⟨_, _, _, _, _, rfl, _⟩ := h; rfl) | (obtain ⟨_, _, _, _, _, _, rfl, _⟩ := h; rfl) | (obtain ⟨_, _, _, _, _, _, _, rfl, _⟩ := h; rfl) | (obtain ⟨_, _, _, _, _, _, _, _, rfl, _⟩ := h; rfl) | (obtain ⟨_, _, _, _, _, _, _, _, _, rfl, _⟩ := h; rfl) | (obtain ⟨_, _, _, _, _, _, _, _, _, _, rfl, _⟩ := h; rfl) | (obtain ⟨_, _, _, _, _, _, _, _, _, _, _, rfl, _⟩ := h; rfl) | (obtain ⟨_, _, _, _, _, _, _, _, _, _, _, _, rfl, _⟩ := h; rfl) | (obtain ⟨_, _, _, _, _, _, _, _, _, _, _, _, _, rfl, _⟩ := h; rfl)) d_fraction (fun cdv A outer s H E hr => ⟨_, (q_sc (q_ifS (QW.tst (q_or (q_tnot (q_tv (q_call C_is_whole hr passE0 (q_cons (q_v 0 (pv 0)) q_nil (by rfl)) (by rfl) (by decide) (by decide) (by rfl)) (by rfl))) (q_or1 (q_tnot (q_tv (q_call C_is_whole hr passE0 (q_cons (q_v 1 (pv 1)) q_nil (by rfl)) (by rfl) (by decide) (by decide) (by rfl)) (by rfl)))))) (q_s1 q_never) q_s0)
      (q_sc (q_ifS (q_cmpT op_eq bd_eq (q_v 1 (pv 1)) q_int (nomark _)) (q_s1 q_never) q_s0)
      (q_sc (q_set (i := 2) nd rfl (Or.inl rfl) (q_call C_common_divisor hr passE0 (q_cons (q_cB call_abs cd_abs (by rfl) z_abs (by decide +kernel) (q_cons (q_v 0 (pv 0)) q_nil (by rfl)) (by decide) (by decide) (by rfl)) (q_cons (q_cB call_abs cd_abs (by rfl) z_abs (by decide +kernel) (q_cons (q_v 1 (pv 1)) q_nil (by rfl)) (by decide) (by decide) (by rfl)) q_nil (by rfl)) (by rfl)) (by rfl) (by decide) (by decide) (by rfl)) (Or.inl (by decide)) (by rfl) (by first | exact .inl rfl | exact .inr rfl))
      (q_sc (q_ifS (q_cmpT op_lt bd_lt (q_v 1 (pv 1)) q_int (nomark _)) (q_s1 (q_set (i := 2) nd rfl (Or.inl rfl) (q_un un_neg ud_neg (q_v 2 (pv 2))) (Or.inl (by decide)) (by rfl) (by first | exact .inl rfl | exact .inr rfl))) q_s0)
      (q_s1 (q_ret (q_tup (q_cons (q_op op_fdivB od_divB (q_v 0 (pv 0)) (q_v 2 (pv 2))) (q_cons (q_op op_fdivB od_divB (q_v 1 (pv 1)) (q_v 2 (pv 2))) q_nil (by rfl)) (by rfl)))))))))⟩)
def w_plus : WS := (wRet (wCall false wf_fraction (wACons (wOp dAdd (wOp dMul (wOp dIx (wVar 0) (wC (.int 0))) (wOp dIx (wVar 1) (wC (.int 1)))) (wOp dMul (wOp dIx (wVar 1) (wC (.int 0))) (wOp dIx (wVar 0) (wC (.int 1))))) (wACons (wOp dMul (wOp dIx (wVar 0) (wC (.int 1))) (wOp dIx (wVar 1) (wC (.int 1)))) wANil))))
theorem d_plus : ∀ ds row Ψ Ξ, wf_plus ds row Ψ Ξ → goR (w_plus (endsW false Ψ fun _ => False)) (startW false 2 ds row) := by
  rintro ds row Ψ Ξ ⟨a, b, c, d, rfl, ⟨⟨ba, bb, bc, bd⟩, b0, d0⟩, q⟩
  unfold w_plus
  walk_at "ev"
  refine sideR_by (.inl ⟨ba.mono, bd.mono⟩) fun _ => ?_
  walk_at "ev"
  refine sideR_by (.inl ⟨bc.mono, bb.mono⟩) fun _ => ?_
  walk_at "ev"
  refine sideR_by (.inl ⟨bb.mono, bd.mono⟩) fun _ => ?_
  walk_at "ev"
  refine ⟨_, _, rfl, ((ba.mul bd).add (bc.mul bb)).mono, (bb.mul bd).mono, bnd_ne b0 d0, ?_⟩
  walk_at "ev"
  exact q
abbrev s_plus : Stmt := top 7
theorem sc_plus : FnScope ["one", "other"] ["one", "other"] (defScope s_plus) := ⟨rfl, rfl, rfl, by decide +kernel, rfl, by decide +kernel, by decide +kernel⟩
theorem ok_plus {P : Program} {w : World} {K : PySem.W.Frag} {mg : Str → Option Value} {base : Heap} {ts : List Addr} {f : Addr} {fd : FuncData} (F : Fun K "plus" "plus" s_plus f fd) (C_fraction : Cal P w K mg base (CXE P w) 2 "fraction" ["top", "bottom"] (spD ⟨K, ts, LSK K⟩ false wf_fraction))  : FnOk P w K mg base (CXE P w) 3 f fd ["one", "other"] (spD ⟨K, ts, LSK K⟩ false wf_plus) := by
  have nd := (sc_plus).nd
  refine fn_d F sc_plus (by decide) (fun ds row Ψ Ξ h => by first | (obtain ⟨rfl, _⟩ := h; rfl) | (obtain ⟨_, rfl, _⟩ := h; rfl) | (obtain ⟨_, _, rfl, _⟩ := h; rfl) | (obtain ⟨_, _, _, rfl, _⟩ := h; rfl) | (obtain ⟨_, _, _, _, rfl, _⟩ := h; rfl) | (obtain ⟨_, _, _, _, _, rfl, _⟩ := h; rfl) | (obtain ⟨_, _, _, _, _, _, rfl, _⟩ := h; rfl) | (obtain ⟨_, _, _, _, _, _, _, rfl, _⟩ := h; rfl) | (obtain ⟨_, _, _, _, _, _, _, _, rfl, _⟩ := h; rfl) | (obtain ⟨_, _, _, _, _, _, _, _, _, rfl, _⟩ := h; rfl) | (obtain ⟨_, _, _, _, _, _, _, _, _, _, rfl, _⟩ := h; rfl) | (obtain ⟨_, _, _, _, _, _, _, _, _, _, _, rfl, _⟩ := h; rfl) | (obtain ⟨_, _, _, _, _, _, _, _, _, _, _, _, rfl, _⟩ := h; rfl) | (obtain ⟨_, _, _, _, _, _, _, _, _, _, _, _, _, rfl, _⟩ := h; rfl)) d_plus (fun cdv A outer s H E hr => ⟨_, (q_s1 (q_ret (q_call C_fraction hr passE0 (q_cons (q_op op_add od_add (q_op op_mulB od_mul (q_ix (ix_seqK (by rfl)) od_ix (q_v 0 (pv 0)) q_int (fun _ _ => rfl)) (q_ix (ix_seqK (by rfl)) od_ix (q_v 1 (pv 1)) q_int (fun _ _ => rfl))) (q_op op_mulB od_mul (q_ix (ix_seqK (by rfl)) od_ix (q_v 1 (pv 1)) q_int (fun _ _ => rfl)) (q_ix (ix_seqK (by rfl)) od_ix (q_v 0 (pv 0)) q_int (fun _ _ => rfl)))) (q_cons (q_op op_mulB od_mul (q_ix (ix_seqK (by rfl)) od_ix (q_v 0 (pv 0)) q_int (fun _ _ => rfl)) (q_ix (ix_seqK (by rfl)) od_ix (q_v 1 (pv 1)) q_int (fun _ _ => rfl))) q_nil (by rfl)) (by rfl)) (by rfl) (by decide) (by decide) (by rfl))))⟩)
def w_less : WS := (wRet (wCall false wf_fraction (wACons (wOp dSub (wOp dMul (wOp dIx (wVar 0) (wC (.int 0))) (wOp dIx (wVar 1) (wC (.int 1)))) (wOp dMul (wOp dIx (wVar 1) (wC (.int 0))) (wOp dIx (wVar 0) (wC (.int 1))))) (wACons (wOp dMul (wOp dIx (wVar 0) (wC (.int 1))) (wOp dIx (wVar 1) (wC (.int 1)))) wANil))))
theorem d_less : ∀ ds row Ψ Ξ, wf_less ds row Ψ Ξ → goR (w_less (endsW false Ψ fun _ => False)) (startW false 2 ds row) := by
  rintro ds row Ψ Ξ ⟨a, b, c, d, rfl, ⟨⟨ba, bb, bc, bd⟩, b0, d0⟩, q⟩
  unfold w_less
  walk_at "ev"
  refine sideR_by (.inl ⟨ba.mono, bd.mono⟩) fun _ => ?_
  walk_at "ev"
  refine sideR_by (.inl ⟨bc.mono, bb.mono⟩) fun _ => ?_
  walk_at "ev"
  refine sideR_by (.inl ⟨bb.mono, bd.mono⟩) fun _ => ?_
  walk_at "ev"
  refine ⟨_, _, rfl, ((ba.mul bd).sub (bc.mul bb)).mono, (bb.mul bd).mono, bnd_ne b0 d0, ?_⟩
  walk_at "ev"
  exact q
abbrev s_less : Stmt := top 8
theorem sc_less : FnScope ["one", "other"] ["one", "other"] (defScope s_less) := ⟨rfl, rfl, rfl, by decide +kernel, rfl, by decide +kernel, by decide +kernel⟩
theorem ok_less {P : Program} {w : World} {K : PySem.W.Frag} {mg : Str → Option Value} {base : Heap} {ts : List Addr} {f : Addr} {fd : FuncData} (F : Fun K "less" "less" s_less f fd) (C_fraction : Cal P w K mg base (CXE P w) 2 "fraction" ["top", "bottom"] (spD ⟨K, ts, LSK K⟩ false wf_fraction))  : FnOk P w K mg base (CXE P w) 3 f fd ["one", "other"] (spD ⟨K, ts, LSK K⟩ false wf_less) := by
  have nd := (sc_less).nd
  refine fn_d F sc_less (by decide) (fun ds row Ψ Ξ h => by first | (obtain ⟨rfl, _⟩ := h; rfl) | (obtain ⟨_, rfl, _⟩ := h; rfl) | (obtain ⟨_, _, rfl, _⟩ := h; rfl) | (obtain ⟨_, _, _, rfl, _⟩ := h; rfl) | (obtain ⟨_, _, _, _, rfl, _⟩ := h; rfl) | (obtain ⟨_, _, _, _, _, rfl, _⟩ := h; rfl) | (obtain ⟨_, _, _, _, _, _, rfl, _⟩ := h; rfl) | (obtain ⟨_, _, _, _, _, _, _, rfl, _⟩ := h; rfl) | (obtain ⟨_, _, _, _, _, _, _, _, rfl, _⟩ := h; rfl) | (obtain ⟨_, _, _, _, _, _, _, _, _, rfl, _⟩ := h; rfl) | (obtain ⟨_, _, _, _, _, _, _, _, _, _, rfl, _⟩ := h; rfl) | (obtain ⟨_, _, _, _, _, _, _, _, _, _, _, rfl, _⟩ := h; rfl) | (obtain ⟨_, _, _, _, _, _, _, _, _, _, _, _, rfl, _⟩ := h; rfl) | (obtain ⟨_, _, _, _, _, _, _, _, _, _, _, _, _, rfl, _⟩ := h; rfl)) d_less (fun cdv A outer s H E hr => ⟨_, (q_s1 (q_ret (q_call C_fraction hr passE0 (q_cons (q_op op_sub od_sub (q_op op_mulB od_mul (q_ix (ix_seqK (by rfl)) od_ix (q_v 0 (pv 0)) q_int (fun _ _ => rfl)) (q_ix (ix_seqK (by rfl)) od_ix (q_v 1 (pv 1)) q_int (fun _ _ => rfl))) (q_op op_mulB od_mul (q_ix (ix_seqK (by rfl)) od_ix (q_v 1 (pv 1)) q_int (fun _ _ => rfl)) (q_ix (ix_seqK (by rfl)) od_ix (q_v 0 (pv 0)) q_int (fun _ _ => rfl)))) (q_cons (q_op op_mulB od_mul (q_ix (ix_seqK (by rfl)) od_ix (q_v 0 (pv 0)) q_int (fun _ _ => rfl)) (q_ix (ix_seqK (by rfl)) od_ix (q_v 1 (pv 1)) q_int (fun _ _ => rfl))) q_nil (by rfl)) (by rfl)) (by rfl) (by decide) (by decide) (by rfl))))⟩)
def w_times : WS := (wRet (wCall false wf_fraction (wACons (wOp dMul (wOp dIx (wVar 0) (wC (.int 0))) (wOp dIx (wVar 1) (wC (.int 0)))) (wACons (wOp dMul (wOp dIx (wVar 0) (wC (.int 1))) (wOp dIx (wVar 1) (wC (.int 1)))) wANil))))
theorem d_times : ∀ ds row Ψ Ξ, wf_times ds row Ψ Ξ → goR (w_times (endsW false Ψ fun _ => False)) (startW false 2 ds row) := by
  rintro ds row Ψ Ξ ⟨a, b, c, d, rfl, ⟨⟨ba, bb, bc, bd⟩, b0, d0⟩, q⟩
  unfold w_times
  walk_at "ev"
  refine sideR_by (.inl ⟨ba.mono, bc.mono⟩) fun _ => ?_
  walk_at "ev"
  refine sideR_by (.inl ⟨bb.mono, bd.mono⟩) fun _ => ?_
  walk_at "ev"
  refine ⟨_, _, rfl, (ba.mul bc).mono, (bb.mul bd).mono, bnd_ne b0 d0, ?_⟩
  walk_at "ev"
  exact q
abbrev s_times : Stmt := top 9
theorem sc_times : FnScope ["one", "other"] ["one", "other"] (defScope s_times) := ⟨rfl, rfl, rfl, by decide +kernel, rfl, by decide +kernel, by decide +kernel⟩
theorem ok_times {P : Program} {w : World} {K : PySem.W.Frag} {mg : Str → Option Value} {base : Heap} {ts : List Addr} {f : Addr} {fd : FuncData} (F : Fun K "times" "times" s_times f fd) (C_fraction : Cal P w K mg base (CXE P w) 2 "fraction" ["top", "bottom"] (spD ⟨K, ts, LSK K⟩ false wf_fraction))  : FnOk P w K mg base (CXE P w) 3 f fd ["one", "other"] (spD ⟨K, ts, LSK K⟩ false wf_times) := by
  have nd := (sc_times).nd
  refine fn_d F sc_times (by decide) (fun ds row Ψ Ξ h => by first | (obtain ⟨rfl, _⟩ := h; rfl) | (obtain ⟨_, rfl, _⟩ := h; rfl) | (obtain ⟨_, _, rfl, _⟩ := h; rfl) | (obtain ⟨_, _, _, rfl, _⟩ := h; rfl) | (obtain ⟨_, _, _, _, rfl, _⟩ := h; rfl) | (obtain ⟨_, _, _, _, _, rfl, _⟩ := h; rfl) | (obtain ⟨_, _, _, _, _, _, rfl, _⟩ := h; rfl) | (obtain ⟨_, _, _, _, _, _, _, rfl, _⟩ := h; rfl) | (obtain ⟨_, _, _, _, _, _, _, _, rfl, _⟩ := h; rfl) | (obtain ⟨_, _, _, _, _, _, _, _, _, rfl, _⟩ := h; rfl) | (obtain ⟨_, _, _, _, _, _, _, _, _, _, rfl, _⟩ := h; rfl) | (obtain ⟨_, _, _, _, _, _, _, _, _, _, _, rfl, _⟩ := h; rfl) | (obtain ⟨_, _, _, _, _, _, _, _, _, _, _, _, rfl, _⟩ := h; rfl) | (obtain ⟨_, _, _, _, _, _, _, _, _, _, _, _, _, rfl, _⟩ := h; rfl)) d_times (fun cdv A outer s H E hr => ⟨_, (q_s1 (q_ret (q_call C_fraction hr passE0 (q_cons (q_op op_mulB od_mul (q_ix (ix_seqK (by rfl)) od_ix (q_v 0 (pv 0)) q_int (fun _ _ => rfl)) (q_ix (ix_seqK (by rfl)) od_ix (q_v 1 (pv 1)) q_int (fun _ _ => rfl))) (q_cons (q_op op_mulB od_mul (q_ix (ix_seqK (by rfl)) od_ix (q_v 0 (pv 0)) q_int (fun _ _ => rfl)) (q_ix (ix_seqK (by rfl)) od_ix (q_v 1 (pv 1)) q_int (fun _ _ => rfl))) q_nil (by rfl)) (by rfl)) (by rfl) (by decide) (by decide) (by rfl))))⟩)
def w_over : WS := (wRet (wCall false wf_fraction (wACons (wOp dMul (wOp dIx (wVar 0) (wC (.int 0))) (wOp dIx (wVar 1) (wC (.int 1)))) (wACons (wOp dMul (wOp dIx (wVar 0) (wC (.int 1))) (wOp dIx (wVar 1) (wC (.int 0)))) wANil))))
theorem d_over : ∀ ds row Ψ Ξ, wf_over ds row Ψ Ξ → goR (w_over (endsW false Ψ fun _ => False)) (startW false 2 ds row) := by
  rintro ds row Ψ Ξ ⟨a, b, c, d, rfl, ⟨⟨ba, bb, bc, bd⟩, b0, d0⟩, c0, q⟩
  unfold w_over
  walk_at "ev"
  refine sideR_by (.inl ⟨ba.mono, bd.mono⟩) fun _ => ?_
  walk_at "ev"
  refine sideR_by (.inl ⟨bb.mono, bc.mono⟩) fun _ => ?_
  walk_at "ev"
  refine ⟨_, _, rfl, (ba.mul bd).mono, (bb.mul bc).mono, fun z => by rcases Int.mul_eq_zero.mp z with y | y <;> omega, ?_⟩
  walk_at "ev"
  exact q
abbrev s_over : Stmt := top 10
theorem sc_over : FnScope ["one", "other"] ["one", "other"] (defScope s_over) := ⟨rfl, rfl, rfl, by decide +kernel, rfl, by decide +kernel, by decide +kernel⟩
theorem ok_over {P : Program} {w : World} {K : PySem.W.Frag} {mg : Str → Option Value} {base : Heap} {ts : List Addr} {f : Addr} {fd : FuncData} (F : Fun K "over" "over" s_over f fd) (C_fraction : Cal P w K mg base (CXE P w) 2 "fraction" ["top", "bottom"] (spD ⟨K, ts, LSK K⟩ false wf_fraction))  : FnOk P w K mg base (CXE P w) 3 f fd ["one", "other"] (spD ⟨K, ts, LSK K⟩ false wf_over) := by
  have nd := (sc_over).nd
  refine fn_d F sc_over (by decide) (fun ds row Ψ Ξ h => by first | (obtain ⟨rfl, _⟩ := h; rfl) | (obtain ⟨_, rfl, _⟩ := h; rfl) | (obtain ⟨_, _, rfl, _⟩ := h; rfl) | (obtain ⟨_, _, _, rfl, _⟩ := h; rfl) | (obtain ⟨_, _, _, _, rfl, _⟩ := h; rfl) | (obtain ⟨_, _, _, _, _, rfl, _⟩ := h; rfl) | (obtain ⟨_, _, _, _, _, _, rfl, _⟩ := h; rfl) | (obtain ⟨_, _, _, _, _, _, _, rfl, _⟩ := h; rfl) | (obtain ⟨_, _, _, _, _, _, _, _, rfl, _⟩ := h; rfl) | (obtain ⟨_, _, _, _, _, _, _, _, _, rfl, _⟩ := h; rfl) | (obtain ⟨_, _, _, _, _, _, _, _, _, _, rfl, _⟩ := h; rfl) | (obtain ⟨_, _, _, _, _, _, _, _, _, _, _, rfl, _⟩ := h; rfl) | (obtain ⟨_, _, _, _, _, _, _, _, _, _, _, _, rfl, _⟩ := h; rfl) | (obtain ⟨_, _, _, _, _, _, _, _, _, _, _, _, _, rfl, _⟩ := h; rfl)) d_over (fun cdv A outer s H E hr => ⟨_, (q_s1 (q_ret (q_call C_fraction hr passE0 (q_cons (q_op op_mulB od_mul (q_ix (ix_seqK (by rfl)) od_ix (q_v 0 (pv 0)) q_int (fun _ _ => rfl)) (q_ix (ix_seqK (by rfl)) od_ix (q_v 1 (pv 1)) q_int (fun _ _ => rfl))) (q_cons (q_op op_mulB od_mul (q_ix (ix_seqK (by rfl)) od_ix (q_v 0 (pv 0)) q_int (fun _ _ => rfl)) (q_ix (ix_seqK (by rfl)) od_ix (q_v 1 (pv 1)) q_int (fun _ _ => rfl))) q_nil (by rfl)) (by rfl)) (by rfl) (by decide) (by decide) (by rfl))))⟩)
def w_nearest : WS := (wRet (wOp dDiv (wOp dAdd (wOp dMul (wC (.int 2)) (wOp dIx (wVar 0) (wC (.int 0)))) (wOp dIx (wVar 0) (wC (.int 1)))) (wOp dMul (wC (.int 2)) (wOp dIx (wVar 0) (wC (.int 1))))))
theorem d_nearest : ∀ ds row Ψ Ξ, wf_nearest ds row Ψ Ξ → goR (w_nearest (endsW false Ψ fun _ => False)) (startW false 1 ds row) := by
  rintro ds row Ψ Ξ ⟨t, b, rfl, b0, bb, q⟩
  unfold w_nearest
  walk_at "ev"
  repeat walk_at "sd"
  refine sideR_by ⟨by omega, (Bd.mono (m := 3102) (by unfold Bd at *; omega) (by decide))⟩ fun _ => ?_
  walk_at "ev"
  exact q
abbrev s_nearest : Stmt := top 11
theorem sc_nearest : FnScope ["one"] ["one"] (defScope s_nearest) := ⟨rfl, rfl, rfl, by decide +kernel, rfl, by decide +kernel, by decide +kernel⟩
theorem ok_nearest {P : Program} {w : World} {K : PySem.W.Frag} {mg : Str → Option Value} {base : Heap} {ts : List Addr} {f : Addr} {fd : FuncData} (F : Fun K "nearest" "nearest" s_nearest f fd)   : FnOk P w K mg base (CXE P w) 1 f fd ["one"] (spD ⟨K, ts, LSK K⟩ false wf_nearest) := by
  have nd := (sc_nearest).nd
  refine fn_d F sc_nearest (by decide) (fun ds row Ψ Ξ h => by first | (obtain ⟨rfl, _⟩ := h; rfl) | (obtain ⟨_, rfl, _⟩ := h; rfl) | (obtain ⟨_, _, rfl, _⟩ := h; rfl) | (obtain ⟨_, _, _, rfl, _⟩ := h; rfl) | (obtain ⟨_, _, _, _, rfl, _⟩ := h; rfl) | (obtain ⟨_, _, _, _, _, rfl, _⟩ := h; rfl) | (obtain ⟨_, _, _, _, _, _, rfl, _⟩ := h; rfl) | (obtain ⟨_, _, _, _, _, _, _, rfl, _⟩ := h; rfl) | (obtain ⟨_, _, _, _, _, _, _, _, rfl, _⟩ := h; rfl) | (obtain ⟨_, _, _, _, _, _, _, _, _, rfl, _⟩ := h; rfl) | (obtain ⟨_, _, _, _, _, _, _, _, _, _, rfl, _⟩ := h; rfl) | (obtain ⟨_, _, _, _, _, _, _, _, _, _, _, rfl, _⟩ := h; rfl) | (obtain ⟨_, _, _, _, _, _, _, _, _, _, _, _, rfl, _⟩ := h; rfl) | (obtain ⟨_, _, _, _, _, _, _, _, _, _, _, _, _, rfl, _⟩ := h; rfl)) d_nearest (fun cdv A outer s H E hr => ⟨_, (q_s1 (q_ret (q_op op_fdivP od_div (q_op op_add od_add (q_op op_mulB od_mul q_int (q_ix (ix_seqK (by rfl)) od_ix (q_v 0 (pv 0)) q_int (fun _ _ => rfl))) (q_ix (ix_seqK (by rfl)) od_ix (q_v 0 (pv 0)) q_int (fun _ _ => rfl))) (q_op op_mulB od_mul q_int (q_ix (ix_seqK (by rfl)) od_ix (q_v 0 (pv 0)) q_int (fun _ _ => rfl))))))⟩)
def w_Scale___init__ : WIn := (wInSeq (wInPut "low" (wVar 1))
  (wInSeq (wInPut "high" (wVar 2))
  (wInPut "rows" (wVar 3))))
theorem d_Scale___init__ : ∀ ds Ψ Ξ, wm_Scale___init__ ds Ψ Ξ → w_Scale___init__ (fun _ fs es => fs = (["low", "high", "rows"] : List Str) ∧ Ψ es) (startI 4 ds) [] [] := by
  rintro ds Ψ Ξ ⟨a, b, n, rfl, q⟩
  unfold w_Scale___init__
  walk_at "ev"
  refine sideR_by ⟨by decide, by decide⟩ fun _ => ?_
  walk_at "ev"
  refine sideR_by ⟨by decide, by decide⟩ fun _ => ?_
  walk_at "ev"
  refine sideR_by ⟨by decide, by decide⟩ fun _ => ?_
  walk_at "ev"
  exact q
abbrev s_Scale___init__ : Stmt := clsBody (top 13) 0
theorem sc_Scale___init__ : FnScope ["self", "low", "high", "rows"] ["self", "low", "high", "rows"] (defScope s_Scale___init__) := ⟨rfl, rfl, rfl, by decide +kernel, rfl, by decide +kernel, by decide +kernel⟩
theorem ok_Scale___init__ {P : Program} {w : World} {K : PySem.W.Frag} {mg : Str → Option Value} {base : Heap} {ts : List Addr} {f : Addr} {fd : FuncData} (F : Fun K "__init__" "Scale.__init__" s_Scale___init__ f fd)   : FnOk P w K mg base (CXE P w) 1 f fd ["self", "low", "high", "rows"] (spI ⟨K, ts, LSK K⟩ ["low", "high", "rows"] wm_Scale___init__) := by
  have nd := (sc_Scale___init__).nd
  refine fn_init F sc_Scale___init__ (by decide) (fun ds Ψ Ξ h => by first | (obtain ⟨rfl, _⟩ := h; rfl) | (obtain ⟨_, rfl, _⟩ := h; rfl) | (obtain ⟨_, _, rfl, _⟩ := h; rfl) | (obtain ⟨_, _, _, rfl, _⟩ := h; rfl) | (obtain ⟨_, _, _, _, rfl, _⟩ := h; rfl) | (obtain ⟨_, _, _, _, _, rfl, _⟩ := h; rfl) | (obtain ⟨_, _, _, _, _, _, rfl, _⟩ := h; rfl) | (obtain ⟨_, _, _, _, _, _, _, rfl, _⟩ := h; rfl) | (obtain ⟨_, _, _, _, _, _, _, _, rfl, _⟩ := h; rfl) | (obtain ⟨_, _, _, _, _, _, _, _, _, rfl, _⟩ := h; rfl) | (obtain ⟨_, _, _, _, _, _, _, _, _, _, rfl, _⟩ := h; rfl) | (obtain ⟨_, _, _, _, _, _, _, _, _, _, _, rfl, _⟩ := h; rfl) | (obtain ⟨_, _, _, _, _, _, _, _, _, _, _, _, rfl, _⟩ := h; rfl) | (obtain ⟨_, _, _, _, _, _, _, _, _, _, _, _, _, rfl, _⟩ := h; rfl)) d_Scale___init__ (fun cdv A outer s H E hr => ⟨_, (q_inC (q_inPut (by rfl) (pv 0) (q_v 1 (pv 1)) (by decide) (by rfl))
      (q_inC (q_inPut (by rfl) (pv 0) (q_v 2 (pv 2)) (by decide) (by rfl))
      (q_in1 (q_inPut (by rfl) (pv 0) (q_v 3 (pv 3)) (by decide) (by rfl)))))⟩)
def w_Scale_at_levels : WS := (wRet (wCall false wf_plus (wACons (wUn (dFld "low") (wVar 0)) (wACons (wCall false wf_over (wACons (wCall false wf_times (wACons (wVar 1) (wACons (wCall false wf_less (wACons (wUn (dFld "high") (wVar 0)) (wACons (wUn (dFld "low") (wVar 0)) wANil))) wANil))) (wACons (wTup (wACons (wUn (dFld "rows") (wVar 0)) (wACons (wC (.int 1)) wANil))) wANil))) wANil))))
theorem d_Scale_at_levels : ∀ ds row Ψ Ξ, wf_Scale_at_levels ds row Ψ Ξ → goR (w_Scale_at_levels (endsW false Ψ fun _ => False)) (startW false 2 ds row) := by
  rintro ds row Ψ Ξ ⟨t, b, t2, b2, n, c, d, rfl, B, bc, bd, d0, q⟩
  unfold w_Scale_at_levels
  have n0 := B.n0
  have n1 := B.n1
  have p1 : 0 < b2 * b := Int.mul_pos B.b20 B.b0
  obtain ⟨l1, l2, l3⟩ := mbd (n := 201) (x := t2 * b - t * b2) p1 ((B.bt2.mul B.bb).sub (B.bt.mul B.bb2)).mono (B.bb2.mul B.bb).mono
  have p2 := Int.mul_pos d0 (show 0 < lowB (t2 * b - t * b2) (b2 * b) by omega)
  obtain ⟨m1, m2, m3⟩ := mbd (n := 901) (x := c * lowT (t2 * b - t * b2) (b2 * b)) p2 (bc.mul l1).mono (bd.mul l2).mono
  have bn := nb n0 n1
  have b1 : Bd 6 1 := by unfold Bd; decide
  have p3 := Int.mul_pos (show 0 < lowB (c * lowT (t2 * b - t * b2) (b2 * b)) (d * lowB (t2 * b - t * b2) (b2 * b)) by omega) (show 0 < n by omega)
  obtain ⟨k1, k2, k3⟩ := mbd (n := 907) (x := lowT (c * lowT (t2 * b - t * b2) (b2 * b)) (d * lowB (t2 * b - t * b2) (b2 * b)) * 1) p3 (m1.mul b1).mono (m2.mul bn).mono
  walk_at "ev"
  refine ⟨t2, b2, t, b, rfl, ⟨⟨B.bt2.mono, B.bb2.mono, B.bt.mono, B.bb.mono⟩, by have := B.b20; omega, by have := B.b0; omega⟩, ?_⟩
  walk_at "ev"
  refine ⟨c, d, _, _, rfl, ⟨⟨bc.mono, bd.mono, l1.mono, l2.mono⟩, by omega, l3⟩, ?_⟩
  walk_at "ev"
  walk_at "sd"
  refine ⟨_, _, n, 1, rfl, ⟨⟨m1.mono, m2.mono, bn.mono, b1.mono⟩, m3, by decide⟩, by omega, ?_⟩
  walk_at "ev"
  refine ⟨t, b, _, _, rfl, ⟨⟨B.bt.mono, B.bb.mono, k1.mono, k2.mono⟩, by have := B.b0; omega, k3⟩, ?_⟩
  walk_at "ev"
  have e := at_is (c := c) B d0
  rw [← e.1, ← e.2] at q
  exact q
abbrev s_Scale_at_levels : Stmt := clsBody (top 13) 1
theorem sc_Scale_at_levels : FnScope ["self", "levels"] ["self", "levels"] (defScope s_Scale_at_levels) := ⟨rfl, rfl, rfl, by decide +kernel, rfl, by decide +kernel, by decide +kernel⟩
theorem ok_Scale_at_levels {P : Program} {w : World} {K : PySem.W.Frag} {mg : Str → Option Value} {base : Heap} {ts : List Addr} {f : Addr} {fd : FuncData} (F : Fun K "at_levels" "Scale.at_levels" s_Scale_at_levels f fd) (C_plus : Cal P w K mg base (CXE P w) 3 "plus" ["one", "other"] (spD ⟨K, ts, LSK K⟩ false wf_plus)) (C_over : Cal P w K mg base (CXE P w) 3 "over" ["one", "other"] (spD ⟨K, ts, LSK K⟩ false wf_over)) (C_times : Cal P w K mg base (CXE P w) 3 "times" ["one", "other"] (spD ⟨K, ts, LSK K⟩ false wf_times)) (C_less : Cal P w K mg base (CXE P w) 3 "less" ["one", "other"] (spD ⟨K, ts, LSK K⟩ false wf_less)) (clA : ClsA K)  : FnOk P w K mg base (CXE P w) 4 f fd ["self", "levels"] (spD ⟨K, ts, LSK K⟩ false wf_Scale_at_levels) := by
  have nd := (sc_Scale_at_levels).nd
  refine fn_d F sc_Scale_at_levels (by decide) (fun ds row Ψ Ξ h => by first | (obtain ⟨rfl, _⟩ := h; rfl) | (obtain ⟨_, rfl, _⟩ := h; rfl) | (obtain ⟨_, _, rfl, _⟩ := h; rfl) | (obtain ⟨_, _, _, rfl, _⟩ := h; rfl) | (obtain ⟨_, _, _, _, rfl, _⟩ := h; rfl) | (obtain ⟨_, _, _, _, _, rfl, _⟩ := h; rfl) | (obtain ⟨_, _, _, _, _, _, rfl, _⟩ := h; rfl) | (obtain ⟨_, _, _, _, _, _, _, rfl, _⟩ := h; rfl) | (obtain ⟨_, _, _, _, _, _, _, _, rfl, _⟩ := h; rfl) | (obtain ⟨_, _, _, _, _, _, _, _, _, rfl, _⟩ := h; rfl) | (obtain ⟨_, _, _, _, _, _, _, _, _, _, rfl, _⟩ := h; rfl) | (obtain ⟨_, _, _, _, _, _, _, _, _, _, _, rfl, _⟩ := h; rfl) | (obtain ⟨_, _, _, _, _, _, _, _, _, _, _, _, rfl, _⟩ := h; rfl) | (obtain ⟨_, _, _, _, _, _, _, _, _, _, _, _, _, rfl, _⟩ := h; rfl)) d_Scale_at_levels (fun cdv A outer s H E hr => ⟨_, (q_s1 (q_ret (q_call C_plus hr passE0 (q_cons (q_fld clA (by rfl) (q_v 0 (pv 0)) (by rfl)) (q_cons (q_call C_over hr passE0 (q_cons (q_call C_times hr passE0 (q_cons (q_v 1 (pv 1)) (q_cons (q_call C_less hr passE0 (q_cons (q_fld clA (by rfl) (q_v 0 (pv 0)) (by rfl)) (q_cons (q_fld clA (by rfl) (q_v 0 (pv 0)) (by rfl)) q_nil (by rfl)) (by rfl)) (by rfl) (by decide) (by decide) (by rfl)) q_nil (by rfl)) (by rfl)) (by rfl) (by decide) (by decide) (by rfl)) (q_cons (q_tup (q_cons (q_fld clA (by rfl) (q_v 0 (pv 0)) (by rfl)) (q_cons q_int q_nil (by rfl)) (by rfl))) q_nil (by rfl)) (by rfl)) (by rfl) (by decide) (by decide) (by rfl)) q_nil (by rfl)) (by rfl)) (by rfl) (by decide) (by decide) (by rfl))))⟩)
def w_scale_over : WS := (wRet (wMake "Scale" ["low", "high", "rows"] wm_Scale___init__ (wACons (wOp dIx (wVar 0) (wC (.int 0))) (wACons (wOp dIx (wVar 0) (wUn dNeg (wC (.int 1)))) (wACons (wVar 1) wANil)))))
theorem d_scale_over : ∀ ds row Ψ Ξ, wf_scale_over ds row Ψ Ξ → goR (w_scale_over (endsW false Ψ fun _ => False)) (startW false 2 ds row) := by
  rintro ds row Ψ Ξ ⟨ms, n, a, z, rfl, h1, h2, q⟩
  unfold w_scale_over
  walk_at "ev"
  refine ⟨_, at_head h1, ?_⟩
  walk_at "ev"
  refine ⟨_, Dt.at_last h2, ?_⟩
  walk_at "ev"
  refine ⟨_, _, _, rfl, ?_⟩
  walk_at "ev"
  exact q
abbrev s_scale_over : Stmt := top 14
theorem sc_scale_over : FnScope ["marks", "rows"] ["marks", "rows"] (defScope s_scale_over) := ⟨rfl, rfl, rfl, by decide +kernel, rfl, by decide +kernel, by decide +kernel⟩
theorem ok_scale_over {P : Program} {w : World} {K : PySem.W.Frag} {mg : Str → Option Value} {base : Heap} {ts : List Addr} {f : Addr} {fd : FuncData} (F : Fun K "scale_over" "scale_over" s_scale_over f fd)  (N_Scale : CalN P w K mg base (CXE P w) 1 "Scale" ["low", "high", "rows"] ["self", "low", "high", "rows"] (spI ⟨K, ts, LSK K⟩ ["low", "high", "rows"] wm_Scale___init__))  : FnOk P w K mg base (CXE P w) 3 f fd ["marks", "rows"] (spD ⟨K, ts, LSK K⟩ false wf_scale_over) := by
  have nd := (sc_scale_over).nd
  refine fn_d F sc_scale_over (by decide) (fun ds row Ψ Ξ h => by first | (obtain ⟨rfl, _⟩ := h; rfl) | (obtain ⟨_, rfl, _⟩ := h; rfl) | (obtain ⟨_, _, rfl, _⟩ := h; rfl) | (obtain ⟨_, _, _, rfl, _⟩ := h; rfl) | (obtain ⟨_, _, _, _, rfl, _⟩ := h; rfl) | (obtain ⟨_, _, _, _, _, rfl, _⟩ := h; rfl) | (obtain ⟨_, _, _, _, _, _, rfl, _⟩ := h; rfl) | (obtain ⟨_, _, _, _, _, _, _, rfl, _⟩ := h; rfl) | (obtain ⟨_, _, _, _, _, _, _, _, rfl, _⟩ := h; rfl) | (obtain ⟨_, _, _, _, _, _, _, _, _, rfl, _⟩ := h; rfl) | (obtain ⟨_, _, _, _, _, _, _, _, _, _, rfl, _⟩ := h; rfl) | (obtain ⟨_, _, _, _, _, _, _, _, _, _, _, rfl, _⟩ := h; rfl) | (obtain ⟨_, _, _, _, _, _, _, _, _, _, _, _, rfl, _⟩ := h; rfl) | (obtain ⟨_, _, _, _, _, _, _, _, _, _, _, _, _, rfl, _⟩ := h; rfl)) d_scale_over (fun cdv A outer s H E hr => ⟨_, (q_s1 (q_ret (q_make N_Scale (by rfl) hr passE0 (q_cons (q_ix (ix_seqK (by rfl)) od_ix (q_v 0 (pv 0)) q_int (fun _ _ => rfl)) (q_cons (q_ix (ix_seqK (by rfl)) od_ix (q_v 0 (pv 0)) (q_un un_neg ud_neg q_int) (fun _ _ => rfl)) (q_cons (q_v 1 (pv 1)) q_nil (by rfl)) (by rfl)) (by rfl)) (by rfl) (by decide) (by decide) (by rfl))))⟩)
def w__law_cell_at : WS := (wSeq (wIfS (wCmp bLt (wVar 1) (wCB dLen (wACons (wVar 0) wANil))) (wRet (wOp dIx (wVar 0) (wVar 1))) wNext)
  (wRet (wC (.int 0))))
theorem d__law_cell_at : ∀ ds row Ψ Ξ, wf__law_cell_at ds row Ψ Ξ → goR (w__law_cell_at (endsW false Ψ fun _ => False)) (startW false 2 ds row) := by
  rintro ds row Ψ Ξ ⟨ns, k, rfl, h0, q⟩
  unfold w__law_cell_at
  walk_at "ev"
  refine iteR_by (fun h => ?_) (fun h => ?_)
  rotate_left
  · walk_at "ev"
    exact q 0
  have h := of_decide_eq_true h
  walk_at "ev"
  obtain ⟨z, hz, ha⟩ := at_in (ds := ns.map D.int) h0 h
  obtain ⟨v, _, rfl⟩ := List.mem_map.mp hz
  refine ⟨_, ha, ?_⟩
  walk_at "ev"
  exact q v
abbrev s__law_cell_at : Stmt := top 19
theorem sc__law_cell_at : FnScope ["_law_script", "_law_k"] ["_law_script", "_law_k"] (defScope s__law_cell_at) := ⟨rfl, rfl, rfl, by decide +kernel, rfl, by decide +kernel, by decide +kernel⟩
theorem ok__law_cell_at {P : Program} {w : World} {K : PySem.W.Frag} {mg : Str → Option Value} {base : Heap} {ts : List Addr} {f : Addr} {fd : FuncData} (F : Fun K "_law_cell_at" "_law_cell_at" s__law_cell_at f fd)  (z_len : mg "len" = none) : FnOk P w K mg base (CXE P w) 1 f fd ["_law_script", "_law_k"] (spD ⟨K, ts, LSK K⟩ false wf__law_cell_at) := by
  have nd := (sc__law_cell_at).nd
  refine fn_d F sc__law_cell_at (by decide) (fun ds row Ψ Ξ h => by first | (obtain ⟨rfl, _⟩ := h; rfl) | (obtain ⟨_, rfl, _⟩ := h; rfl) | (obtain ⟨_, _, rfl, _⟩ := h; rfl) | (obtain ⟨_, _, _, rfl, _⟩ := h; rfl) | (obtain ⟨_, _, _, _, rfl, _⟩ := h; rfl) | (obtain ⟨_, _, _, _, _, rfl, _⟩ := h; rfl) | (obtain ⟨_, _, _, _, _, _, rfl, _⟩ := h; rfl) | (obtain ⟨_, _, _, _, _, _, _, rfl, _⟩ := h; rfl) | (obtain ⟨_, _, _, _, _, _, _, _, rfl, _⟩ := h; rfl) | (obtain ⟨_, _, _, _, _, _, _, _, _, rfl, _⟩ := h; rfl) | (obtain ⟨_, _, _, _, _, _, _, _, _, _, rfl, _⟩ := h; rfl) | (obtain ⟨_, _, _, _, _, _, _, _, _, _, _, rfl, _⟩ := h; rfl) | (obtain ⟨_, _, _, _, _, _, _, _, _, _, _, _, rfl, _⟩ := h; rfl) | (obtain ⟨_, _, _, _, _, _, _, _, _, _, _, _, _, rfl, _⟩ := h; rfl)) d__law_cell_at (fun cdv A outer s H E hr => ⟨_, (q_sc (q_ifS (q_cmpT op_lt bd_lt (q_v 1 (pv 1)) (q_cB (call_lenK (by rfl)) cd_len (by rfl) z_len (by decide +kernel) (q_cons (q_v 0 (pv 0)) q_nil (by rfl)) (by decide) (by decide) (by rfl)) (nomark _)) (q_s1 (q_ret (q_ix (ix_seqK (by rfl)) od_ix (q_v 0 (pv 0)) (q_v 1 (pv 1)) (fun _ _ => rfl)))) q_s0)
      (q_s1 (q_ret q_int)))⟩)
def w__law_take : WS := (wSeq (wPutAt 0 (wOp dAdd (wOp dIx (wVar 0) (wC (.int 1))) (wC (.int 1))) (wC (.int 1)))
  (wSeq (wIfS (wCmp bGe (wOp dIx (wVar 0) (wC (.int 0))) (wOp dPow (wC (.int 10)) (wC (.int 18)))) (wSeq (wSet 2 (wOp dSub (wOp dIx (wVar 0) (wC (.int 0))) (wOp dPow (wC (.int 10)) (wC (.int 18)))))
  (wSeq (wPutAt 0 (wOp dAdd (wOp dPow (wC (.int 10)) (wC (.int 18))) (wOp dDiv (wVar 2) (wVar 1))) (wC (.int 0)))
  (wRet (wOp dMod (wVar 2) (wVar 1))))) wNext)
  (wSeq (wSet 3 (wOp dMod (wOp dAdd (wOp dAdd (wOp dAdd (wOp dMul (wOp dIx (wVar 0) (wC (.int 0))) (wC (.int 40692))) (wOp dMul (wOp dMul (wC (.int 104729)) (wOp dIx (wVar 0) (wC (.int 1)))) (wOp dIx (wVar 0) (wC (.int 1))))) (wOp dMul (wC (.int 31)) (wOp dIx (wVar 0) (wC (.int 1))))) (wC (.int 5))) (wC (.int 2147483399))))
  (wSeq (wSet 3 (wOp dMod (wOp dAdd (wOp dAdd (wOp dMul (wVar 3) (wVar 3)) (wOp dMul (wC (.int 48271)) (wVar 3))) (wOp dIx (wVar 0) (wC (.int 1)))) (wC (.int 2147483647))))
  (wRet (wOp dMod (wOp dDiv (wVar 3) (wC (.int 7))) (wVar 1)))))))
theorem d__law_take : ∀ ds row Ψ Ξ, wf__law_take ds row Ψ Ξ → goR (w__law_take (endsW true Ψ fun _ => False)) (startW true 4 ds row) := by
  rintro ds row Ψ Ξ ⟨b, N, rfl, ⟨a, n, rfl, h0, h1⟩, hN, hb0, hb1, q⟩
  unfold w__law_take
  walk_at "ev"
  walk_at "sd"
  refine iteR_by (fun h => ?_) (fun h => ?_)
  · walk_at "ev"
    repeat walk_at "sd"
    exact q _ _ (Int.emod_nonneg _ (by omega)) (Int.emod_lt_of_pos _ hb0) ⟨_, _, rfl, by omega, by omega⟩
  · walk_at "ev"
    repeat walk_at "sd"
    exact q _ _ (Int.emod_nonneg _ (by omega)) (Int.emod_lt_of_pos _ hb0) ⟨_, _, rfl, by omega, by omega⟩
abbrev s__law_take : Stmt := top 20
theorem sc__law_take : FnScope ["_law_row", "_law_base", "_law_rest", "_law_number"] ["_law_row", "_law_base"] (defScope s__law_take) := ⟨rfl, rfl, rfl, by decide +kernel, rfl, by decide +kernel, by decide +kernel⟩
theorem ok__law_take {P : Program} {w : World} {K : PySem.W.Frag} {mg : Str → Option Value} {base : Heap} {ts : List Addr} {f : Addr} {fd : FuncData} (F : Fun K "_law_take" "_law_take" s__law_take f fd)   : FnOk P w K mg base (CXE P w) 1 f fd ["_law_row", "_law_base"] (spD ⟨K, ts, LSK K⟩ true wf__law_take) := by
  have nd := (sc__law_take).nd
  refine fn_d F sc__law_take (by decide) (fun ds row Ψ Ξ h => by first | (obtain ⟨rfl, _⟩ := h; rfl) | (obtain ⟨_, rfl, _⟩ := h; rfl) | (obtain ⟨_, _, rfl, _⟩ := h; rfl) | (obtain ⟨_, _, _, rfl, _⟩ := h; rfl) | (obtain ⟨_, _, _, _, rfl, _⟩ := h; rfl) | (obtain ⟨_, _, _, _, _, rfl, _⟩ := h; rfl) | (obtain ⟨_, _, _, _, _, _, rfl, _⟩ := h; rfl) | (obtain ⟨_, _, _, _, _, _, _, rfl, _⟩ := h; rfl) | (obtain ⟨_, _, _, _, _, _, _, _, rfl, _⟩ := h; rfl) | (obtain ⟨_, _, _, _, _, _, _, _, _, rfl, _⟩ := h; rfl) | (obtain ⟨_, _, _, _, _, _, _, _, _, _, rfl, _⟩ := h; rfl) | (obtain ⟨_, _, _, _, _, _, _, _, _, _, _, rfl, _⟩ := h; rfl) | (obtain ⟨_, _, _, _, _, _, _, _, _, _, _, _, rfl, _⟩ := h; rfl) | (obtain ⟨_, _, _, _, _, _, _, _, _, _, _, _, _, rfl, _⟩ := h; rfl)) d__law_take (fun cdv A outer s H E hr => ⟨_, (q_sc (q_putAt (pv 0) (q_op op_add od_add (q_ix (ix_seqK (by rfl)) od_ix (q_v 0 (pv 0)) q_int (fun _ _ => rfl)) q_int) q_int (by rfl) (by rfl) (by rfl) (by intro _; rfl))
      (q_sc (q_ifS (q_cmpT op_ge bd_ge (q_ix (ix_seqK (by rfl)) od_ix (q_v 0 (pv 0)) q_int (fun _ _ => rfl)) (q_op op_pow od_pow q_int q_int) (nomark _)) (q_sc (q_set (i := 2) nd rfl (Or.inl rfl) (q_op op_sub od_sub (q_ix (ix_seqK (by rfl)) od_ix (q_v 0 (pv 0)) q_int (fun _ _ => rfl)) (q_op op_pow od_pow q_int q_int)) (Or.inl (by decide)) (by rfl) (by first | exact .inl rfl | exact .inr rfl))
      (q_sc (q_putAt (pv 0) (q_op op_add od_add (q_op op_pow od_pow q_int q_int) (q_op op_fdivP od_div (q_v 2 (pv 2)) (q_v 1 (pv 1)))) q_int (by rfl) (by rfl) (by rfl) (by intro _; rfl))
      (q_s1 (q_ret (q_op op_mod od_mod (q_v 2 (pv 2)) (q_v 1 (pv 1))))))) q_s0)
      (q_sc (q_set (i := 3) nd rfl (Or.inl rfl) (q_op op_mod od_mod (q_op op_add od_add (q_op op_add od_add (q_op op_add od_add (q_op op_mulB od_mul (q_ix (ix_seqK (by rfl)) od_ix (q_v 0 (pv 0)) q_int (fun _ _ => rfl)) q_int) (q_op op_mulB od_mul (q_op op_mulB od_mul q_int (q_ix (ix_seqK (by rfl)) od_ix (q_v 0 (pv 0)) q_int (fun _ _ => rfl))) (q_ix (ix_seqK (by rfl)) od_ix (q_v 0 (pv 0)) q_int (fun _ _ => rfl)))) (q_op op_mulB od_mul q_int (q_ix (ix_seqK (by rfl)) od_ix (q_v 0 (pv 0)) q_int (fun _ _ => rfl)))) q_int) q_int) (Or.inl (by decide)) (by rfl) (by first | exact .inl rfl | exact .inr rfl))
      (q_sc (q_set (i := 3) nd rfl (Or.inl rfl) (q_op op_mod od_mod (q_op op_add od_add (q_op op_add od_add (q_op op_mulB od_mul (q_v 3 (pv 3)) (q_v 3 (pv 3))) (q_op op_mulB od_mul q_int (q_v 3 (pv 3)))) (q_ix (ix_seqK (by rfl)) od_ix (q_v 0 (pv 0)) q_int (fun _ _ => rfl))) q_int) (Or.inl (by decide)) (by rfl) (by first | exact .inl rfl | exact .inr rfl))
      (q_s1 (q_ret (q_op op_mod od_mod (q_op op_fdivP od_div (q_v 3 (pv 3)) q_int) (q_v 1 (pv 1)))))))))⟩)
def w__law_low : WS := (wSeq (wSet 2 (wCB dAbs (wACons (wVar 0) wANil)))
  (wSeq (wSet 3 (wCB dAbs (wACons (wVar 1) wANil)))
  (wSeq (wWhile (wCmp (bSc not) (wVar 3) (wC (.int 0))) (wSeq (wSet 4 (wOp dMod (wVar 2) (wVar 3)))
  (wSeq (wSet 2 (wVar 3))
  (wSet 3 (wVar 4)))))
  (wSeq (wIfS (wCmp bLt (wVar 1) (wC (.int 0))) (wSet 2 (wOp dSub (wC (.int 0)) (wVar 2))) wNext)
  (wRet (wTup (wACons (wOp dDivB (wVar 0) (wVar 2)) (wACons (wOp dDivB (wVar 1) (wVar 2)) wANil))))))))
theorem d__law_low : ∀ ds row Ψ Ξ, wf__law_low ds row Ψ Ξ → goR (w__law_low (endsW false Ψ fun _ => False)) (startW false 5 ds row) := by
  rintro ds row Ψ Ξ ⟨t, b, rfl, b0, bt, bb, q⟩
  unfold w__law_low
  walk_at "ev"
  refine ⟨fun m Γ => ∃ (x y : Int) (x4 : Option En), Γ = [some (En.shr (D.int t)), some (En.shr (D.int b)), some (En.shr (D.int x)), some (En.shr (D.int y)), x4] ∧ 0 ≤ x ∧ 0 ≤ y ∧ m = y.toNat ∧ Nat.gcd x.toNat y.toNat = Int.gcd t b, ⟨_, _, _, _, rfl, ?_, ?_, rfl, ?_⟩, ?_⟩
  · split <;> omega
  · split <;> omega
  · rw [← gcd_abs]
    unfold Int.gcd
    congr 1 <;> split <;> omega
  rintro m Γ ⟨x, y, x4, rfl, x0, y0, rfl, hg⟩
  walk_at "ev"
  by_cases hy : y = 0
  · subst hy
    simp only [decide_true, Bool.not_true]
    walk_at "ev"
    have hx : x = ((Int.gcd t b : Nat) : Int) := by
      rw [← hg]
      simp
      omega
    subst hx
    have hpos : 0 < Int.gcd t b := Int.gcd_pos_of_ne_zero_right t b0
    have hb : Bd 3100 ((Int.gcd t b : Nat) : Int) := by
      have : Int.gcd t b ≤ b.natAbs := Nat.gcd_le_right _ (by omega)
      unfold Bd at *
      omega
    refine iteR_by (fun h => ?_) (fun h => ?_)
    · have h := of_decide_eq_true h
      walk_at "ev"
      refine sideR_by ⟨by omega, (Bd.mono (m := 3101) (by unfold Bd at *; omega) (by decide))⟩ fun _ => ?_
      walk_at "ev"
      refine sideR_by ⟨by omega, (Bd.mono (m := 3101) (by unfold Bd at *; omega) (by decide))⟩ fun _ => ?_
      walk_at "ev"
      walk_at "sd"
      rw [show (0 : Int) - ((Int.gcd t b : Nat) : Int) = lowG t b by unfold lowG; rw [if_pos h]; omega]
      exact q
    · have h := of_decide_eq_false h
      walk_at "ev"
      refine sideR_by ⟨by omega, hb.mono⟩ fun _ => ?_
      walk_at "ev"
      refine sideR_by ⟨by omega, hb.mono⟩ fun _ => ?_
      walk_at "ev"
      walk_at "sd"
      rw [show ((Int.gcd t b : Nat) : Int) = lowG t b by unfold lowG; rw [if_neg h]]
      exact q
  · simp only [hy, decide_false, Bool.not_false]
    walk_at "ev"
    refine sideR_by (show 0 < y by omega) fun _ => ?_
    walk_at "ev"
    have h1 := Int.emod_nonneg x hy
    have h2 := Int.emod_lt_of_pos x (show 0 < y by omega)
    refine ⟨(x % y).toNat, by omega, _, _, _, rfl, y0, h1, rfl, ?_⟩
    have e : (x % y).toNat = x.toNat % y.toNat := by
      have := Int.toNat_emod x0 y0
      omega
    rw [e]
    exact gcd_step hg (by omega)
abbrev s__law_low : Stmt := top 21
theorem sc__law_low : FnScope ["_law_top", "_law_bottom", "_law_one", "_law_other", "_law_rest"] ["_law_top", "_law_bottom"] (defScope s__law_low) := ⟨rfl, rfl, rfl, by decide +kernel, rfl, by decide +kernel, by decide +kernel⟩
theorem ok__law_low {P : Program} {w : World} {K : PySem.W.Frag} {mg : Str → Option Value} {base : Heap} {ts : List Addr} {f : Addr} {fd : FuncData} (F : Fun K "_law_low" "_law_low" s__law_low f fd)  (z_abs : mg "abs" = none) : FnOk P w K mg base (CXE P w) 1 f fd ["_law_top", "_law_bottom"] (spD ⟨K, ts, LSK K⟩ false wf__law_low) := by
  have nd := (sc__law_low).nd
  refine fn_d F sc__law_low (by decide) (fun ds row Ψ Ξ h => by first | (obtain ⟨rfl, _⟩ := h; rfl) | (obtain ⟨_, rfl, _⟩ := h; rfl) | (obtain ⟨_, _, rfl, _⟩ := h; rfl) | (obtain ⟨_, _, _, rfl, _⟩ := h; rfl) | (obtain ⟨_, _, _, _, rfl, _⟩ := h; rfl) | (obtain ⟨_, _, _, _, _, rfl, _⟩ := h; rfl) | (obtain ⟨_, _, _, _, _, _, rfl, _⟩ := h; rfl) | (obtain ⟨_, _, _, _, _, _, _, rfl, _⟩ := h; rfl) | (obtain ⟨_, _, _, _, _, _, _, _, rfl, _⟩ := h; rfl) | (obtain ⟨_, _, _, _, _, _, _, _, _, rfl, _⟩ := h; rfl) | (obtain ⟨_, _, _, _, _, _, _, _, _, _, rfl, _⟩ := h; rfl) | (obtain ⟨_, _, _, _, _, _, _, _, _, _, _, rfl, _⟩ := h; rfl) | (obtain ⟨_, _, _, _, _, _, _, _, _, _, _, _, rfl, _⟩ := h; rfl) | (obtain ⟨_, _, _, _, _, _, _, _, _, _, _, _, _, rfl, _⟩ := h; rfl)) d__law_low (fun cdv A outer s H E hr => ⟨_, (q_sc (q_set (i := 2) nd rfl (Or.inl rfl) (q_cB call_abs cd_abs (by rfl) z_abs (by decide +kernel) (q_cons (q_v 0 (pv 0)) q_nil (by rfl)) (by decide) (by decide) (by rfl)) (Or.inl (by decide)) (by rfl) (by first | exact .inl rfl | exact .inr rfl))
      (q_sc (q_set (i := 3) nd rfl (Or.inl rfl) (q_cB call_abs cd_abs (by rfl) z_abs (by decide +kernel) (q_cons (q_v 1 (pv 1)) q_nil (by rfl)) (by decide) (by decide) (by rfl)) (Or.inl (by decide)) (by rfl) (by first | exact .inl rfl | exact .inr rfl))
      (q_sc (q_while PassesOwn.never (q_cmpT op_ne bd_ne (q_v 3 (pv 3)) q_int (nomark _)) (q_sc (q_set (i := 4) nd rfl (Or.inl rfl) (q_op op_mod od_mod (q_v 2 (pv 2)) (q_v 3 (pv 3))) (Or.inl (by decide)) (by rfl) (by first | exact .inl rfl | exact .inr rfl))
      (q_sc (q_set (i := 2) nd rfl (Or.inl rfl) (q_v 3 (pv 3)) (Or.inl (by decide)) (by rfl) (by first | exact .inl rfl | exact .inr rfl))
      (q_s1 (q_set (i := 3) nd rfl (Or.inl rfl) (q_v 4 (pv 4)) (Or.inl (by decide)) (by rfl) (by first | exact .inl rfl | exact .inr rfl))))))
      (q_sc (q_ifS (q_cmpT op_lt bd_lt (q_v 1 (pv 1)) q_int (nomark _)) (q_s1 (q_set (i := 2) nd rfl (Or.inl rfl) (q_op op_sub od_sub q_int (q_v 2 (pv 2))) (Or.inl (by decide)) (by rfl) (by first | exact .inl rfl | exact .inr rfl))) q_s0)
      (q_s1 (q_ret (q_tup (q_cons (q_op op_fdivB od_divB (q_v 0 (pv 0)) (q_v 2 (pv 2))) (q_cons (q_op op_fdivB od_divB (q_v 1 (pv 1)) (q_v 2 (pv 2))) q_nil (by rfl)) (by rfl)))))))))⟩)
def w__law_names : WS := (wSeq (wSet 2 (wC (.str "abcdefghijklmnopqrstuvwxyz")))
  (wSeq (wSet 3 (wOp dAdd (wC (.int 1)) (wCall true wf__law_take (wACons (wVar 0) (wACons (wC (.int 10)) wANil)))))
  (wSeq (wSet 4 (wCall true wf__law_take (wACons (wVar 0) (wACons (wVar 3) wANil))))
  (wSeq (wSet 5 (wM1 dJoin (wC (.str "")) (wLc (wIRng1 (wACons (wVar 3) wANil)) (wgName 11) (fun Γ Ψ _ => Ψ true Γ) (wOp dIx (wVar 2) (wCall true wf__law_take (wACons (wVar 0) (wACons (wC (.int 26)) wANil)))) [11])))
  (wSeq (wSet 6 (wCall true wf__law_take (wACons (wVar 0) (wACons (wC (.int 26)) wANil))))
  (wSeq (wSet 7 (wCB dInt1 (wACons (wAndV (wOp (bod bLt) (wVar 3) (wC (.int 10))) (wOp (bod (bSc id)) (wCall true wf__law_take (wACons (wVar 0) (wACons (wC (.int 3)) wANil))) (wC (.int 0)))) wANil)))
  (wSeq (wSet 8 (wLst wANil))
  (wSeq (wFor (wIRng1 (wACons (wVar 1) wANil)) (wgName 9) (wSeq (wSet 10 (wOp dAddS (wOp dAddS (wSl dSlS (wVar 5) wNoP (wPrt (wVar 4))) (wOp dIx (wVar 2) (wOp dMod (wOp dAdd (wVar 6) (wOp dMul (wC (.int 5)) (wVar 9))) (wC (.int 26))))) (wSl dSlS (wVar 5) (wPrt (wOp dAdd (wVar 4) (wC (.int 1)))) wNoP)))
  (wDrop (wApp 8 (wOp dAddS (wVar 10) (wOp dRepS (wC (.str "s")) (wOp dMul (wOp dMod (wVar 9) (wC (.int 2))) (wVar 7))))))))
  (wRet (wVar 8))))))))))
theorem d__law_names : ∀ ds row Ψ Ξ, wf__law_names ds row Ψ Ξ → goR (w__law_names (endsW true Ψ fun _ => False)) (startW true 12 ds row) := by
  rintro ds row Ψ Ξ ⟨m, N, rfl, hr, n0, n1, m0, m1, q⟩
  unfold w__law_names
  walk_at "ev"
  refine ⟨10, _, rfl, hr, by omega, by decide, by decide, fun v1 row1 v10 v11 R1 => ?_⟩
  walk_at "ev"
  refine ⟨1 + v1, _, rfl, R1, by omega, by omega, by omega, fun v3 row3 v30 v31 R3 => ?_⟩
  walk_at "ev"
  refine sideR_by (by omega) fun _ => ?_
  refine lcB_by (fun i acc Γ => ∃ (row5 : List D) (l : List Nat), Γ = [some (En.own row5), some (En.shr (D.int m)), some (En.shr (D.str (Str.ofString "abcdefghijklmnopqrstuvwxyz"))),
          some (En.shr (D.int (1 + v1))), some (En.shr (D.int v3)), none, none, none, none, none, none, none] ∧ acc = (l.map fun c => (⟨#[c]⟩ : Str)).map D.str ∧ l.length = i ∧ Lt l ∧ RowD (N + 2 + i) row5) ?_ ⟨_, [], rfl, rfl, rfl, (fun c hc => by cases hc), R3.mono (by omega)⟩ ?_ ?_
  · rw [rng_length]
    exact Nat.le_trans (m := 10) (by omega) (by decide)
  · rintro i acc Γ d hd ⟨row5, l, rfl, rfl, hl, hc, R5⟩
    obtain ⟨hi, rfl⟩ := rng_get hd
    walk_at "ev"
    refine ⟨26, _, rfl, R5, by omega, by decide, by decide, fun v6 row6 v60 v61 R6 => ?_⟩
    walk_at "ev"
    walk_at "sd"
    refine ⟨_, abc_at v60 v61, ?_⟩
    walk_at "ev"
    refine ⟨row6, l ++ [97 + v6.toNat], rfl, by simp, by simp [hl], fun c' hc' => ?_, R6.mono (by omega)⟩
    rcases List.mem_append.mp hc' with z | z
    · exact hc c' z
    · cases List.mem_singleton.mp z
      omega
  rintro acc Γ ⟨row5, l, rfl, rfl, hl, hc, R5⟩
  rw [rng_length] at hl R5
  walk_at "ev"
  refine sideR_by ?_ fun _ => ?_
  · rw [ones_sum, List.length_map]
    show l.length + l.length * 0 ≤ 16777216
    omega
  rw [join_mk]
  walk_at "ev"
  refine ⟨26, _, rfl, R5, by omega, by decide, by decide, fun v6 row6 v60 v61 R6 => ?_⟩
  walk_at "ev"
  have lw : ((mkS l).length : Int) = 1 + v1 := by rw [len_mk]; omega
  have c1 : cutS (mkS l) none (some v3) = mkS (l.take v3.toNat) := ext_mk (by rw [cut_head v30 (by omega), tl_mk])
  have c2 : cutS (mkS l) (some (v3 + 1)) none = mkS (l.drop (v3 + 1).toNat) := ext_mk (by rw [cut_fr _ (by omega) (by omega), tl_mk])
  have lL : (l.take v3.toNat).length = v3.toNat := by rw [List.length_take]; omega
  have lR : (l.drop (v3 + 1).toNat).length = l.length - (v3 + 1).toNat := List.length_drop ..
  have aL : Lt (l.take v3.toNat) := fun c h => hc c (List.mem_of_mem_take h)
  have aR : Lt (l.drop (v3 + 1).toNat) := fun c h => hc c (List.mem_of_mem_drop h)
  refine iteR_by (fun h => ?_) (fun h => ?_)
  rotate_left
  have R7 : RowD (N + 2 + ((1 + v1).toNat : Int) + 1 + 1) row6 := R6.mono (by omega)
  obtain ⟨lg, elg, l1, l9⟩ : ∃ lg : Nat, (if false then (1 : Int) else 0) = (lg : Int) ∧ lg ≤ 1 ∧ (lg = 1 → v1 < 9) := ⟨0, by simp, by omega, fun y => by cases y⟩
  walk_at "ev"
  rw [show (D.int 0) = D.int ((lg : Nat) : Int) from congrArg D.int (elg)]
  clear elg
  obtain ⟨rowZ, eZ⟩ : ∃ rowZ, rowZ = row6 := ⟨_, rfl⟩
  rw [← eZ] at R7 ⊢
  clear eZ
  rotate_left
  have h10 := of_decide_eq_true h
  walk_at "ev"
  refine ⟨3, _, rfl, R6, by omega, by decide, by decide, fun v8 row7 v80 v81 R7 => ?_⟩
  walk_at "ev"
  obtain ⟨lg, elg, l1, l9⟩ : ∃ lg : Nat, (if id (decide (v8 = 0)) then (1 : Int) else 0) = (lg : Int) ∧ lg ≤ 1 ∧ (lg = 1 → v1 < 9) := by
    by_cases z : v8 = 0
    · exact ⟨1, by simp [z], by omega, fun _ => by omega⟩
    · exact ⟨0, by simp [z], by omega, fun y => by cases y⟩
  rw [elg]
  clear elg
  obtain ⟨rowZ, eZ⟩ : ∃ rowZ, rowZ = row7 := ⟨_, rfl⟩
  rw [← eZ] at R7 ⊢
  clear eZ
  all_goals
    have R7 : RowD (N + 15) rowZ := R7.mono (by omega)
    refine sideR_by (by decide) fun _ => ?_
    walk_at "ev"
    refine sideR_by (by omega) fun _ => ?_
    refine forB_by (fun i Γ => ∃ e9 e10 e11 : Option En, Γ = [some (En.own rowZ), some (En.shr (D.int m)), some (En.shr (D.str (Str.ofString "abcdefghijklmnopqrstuvwxyz"))),
          some (En.shr (D.int (1 + v1))), some (En.shr (D.int v3)), some (En.shr (D.str (mkS l))), some (En.shr (D.int v6)), some (En.shr (D.int (lg : Nat))), some (En.own (((List.range i).map (nmK (l.take v3.toNat) (l.drop (v3 + 1).toNat) v6 lg)).map D.str)), e9, e10, e11]) ⟨_, _, _, rfl⟩ ?_ ?_
    · rintro i Γ d hd ⟨e9, e10, e11, rfl⟩
      obtain ⟨hi, rfl⟩ := rng_get hd
      walk_at "ev"
      refine sideR_by (Nat.le_trans (m := 10) (by rw [len_mk]; omega) (by decide)) fun _ => ?_
      walk_at "ev"
      rw [Int.zero_add]
      refine sideR_by (.inr (.inl ⟨by decide, by decide⟩)) fun _ => ?_
      walk_at "ev"
      refine sideR_by (by decide) fun _ => ?_
      walk_at "ev"
      walk_at "sd"
      refine ⟨_, abc_at (Int.emod_nonneg _ (by decide)) (Int.emod_lt_of_pos _ (by decide)), ?_⟩
      walk_at "ev"
      rw [c1]
      have sz : ∀ n : Nat, n ≤ 1000 → n ≤ sizeLine := fun n h => Nat.le_trans h (by decide)
      have hN : nmK (l.take v3.toNat) (l.drop (v3 + 1).toNat) v6 lg i = mkS ((l.take v3.toNat ++ [97 + ((v6 + 5 * (i : Int)) % 26).toNat] ++ l.drop (v3 + 1).toNat) ++ List.replicate (i % 2 * lg) 115) := rfl
      rw [range_snoc, hN]
      generalize 97 + ((v6 + 5 * (i : Int)) % 26).toNat = cc at *
      rw [show (⟨#[cc]⟩ : Str) = mkS [cc] from rfl]
      refine sideR_by (sz _ (by rw [len_mk, len_mk, lL]; simp; omega)) fun _ => ?_
      rw [app_mk]
      walk_at "ev"
      refine sideR_by (sz _ (by rw [len_mk]; omega)) fun _ => ?_
      rw [c2]
      walk_at "ev"
      refine sideR_by (sz _ (by rw [len_mk, len_mk, List.length_append, lL, lR]; simp; omega)) fun _ => ?_
      rw [app_mk]
      walk_at "ev"
      refine sideR_by (by decide) fun _ => ?_
      walk_at "ev"
      refine sideR_by (.inr (.inl ⟨by omega, by omega⟩)) fun _ => ?_
      have hk : (((i : Nat) : Int) % 2 * (lg : Int)) = ((i % 2 * lg : Nat) : Int) := by rw [Int.natCast_mul]; rfl
      have hk1 : i % 2 * lg ≤ 1 := by
        have : i % 2 = 0 ∨ i % 2 = 1 := by omega
        rcases this with h | h <;> rw [h] <;> omega
      rw [hk]
      generalize i % 2 * lg = kk at *
      walk_at "ev"
      refine sideR_by ⟨by omega, by omega, by decide, by rw [show (Str.ofString "s").length = 1 from rfl]; omega⟩ fun _ => ?_
      rw [show repS (Str.ofString "s") ((kk : Nat) : Int) = mkS (List.replicate kk 115) from ext_mk ((repS_tl 115 (kk : Int)).trans (by simp))]
      walk_at "ev"
      refine sideR_by (sz _ (by rw [len_mk, len_mk, List.length_append, List.length_append, lL, lR]; simp; omega)) fun _ => ?_
      rw [app_mk]
      walk_at "ev"
      refine sideR_by (by rw [List.length_map, List.length_map, List.length_range]; exact Nat.lt_of_lt_of_le (m := 13) (by omega) (by decide)) fun _ => ?_
      rw [List.map_append]
      exact ⟨_, _, _, rfl⟩
    · rintro Γ ⟨e9, e10, e11, rfl⟩
      rw [rng_length]
      walk_at "ev"
      refine q _ _ (by rw [List.length_map, List.length_range]; omega) (fun s hs => ?_) (nmK_nodup (by omega)) (R7.mono (by omega))
      obtain ⟨k, hk, rfl⟩ := List.mem_map.mp hs
      exact nmK_nm aL aR (by omega)
abbrev s__law_names : Stmt := top 24
theorem sc__law_names : FnScope ["_law_row", "_law_many", "_law_letters", "_law_size", "_law_at", "_law_base", "_law_first", "_law_longer", "_law_found", "_law_k", "_law_name", "_law_turn"] ["_law_row", "_law_many"] (defScope s__law_names) := ⟨rfl, rfl, rfl, by decide +kernel, rfl, by decide +kernel, by decide +kernel⟩
theorem ok__law_names {P : Program} {w : World} {K : PySem.W.Frag} {mg : Str → Option Value} {base : Heap} {ts : List Addr} {f : Addr} {fd : FuncData} (F : Fun K "_law_names" "_law_names" s__law_names f fd) (C__law_take : Cal P w K mg base (CXE P w) 1 "_law_take" ["_law_row", "_law_base"] (spD ⟨K, ts, LSK K⟩ true wf__law_take)) (z_range : mg "range" = none) (z_int : mg "int" = none) : FnOk P w K mg base (CXE P w) 2 f fd ["_law_row", "_law_many"] (spD ⟨K, ts, LSK K⟩ true wf__law_names) := by
  have nd := (sc__law_names).nd
  refine fn_d F sc__law_names (by decide) (fun ds row Ψ Ξ h => by first | (obtain ⟨rfl, _⟩ := h; rfl) | (obtain ⟨_, rfl, _⟩ := h; rfl) | (obtain ⟨_, _, rfl, _⟩ := h; rfl) | (obtain ⟨_, _, _, rfl, _⟩ := h; rfl) | (obtain ⟨_, _, _, _, rfl, _⟩ := h; rfl) | (obtain ⟨_, _, _, _, _, rfl, _⟩ := h; rfl) | (obtain ⟨_, _, _, _, _, _, rfl, _⟩ := h; rfl) | (obtain ⟨_, _, _, _, _, _, _, rfl, _⟩ := h; rfl) | (obtain ⟨_, _, _, _, _, _, _, _, rfl, _⟩ := h; rfl) | (obtain ⟨_, _, _, _, _, _, _, _, _, rfl, _⟩ := h; rfl) | (obtain ⟨_, _, _, _, _, _, _, _, _, _, rfl, _⟩ := h; rfl) | (obtain ⟨_, _, _, _, _, _, _, _, _, _, _, rfl, _⟩ := h; rfl) | (obtain ⟨_, _, _, _, _, _, _, _, _, _, _, _, rfl, _⟩ := h; rfl) | (obtain ⟨_, _, _, _, _, _, _, _, _, _, _, _, _, rfl, _⟩ := h; rfl)) d__law_names (fun cdv A outer s H E hr => ⟨_, (q_sc (q_set (i := 2) nd rfl (Or.inr rfl) q_str (Or.inl (by decide)) (by rfl) (by first | exact .inl rfl | exact .inr rfl))
      (q_sc (q_set (i := 3) nd rfl (Or.inl rfl) (q_op op_add od_add q_int (q_call C__law_take hr passE0 (q_cons (q_v 0 (pv 0)) (q_cons q_int q_nil (by rfl)) (by rfl)) (by rfl) (by decide) (by decide) (by rfl))) (Or.inl (by decide)) (by rfl) (by first | exact .inl rfl | exact .inr rfl))
      (q_sc (q_set (i := 4) nd rfl (Or.inl rfl) (q_call C__law_take hr passE0 (q_cons (q_v 0 (pv 0)) (q_cons (q_v 3 (pv 3)) q_nil (by rfl)) (by rfl)) (by rfl) (by decide) (by decide) (by rfl)) (Or.inl (by decide)) (by rfl) (by first | exact .inl rfl | exact .inr rfl))
      (q_sc (q_set (i := 5) nd rfl (Or.inl rfl) (q_join q_str (q_lc (own := [("_law_turn", 11)]) (by rfl) nd (q_ir1 (by rfl) z_range (q_cons (q_v 3 (pv 3)) q_nil (by rfl)) (by rfl)) (blkOk_by (own := [("_law_turn", 11)]) (N := ["_law_row", "_law_many", "_law_letters", "_law_size", "_law_at", "_law_base", "_law_first", "_law_longer", "_law_found", "_law_k", "_law_name", "_law_turn"]) (sc := defScope s__law_names) (by decide +kernel)) (fun _ _ _ _ _ => (q_cn (i := 11) (pg_name nd rfl (Or.inl rfl)) (by decide))) (fun _ _ _ _ _ => q_t0) (fun _ _ _ _ _ => (q_ix (ix_seqK (by rfl)) od_ix (q_v 2 (pv 2)) (q_call C__law_take hr passE0 (q_cons (q_v 0 (pv 0)) (q_cons q_int q_nil (by rfl)) (by rfl)) (by rfl) (by decide) (by decide) (by rfl)) (fun _ _ => rfl))) (fun _ => rfl)) (by rfl) (by rfl) (by rfl) (by rfl)) (Or.inl (by decide)) (by rfl) (by first | exact .inl rfl | exact .inr rfl))
      (q_sc (q_set (i := 6) nd rfl (Or.inl rfl) (q_call C__law_take hr passE0 (q_cons (q_v 0 (pv 0)) (q_cons q_int q_nil (by rfl)) (by rfl)) (by rfl) (by decide) (by decide) (by rfl)) (Or.inl (by decide)) (by rfl) (by first | exact .inl rfl | exact .inr rfl))
      (q_sc (q_set (i := 7) nd rfl (Or.inl rfl) (q_cT call_int1 cd_int1 (by rfl) z_int (by decide +kernel) (q_cons (q_andV (q_cmp op_lt bd_lt (q_v 3 (pv 3)) q_int (nomark _)) (q_one (q_cmp op_eq bd_eq (q_call C__law_take hr passE0 (q_cons (q_v 0 (pv 0)) (q_cons q_int q_nil (by rfl)) (by rfl)) (by rfl) (by decide) (by decide) (by rfl)) q_int (nomark _)))) q_nil (by rfl)) (by decide) (by decide) (by rfl)) (Or.inl (by decide)) (by rfl) (by first | exact .inl rfl | exact .inr rfl))
      (q_sc (q_set (i := 8) nd rfl (Or.inl rfl) (q_lst q_nil) (Or.inl (by decide)) (by rfl) (by first | exact .inl rfl | exact .inr rfl))
      (q_sc (q_for PassesOwn.never (by rfl) (q_ir1 (by rfl) z_range (q_cons (q_v 1 (pv 1)) q_nil (by rfl)) (by rfl)) (q_gn (i := 9) (pg_name nd rfl (Or.inl rfl)) (Or.inl (by decide))) (q_sc (q_set (i := 10) nd rfl (Or.inl rfl) (q_op op_add_str od_addS (q_op op_add_str od_addS (q_sl sl_str ld_str (q_v 5 (pv 5)) q_o0 (q_o1 (q_v 4 (pv 4)))) (q_ix (ix_seqK (by rfl)) od_ix (q_v 2 (pv 2)) (q_op op_mod od_mod (q_op op_add od_add (q_v 6 (pv 6)) (q_op op_mulB od_mul q_int (q_v 9 (pv 9)))) q_int) (fun _ _ => rfl))) (q_sl sl_str ld_str (q_v 5 (pv 5)) (q_o1 (q_op op_add od_add (q_v 4 (pv 4)) q_int)) q_o0)) (Or.inl (by decide)) (by rfl) (by first | exact .inl rfl | exact .inr rfl))
      (q_s1 (q_drop (q_app (pv 8) (q_op op_add_str od_addS (q_v 10 (pv 10)) (q_op op_repS od_repS q_str (q_op op_mulB od_mul (q_op op_mod od_mod (q_v 9 (pv 9)) q_int) (q_v 7 (pv 7))))) (by rfl) (by rfl) (by rfl) (by rfl)) (by rfl)))) (fun _ => rfl))
      (q_s1 (q_ret (q_v 8 (pv 8))))))))))))⟩)
def w__law_whole : WS := (wRet (wAndV (wCB dIsi (wACons (wVar 0) (wACons (wC (.ty "int")) wANil))) (wNotV (wCB dIsi (wACons (wVar 0) (wACons (wC (.ty "bool")) wANil))))))
theorem d__law_whole : ∀ ds row Ψ Ξ, wf__law_whole ds row Ψ Ξ → goR (w__law_whole (endsW false Ψ fun _ => False)) (startW false 1 ds row) := by
  rintro ds row Ψ Ξ ⟨t, rfl, q⟩
  unfold w__law_whole
  walk_at "ev"
  exact q
abbrev s__law_whole : Stmt := top 22
theorem sc__law_whole : FnScope ["_law_found"] ["_law_found"] (defScope s__law_whole) := ⟨rfl, rfl, rfl, by decide +kernel, rfl, by decide +kernel, by decide +kernel⟩
theorem ok__law_whole {P : Program} {w : World} {K : PySem.W.Frag} {mg : Str → Option Value} {base : Heap} {ts : List Addr} {f : Addr} {fd : FuncData} (F : Fun K "_law_whole" "_law_whole" s__law_whole f fd)  (z_isinstance : mg "isinstance" = none) (z_int : mg "int" = none) (z_bool : mg "bool" = none) : FnOk P w K mg base (CXE P w) 1 f fd ["_law_found"] (spD ⟨K, ts, LSK K⟩ false wf__law_whole) := by
  have nd := (sc__law_whole).nd
  refine fn_d F sc__law_whole (by decide) (fun ds row Ψ Ξ h => by first | (obtain ⟨rfl, _⟩ := h; rfl) | (obtain ⟨_, rfl, _⟩ := h; rfl) | (obtain ⟨_, _, rfl, _⟩ := h; rfl) | (obtain ⟨_, _, _, rfl, _⟩ := h; rfl) | (obtain ⟨_, _, _, _, rfl, _⟩ := h; rfl) | (obtain ⟨_, _, _, _, _, rfl, _⟩ := h; rfl) | (obtain ⟨_, _, _, _, _, _, rfl, _⟩ := h; rfl) | (obtain ⟨_, _, _, _, _, _, _, rfl, _⟩ := h; rfl) | (obtain ⟨_, _, _, _, _, _, _, _, rfl, _⟩ := h; rfl) | (obtain ⟨_, _, _, _, _, _, _, _, _, rfl, _⟩ := h; rfl) | (obtain ⟨_, _, _, _, _, _, _, _, _, _, rfl, _⟩ := h; rfl) | (obtain ⟨_, _, _, _, _, _, _, _, _, _, _, rfl, _⟩ := h; rfl) | (obtain ⟨_, _, _, _, _, _, _, _, _, _, _, _, rfl, _⟩ := h; rfl) | (obtain ⟨_, _, _, _, _, _, _, _, _, _, _, _, _, rfl, _⟩ := h; rfl)) d__law_whole (fun cdv A outer s H E hr => ⟨_, (q_s1 (q_ret (q_andV (q_cB (call_isiK (by rfl)) cd_isi (by rfl) z_isinstance (by decide +kernel) (q_cons (q_v 0 (pv 0)) (q_cons (q_glob (pe_bltn (v := .ty "int") (by rfl) z_int (by decide +kernel) rfl) (fun _ => .ty _)) q_nil (by rfl)) (by rfl)) (by decide) (by decide) (by rfl)) (q_one (q_notV (q_cB (call_isiK (by rfl)) cd_isi (by rfl) z_isinstance (by decide +kernel) (q_cons (q_v 0 (pv 0)) (q_cons (q_glob (pe_bltn (v := .ty "bool") (by rfl) z_bool (by decide +kernel) rfl) (fun _ => .ty _)) q_nil (by rfl)) (by rfl)) (by decide) (by decide) (by rfl)))))))⟩)
def w_Scale_stretch : WS := (wRet (wTup (wACons (wMeth "at_levels" [("Scale", wf_Scale_at_levels)] (wVar 0) (wACons (wCall false wf_fraction (wACons (wOp dSub (wOp dMul (wC (.int 2)) (wVar 1)) (wC (.int 1))) (wACons (wC (.int 2)) wANil))) wANil)) (wACons (wMeth "at_levels" [("Scale", wf_Scale_at_levels)] (wVar 0) (wACons (wCall false wf_fraction (wACons (wOp dAdd (wOp dMul (wC (.int 2)) (wVar 1)) (wC (.int 1))) (wACons (wC (.int 2)) wANil))) wANil)) wANil))))
theorem d_Scale_stretch : ∀ ds row Ψ Ξ, wf_Scale_stretch ds row Ψ Ξ → goR (w_Scale_stretch (endsW false Ψ fun _ => False)) (startW false 2 ds row) := by
  rintro ds row Ψ Ξ ⟨t, b, t2, b2, n, c, rfl, B, c0, c1, q⟩
  unfold w_Scale_stretch
  have d2 : Bd 3100 2 := Bd.mono (m := 6) (by unfold Bd; decide) (by decide)
  have e1 : Bd 20 (2 * c - 1) := Bd.mono (m := 10) (by unfold Bd; omega) (by decide)
  have e2 : Bd 20 (2 * c + 1) := Bd.mono (m := 10) (by unfold Bd; omega) (by decide)
  walk_at "ev"
  refine objR_by rfl rfl ?_
  walk_at "ev"
  repeat walk_at "sd"
  refine ⟨2 * c - 1, 2, rfl, e1.mono, d2, by decide, ?_⟩
  rw [(low_odd c).1, (low_odd c).2]
  walk_at "ev"
  refine ⟨t, b, t2, b2, n, 2 * c - 1, 2, rfl, B, e1.mono, Bd.mono (m := 6) (by unfold Bd; decide) (by decide), by decide, ?_⟩
  walk_at "ev"
  refine objR_by rfl rfl ?_
  walk_at "ev"
  repeat walk_at "sd"
  refine ⟨2 * c + 1, 2, rfl, e2.mono, d2, by decide, ?_⟩
  rw [(low_odd' c).1, (low_odd' c).2]
  walk_at "ev"
  refine ⟨t, b, t2, b2, n, 2 * c + 1, 2, rfl, B, e2.mono, Bd.mono (m := 6) (by unfold Bd; decide) (by decide), by decide, ?_⟩
  walk_at "ev"
  repeat walk_at "sd"
  exact q
abbrev s_Scale_stretch : Stmt := clsBody (top 13) 4
theorem sc_Scale_stretch : FnScope ["self", "level"] ["self", "level"] (defScope s_Scale_stretch) := ⟨rfl, rfl, rfl, by decide +kernel, rfl, by decide +kernel, by decide +kernel⟩
theorem ok_Scale_stretch {P : Program} {w : World} {K : PySem.W.Frag} {mg : Str → Option Value} {base : Heap} {ts : List Addr} {f : Addr} {fd : FuncData} (F : Fun K "stretch" "Scale.stretch" s_Scale_stretch f fd) (C_fraction : Cal P w K mg base (CXE P w) 2 "fraction" ["top", "bottom"] (spD ⟨K, ts, LSK K⟩ false wf_fraction)) (CC_Scale_at_levels : CalC P w K mg base (CXE P w) 4 "Scale" "at_levels" ["self", "levels"] (spD ⟨K, ts, LSK K⟩ false wf_Scale_at_levels))  : FnOk P w K mg base (CXE P w) 5 f fd ["self", "level"] (spD ⟨K, ts, LSK K⟩ false wf_Scale_stretch) := by
  have nd := (sc_Scale_stretch).nd
  refine fn_d F sc_Scale_stretch (by decide) (fun ds row Ψ Ξ h => by first | (obtain ⟨rfl, _⟩ := h; rfl) | (obtain ⟨_, rfl, _⟩ := h; rfl) | (obtain ⟨_, _, rfl, _⟩ := h; rfl) | (obtain ⟨_, _, _, rfl, _⟩ := h; rfl) | (obtain ⟨_, _, _, _, rfl, _⟩ := h; rfl) | (obtain ⟨_, _, _, _, _, rfl, _⟩ := h; rfl) | (obtain ⟨_, _, _, _, _, _, rfl, _⟩ := h; rfl) | (obtain ⟨_, _, _, _, _, _, _, rfl, _⟩ := h; rfl) | (obtain ⟨_, _, _, _, _, _, _, _, rfl, _⟩ := h; rfl) | (obtain ⟨_, _, _, _, _, _, _, _, _, rfl, _⟩ := h; rfl) | (obtain ⟨_, _, _, _, _, _, _, _, _, _, rfl, _⟩ := h; rfl) | (obtain ⟨_, _, _, _, _, _, _, _, _, _, _, rfl, _⟩ := h; rfl) | (obtain ⟨_, _, _, _, _, _, _, _, _, _, _, _, rfl, _⟩ := h; rfl) | (obtain ⟨_, _, _, _, _, _, _, _, _, _, _, _, _, rfl, _⟩ := h; rfl)) d_Scale_stretch (fun cdv A outer s H E hr => ⟨_, (q_s1 (q_ret (q_tup (q_cons (q_meth (mt_cons CC_Scale_at_levels (by decide) (by rfl) mt_nil) (q_v 0 (pv 0)) (q_cons (q_call C_fraction hr passE0 (q_cons (q_op op_sub od_sub (q_op op_mulB od_mul q_int (q_v 1 (pv 1))) q_int) (q_cons q_int q_nil (by rfl)) (by rfl)) (by rfl) (by decide) (by decide) (by rfl)) q_nil (by rfl)) hr passE0 (by rfl)) (q_cons (q_meth (mt_cons CC_Scale_at_levels (by decide) (by rfl) mt_nil) (q_v 0 (pv 0)) (q_cons (q_call C_fraction hr passE0 (q_cons (q_op op_add od_add (q_op op_mulB od_mul q_int (q_v 1 (pv 1))) q_int) (q_cons q_int q_nil (by rfl)) (by rfl)) (by rfl) (by decide) (by decide) (by rfl)) q_nil (by rfl)) hr passE0 (by rfl)) q_nil (by rfl)) (by rfl)))))⟩)
def w_share_stretches : WS := (wSeq (wSet 2 (wLst wANil))
  (wSeq (wSet 3 (wC (.int 0)))
  (wSeq (wFor (wIList (wVar 1)) (wgName 4) (wSeq (wSet 5 (wOp dSub (wVar 4) (wVar 3)))
  (wSeq (wDrop (wApp 2 (wTup (wACons (wCall false wf_fraction (wACons (wOp dMul (wC (.int 100)) (wOp dSub (wVar 5) (wC (.int 1)))) (wACons (wVar 0) wANil))) (wACons (wCall false wf_fraction (wACons (wOp dMul (wC (.int 100)) (wOp dAdd (wVar 5) (wC (.int 1)))) (wACons (wVar 0) wANil))) wANil)))))
  (wSet 3 (wVar 4)))))
  (wRet (wVar 2)))))
theorem d_share_stretches : ∀ ds row Ψ Ξ, wf_share_stretches ds row Ψ Ξ → goR (w_share_stretches (endsW false Ψ fun _ => False)) (startW false 6 ds row) := by
  rintro ds row Ψ Ξ ⟨n, l, rfl, n0, n1, l4, hx, q⟩
  unfold w_share_stretches
  walk_at "ev"
  walk_at "sd"
  have bn : Bd 3100 n := (nb n0 n1).mono (by decide)
  refine forB_by (fun i Γ => ∃ x4 x5, Γ = [some (En.shr (D.int n)), some (En.shr (D.lst (List.map D.int l))), some (En.own ((List.range i).map fun i => shrP n (l.getD i 0 - prv l i))), some (En.shr (D.int (prv l i))), x4, x5]) ⟨_, _, rfl⟩ ?_ ?_
  rotate_left
  · rintro Γ ⟨x4, x5, rfl⟩
    rw [List.length_map]
    walk_at "ev"
    exact q
  rintro i Γ d hd ⟨x4, x5, rfl⟩
  rw [List.getElem?_map] at hd
  obtain ⟨x, hxi, rfl⟩ := Option.map_eq_some_iff.mp hd
  have il : i < l.length := (List.getElem?_eq_some_iff.mp hxi).1
  have hb := hx x (List.mem_of_getElem? hxi)
  have gx : l.getD i 0 = x := by rw [List.getD_eq_getElem?_getD, hxi]; rfl
  have pb : 0 ≤ prv l i ∧ prv l i ≤ n := by
    unfold prv
    split
    · omega
    · exact hx _ (List.mem_of_getElem? (i := i - 1) (by rw [List.getD_eq_getElem?_getD, List.getElem?_eq_getElem (by omega)]; rfl))
  have np : prv l (i + 1) = x := by
    unfold prv
    rw [if_neg (by omega), show i + 1 - 1 = i by omega, gx]
  obtain ⟨p, hp⟩ : ∃ p, p = x - prv l i := ⟨_, rfl⟩
  walk_at "ev"
  rw [← hp]
  repeat walk_at "sd"
  refine ⟨100 * (p - 1), n, rfl, Bd.mono (m := 20) (by unfold Bd; omega) (by decide), bn, by omega, ?_⟩
  walk_at "ev"
  repeat walk_at "sd"
  refine ⟨100 * (p + 1), n, rfl, Bd.mono (m := 20) (by unfold Bd; omega) (by decide), bn, by omega, ?_⟩
  walk_at "ev"
  refine sideR_by (by decide) fun _ => ?_
  walk_at "ev"
  refine sideR_by (by rw [List.length_map, List.length_range]; exact Nat.lt_of_le_of_lt (m := 4) (by omega) (by decide)) fun _ => ?_
  walk_at "ev"
  refine ⟨some (En.shr (D.int x)), some (En.shr (D.int p)), ?_⟩
  rw [np, List.range_succ, List.map_append, List.map_singleton, gx, ← hp]
  rfl
abbrev s_share_stretches : Stmt := top 16
theorem sc_share_stretches : FnScope ["rows", "band", "told", "ahead", "level", "part"] ["rows", "band"] (defScope s_share_stretches) := ⟨rfl, rfl, rfl, by decide +kernel, rfl, by decide +kernel, by decide +kernel⟩
theorem ok_share_stretches {P : Program} {w : World} {K : PySem.W.Frag} {mg : Str → Option Value} {base : Heap} {ts : List Addr} {f : Addr} {fd : FuncData} (F : Fun K "share_stretches" "share_stretches" s_share_stretches f fd) (C_fraction : Cal P w K mg base (CXE P w) 2 "fraction" ["top", "bottom"] (spD ⟨K, ts, LSK K⟩ false wf_fraction))  : FnOk P w K mg base (CXE P w) 3 f fd ["rows", "band"] (spD ⟨K, ts, LSK K⟩ false wf_share_stretches) := by
  have nd := (sc_share_stretches).nd
  refine fn_d F sc_share_stretches (by decide) (fun ds row Ψ Ξ h => by first | (obtain ⟨rfl, _⟩ := h; rfl) | (obtain ⟨_, rfl, _⟩ := h; rfl) | (obtain ⟨_, _, rfl, _⟩ := h; rfl) | (obtain ⟨_, _, _, rfl, _⟩ := h; rfl) | (obtain ⟨_, _, _, _, rfl, _⟩ := h; rfl) | (obtain ⟨_, _, _, _, _, rfl, _⟩ := h; rfl) | (obtain ⟨_, _, _, _, _, _, rfl, _⟩ := h; rfl) | (obtain ⟨_, _, _, _, _, _, _, rfl, _⟩ := h; rfl) | (obtain ⟨_, _, _, _, _, _, _, _, rfl, _⟩ := h; rfl) | (obtain ⟨_, _, _, _, _, _, _, _, _, rfl, _⟩ := h; rfl) | (obtain ⟨_, _, _, _, _, _, _, _, _, _, rfl, _⟩ := h; rfl) | (obtain ⟨_, _, _, _, _, _, _, _, _, _, _, rfl, _⟩ := h; rfl) | (obtain ⟨_, _, _, _, _, _, _, _, _, _, _, _, rfl, _⟩ := h; rfl) | (obtain ⟨_, _, _, _, _, _, _, _, _, _, _, _, _, rfl, _⟩ := h; rfl)) d_share_stretches (fun cdv A outer s H E hr => ⟨_, (q_sc (q_set (i := 2) nd rfl (Or.inl rfl) (q_lst q_nil) (Or.inl (by decide)) (by rfl) (by first | exact .inl rfl | exact .inr rfl))
      (q_sc (q_set (i := 3) nd rfl (Or.inl rfl) q_int (Or.inl (by decide)) (by rfl) (by first | exact .inl rfl | exact .inr rfl))
      (q_sc (q_for PassesOwn.never (by rfl) (q_il (by rfl) (q_v 1 (pv 1))) (q_gn (i := 4) (pg_name nd rfl (Or.inl rfl)) (Or.inl (by decide))) (q_sc (q_set (i := 5) nd rfl (Or.inl rfl) (q_op op_sub od_sub (q_v 4 (pv 4)) (q_v 3 (pv 3))) (Or.inl (by decide)) (by rfl) (by first | exact .inl rfl | exact .inr rfl))
      (q_sc (q_drop (q_app (pv 2) (q_tup (q_cons (q_call C_fraction hr passE0 (q_cons (q_op op_mulB od_mul q_int (q_op op_sub od_sub (q_v 5 (pv 5)) q_int)) (q_cons (q_v 0 (pv 0)) q_nil (by rfl)) (by rfl)) (by rfl) (by decide) (by decide) (by rfl)) (q_cons (q_call C_fraction hr passE0 (q_cons (q_op op_mulB od_mul q_int (q_op op_add od_add (q_v 5 (pv 5)) q_int)) (q_cons (q_v 0 (pv 0)) q_nil (by rfl)) (by rfl)) (by rfl) (by decide) (by decide) (by rfl)) q_nil (by rfl)) (by rfl))) (by rfl) (by rfl) (by rfl) (by rfl)) (by rfl))
      (q_s1 (q_set (i := 3) nd rfl (Or.inl rfl) (q_v 4 (pv 4)) (Or.inl (by decide)) (by rfl) (by first | exact .inl rfl | exact .inr rfl))))) (fun _ => rfl))
      (q_s1 (q_ret (q_v 2 (pv 2)))))))⟩)
def w_stretches_of : WS := (wSeq (wAsg (wVar 0) (wgTup 7 (wgCons (wgName 1) (wgCons (wgName 2) (wgCons (wgName 3) (wgCons (wgName 4) (wgCons (wgName 5) (wgCons (wgName 6) (wgCons (wgName 7) wgNil)))))))))
  (wSeq (wIfS (wCmp (bSc id) (wVar 1) (wC (.str "shares"))) (wRet (wLcN (wIList (wVar 5)) (wgName 9) (wCall false wf_share_stretches (wACons (wVar 3) (wACons (wVar 9) wANil))) [9])) wNext)
  (wSeq (wSet 8 (wCall false wf_scale_over (wACons (wVar 4) (wACons (wVar 3) wANil))))
  (wRet (wLcN (wIList (wVar 5)) (wgName 9) (wLc (wIList (wVar 9)) (wgName 10) (fun Γ Ψ _ => Ψ true Γ) (wMeth "stretch" [("Scale", wf_Scale_stretch)] (wVar 8) (wACons (wVar 10) wANil)) [10]) [9])))))
theorem d_stretches_of : ∀ ds Ψ, wf_stretches_of ds [] Ψ (fun _ => False) → goR (w_stretches_of (endsN Ψ)) (startW false 11 ds []) := by
  rintro ds Ψ ⟨k, w, n, j, f, m, lss, xs, ss, rfl, g, q⟩
  unfold w_stretches_of planD
  have gm := g.gm
  have sc := gm.sc
  have m0 := gm.m0
  walk_at "ev"
  refine iteR_by (fun z => ?_) (fun z => ?_)
  · have z := of_decide_eq_true z
    subst z
    walk_at "ev"
    refine lcN_fg (fun l : List Int => shrB n l) (size_le (by have := g.l1; omega)) (fun l hl kk hk => ?_) ?_
    · walk_at "ev"
      have gl := g.ll l hl
      refine ⟨n, l, rfl, gm.n0, gm.n1, by rw [gl.1]; exact g.s1, gl.2.io, ?_⟩
      walk_at "ev"
      exact hk
    walk_at "ev"
    exact q
  have z := of_decide_eq_false z
  walk_at "ev"
  refine ⟨_, n, _, _, rfl, plMs_head m0, plMs_last m0, ?_⟩
  walk_at "ev"
  refine lcN_fg (fun l : List Int => (l.map (strD (mkP (Kx.R j * f)) (mkP (Kx.R j * (f + (m - 1)))) n))) (size_le (by have := g.l1; omega)) (fun l hl kk hk => ?_) ?_
  · walk_at "ev"
    have gl := g.ll l hl
    refine lcB_fg (fun x : Int => strD (mkP (Kx.R j * f)) (mkP (Kx.R j * (f + (m - 1)))) n x) (size_le (by have := g.s1; omega)) (fun x hx k2 hk2 => ?_) ?_
    · have xb := gl.2.io x hx
      have n1 := gm.n1
      walk_at "ev"
      refine objR_by rfl rfl ?_
      walk_at "ev"
      refine ⟨_, _, _, _, n, x, rfl, sc, by omega, by omega, ?_⟩
      walk_at "ev"
      exact hk2
    walk_at "ev"
    exact hk
  walk_at "ev"
  unfold bndD at q
  simp only [if_neg z] at q
  exact q
abbrev s_stretches_of : Stmt := top 17
theorem sc_stretches_of : FnScope ["plan", "kind", "width", "rows", "marks", "levels", "names", "series", "scale", "band", "level"] ["plan"] (defScope s_stretches_of) := ⟨rfl, rfl, rfl, by decide +kernel, rfl, by decide +kernel, by decide +kernel⟩
theorem ok_stretches_of {P : Program} {w : World} {K : PySem.W.Frag} {mg : Str → Option Value} {base : Heap} {ts : List Addr} {f : Addr} {fd : FuncData} (F : Fun K "stretches_of" "stretches_of" s_stretches_of f fd) (C_scale_over : Cal P w K mg base (CXE P w) 3 "scale_over" ["marks", "rows"] (spD ⟨K, ts, LSK K⟩ false wf_scale_over)) (C_share_stretches : Cal P w K mg base (CXE P w) 3 "share_stretches" ["rows", "band"] (spD ⟨K, ts, LSK K⟩ false wf_share_stretches)) (CC_Scale_stretch : CalC P w K mg base (CXE P w) 5 "Scale" "stretch" ["self", "level"] (spD ⟨K, ts, LSK K⟩ false wf_Scale_stretch))  : FnOk P w K mg base (CXE P w) 6 f fd ["plan"] (spN ⟨K, ts, LSK K⟩ wf_stretches_of) := by
  have nd := (sc_stretches_of).nd
  refine fn_dN F sc_stretches_of (by decide) (fun ds row Ψ Ξ h => by first | (obtain ⟨rfl, _⟩ := h; rfl) | (obtain ⟨_, rfl, _⟩ := h; rfl) | (obtain ⟨_, _, rfl, _⟩ := h; rfl) | (obtain ⟨_, _, _, rfl, _⟩ := h; rfl) | (obtain ⟨_, _, _, _, rfl, _⟩ := h; rfl) | (obtain ⟨_, _, _, _, _, rfl, _⟩ := h; rfl) | (obtain ⟨_, _, _, _, _, _, rfl, _⟩ := h; rfl) | (obtain ⟨_, _, _, _, _, _, _, rfl, _⟩ := h; rfl) | (obtain ⟨_, _, _, _, _, _, _, _, rfl, _⟩ := h; rfl) | (obtain ⟨_, _, _, _, _, _, _, _, _, rfl, _⟩ := h; rfl) | (obtain ⟨_, _, _, _, _, _, _, _, _, _, rfl, _⟩ := h; rfl) | (obtain ⟨_, _, _, _, _, _, _, _, _, _, _, rfl, _⟩ := h; rfl) | (obtain ⟨_, _, _, _, _, _, _, _, _, _, _, _, rfl, _⟩ := h; rfl) | (obtain ⟨_, _, _, _, _, _, _, _, _, _, _, _, _, rfl, _⟩ := h; rfl)) d_stretches_of (fun cdv A outer s H E hr => ⟨_, (q_nlift (q_asg (q_v 0 (pv 0)) (q_gt (by rfl) (by rfl) (q_g1 (q_gn (i := 1) (pg_name nd rfl (Or.inl rfl)) (Or.inl (by decide))) (q_g1 (q_gn (i := 2) (pg_name nd rfl (Or.inl rfl)) (Or.inl (by decide))) (q_g1 (q_gn (i := 3) (pg_name nd rfl (Or.inr rfl)) (Or.inl (by decide))) (q_g1 (q_gn (i := 4) (pg_name nd rfl (Or.inl rfl)) (Or.inl (by decide))) (q_g1 (q_gn (i := 5) (pg_name nd rfl (Or.inl rfl)) (Or.inl (by decide))) (q_g1 (q_gn (i := 6) (pg_name nd rfl (Or.inl rfl)) (Or.inl (by decide))) (q_g1 (q_gn (i := 7) (pg_name nd rfl (Or.inl rfl)) (Or.inl (by decide))) q_g0 (by rfl)) (by rfl)) (by rfl)) (by rfl)) (by rfl)) (by rfl)) (by rfl)) (by rfl) (by rfl)) (by rfl) (by rfl) (by rfl)) (fun _ _ h => h)
      (q_nif (q_cmpT op_eq bd_eq (q_v 1 (pv 1)) q_str (nomark _)) (q_nret (q_lcN (own := [("band", 9)]) (by rfl) nd (q_il (by rfl) (q_v 5 (pv 5))) (blkOk_by (own := [("band", 9)]) (N := ["plan", "kind", "width", "rows", "marks", "levels", "names", "series", "scale", "band", "level"]) (sc := defScope s_stretches_of) (by decide +kernel)) (fun _ _ _ _ _ => (q_cn (i := 9) (pg_name nd rfl (Or.inl rfl)) (by decide))) (fun _ _ _ _ _ => q_t0) (fun _ _ _ _ _ => (q_call C_share_stretches hr passE0 (q_cons (q_v 3 (pv 3)) (q_cons (q_v 9 (pv 9)) q_nil (by rfl)) (by rfl)) (by rfl) (by decide) (by decide) (by rfl))) (fun _ => rfl)))
      (q_nlift (q_set (i := 8) nd rfl (Or.inr rfl) (q_call C_scale_over hr passE0 (q_cons (q_v 4 (pv 4)) (q_cons (q_v 3 (pv 3)) q_nil (by rfl)) (by rfl)) (by rfl) (by decide) (by decide) (by rfl)) (Or.inl (by decide)) (by rfl) (by first | exact .inl rfl | exact .inr rfl)) (fun _ _ h => h)
      (q_nret (q_lcN (own := [("band", 9)]) (by rfl) nd (q_il (by rfl) (q_v 5 (pv 5))) (blkOk_by (own := [("band", 9)]) (N := ["plan", "kind", "width", "rows", "marks", "levels", "names", "series", "scale", "band", "level"]) (sc := defScope s_stretches_of) (by decide +kernel)) (fun _ _ _ _ _ => (q_cn (i := 9) (pg_name nd rfl (Or.inl rfl)) (by decide))) (fun _ _ _ _ _ => q_t0) (fun _ _ _ _ _ => (q_lc (own := [("level", 10)]) (by rfl) nd (q_il (by rfl) (q_v 9 (pv 9))) (blkOk_in (own := [("level", 10)]) (N := ["plan", "kind", "width", "rows", "marks", "levels", "names", "series", "scale", "band", "level"]) (by decide +kernel)) (fun _ _ _ _ _ => (q_cn (i := 10) (pg_name nd rfl (Or.inl rfl)) (by decide))) (fun _ _ _ _ _ => q_t0) (fun _ _ _ _ _ => (q_meth (mt_cons CC_Scale_stretch (by decide) (by rfl) mt_nil) (q_v 8 (pv 8)) (q_cons (q_v 10 (pv 10)) q_nil (by rfl)) hr passE0 (by rfl))) (fun _ => rfl))) (fun _ => rfl))))))⟩)
def w__law_marks : WS := (wSeq (wIfS (wCmp (bSc id) (wVar 1) (wC (.str "shares"))) (wSeq (wSet 3 (wLc (wITup (wTup (wACons (wC (.int 100)) (wACons (wC (.int 50)) (wACons (wC (.int 20)) (wACons (wC (.int 10)) (wACons (wC (.int 5)) wANil))))))) (wgName 11) (wCmp bLe (wOp dAdd (wOp dDiv (wC (.int 100)) (wVar 11)) (wC (.int 1))) (wOp dAdd (wOp dDiv (wVar 2) (wC (.int 2))) (wC (.int 2)))) (wVar 11) [11]))
  (wSeq (wSet 11 (wOp dIx (wVar 3) (wCall true wf__law_take (wACons (wVar 0) (wACons (wCB dLen (wACons (wVar 3) wANil)) wANil)))))
  (wRet (wLc (wIRng1 (wACons (wOp dAdd (wOp dDiv (wC (.int 100)) (wVar 11)) (wC (.int 1))) wANil)) (wgName 10) (fun Γ Ψ _ => Ψ true Γ) (wTup (wACons (wOp dMul (wVar 11) (wVar 10)) (wACons (wC (.int 1)) wANil))) [10])))) wNext)
  (wSeq (wSet 4 (wOp dAdd (wC (.int 2)) (wCall true wf__law_take (wACons (wVar 0) (wACons (wOp dAdd (wOp dDiv (wVar 2) (wC (.int 2))) (wC (.int 1))) wANil)))))
  (wSeq (wSet 5 (wOp dIx (wTup (wACons (wC (.int 1)) (wACons (wC (.int 2)) (wACons (wC (.int 5)) wANil)))) (wCall true wf__law_take (wACons (wVar 0) (wACons (wC (.int 3)) wANil)))))
  (wSeq (wSet 6 (wC (.int 1)))
  (wSeq (wSet 7 (wOp dSub (wCall true wf__law_take (wACons (wVar 0) (wACons (wC (.int 15)) wANil))) (wC (.int 8))))
  (wSeq (wFor (wIRng1 (wACons (wCB dAbs (wACons (wVar 7) wANil)) wANil)) (wgName 8) (wIfS (wCmp bLt (wVar 7) (wC (.int 0))) (wSet 6 (wOp dMul (wVar 6) (wC (.int 10)))) (wSet 5 (wOp dMul (wVar 5) (wC (.int 10))))))
  (wSeq (wSet 9 (wOp dIx (wLst (wACons (wC (.int 0)) (wACons (wOp dSub (wCall true wf__law_take (wACons (wVar 0) (wACons (wC (.int 2000)) wANil))) (wC (.int 1000))) wANil))) (wCB dInt1 (wACons (wOp (bod (bSc id)) (wVar 1) (wC (.str "lines"))) wANil))))
  (wSeq (wIfS (wCmp (bSc id) (wVar 1) (wC (.str "bars"))) (wSet 9 (wOp dSub (wC (.int 0)) (wCall true wf__law_take (wACons (wVar 0) (wACons (wVar 4) wANil))))) wNext)
  (wRet (wLc (wIRng1 (wACons (wVar 4) wANil)) (wgName 10) (fun Γ Ψ _ => Ψ true Γ) (wCall false wf__law_low (wACons (wOp dMul (wVar 5) (wOp dAdd (wVar 9) (wVar 10))) (wACons (wVar 6) wANil))) [10]))))))))))
theorem d__law_marks : ∀ ds row Ψ Ξ, wf__law_marks ds row Ψ Ξ → goR (w__law_marks (endsW true Ψ fun _ => False)) (startW true 12 ds row) := by
  rintro ds row Ψ Ξ ⟨k, n, N, rfl, hk, n0, n1, R, h0, h1, q⟩
  unfold w__law_marks
  walk_at "ev"
  refine iteR_by (fun hs => ?_) (fun hs => ?_)
  · have hs : k = "shares" := by simpa using hs
    walk_at "ev"
    refine sideR_by (by decide) fun _ => ?_
    rw [show [D.int 100, D.int 50, D.int 20, D.int 10, D.int 5] = ([100, 50, 20, 10, 5] : List Int).map D.int from rfl]
    walk_at "ev"
    refine lcB_ff (l := ([100, 50, 20, 10, 5] : List Int)) (fun s : Int => decide (100 / s + 1 ≤ n / 2 + 2)) (fun s => D.int s) (by decide) (fun s hm kk hk => ?_) ?_
    · have hm0 : 0 < s ∧ s ≤ 100 := (show ∀ s ∈ ([100, 50, 20, 10, 5] : List Int), 0 < s ∧ s ≤ 100 by decide) s hm
      walk_at "ev"
      refine sideR_by ⟨hm0.1, Bd.mono (m := 10) (by unfold Bd; omega) (by decide)⟩ fun _ => ?_
      walk_at "ev"
      refine sideR_by ⟨by decide, Bd.mono (m := 10) (by unfold Bd; omega) (by decide)⟩ fun _ => ?_
      walk_at "ev"
      refine iteR_by (fun z => ?_) (fun z => ?_)
      · walk_at "ev"
        rw [if_pos z] at hk
        exact hk
      · rw [if_neg (by rw [z]; decide)] at hk
        exact hk
    have hL : ∀ s ∈ ([100, 50, 20, 10, 5] : List Int).filter (fun s : Int => decide (100 / s + 1 ≤ n / 2 + 2)), s ∈ ([100, 50, 20, 10, 5] : List Int) ∧ 100 / s + 1 ≤ n / 2 + 2 := fun s hs => ⟨(List.mem_filter.mp hs).1, of_decide_eq_true (List.mem_filter.mp hs).2⟩
    have hL1 : (100 : Int) ∈ ([100, 50, 20, 10, 5] : List Int).filter (fun s : Int => decide (100 / s + 1 ≤ n / 2 + 2)) := List.mem_filter.mpr ⟨by decide, decide_eq_true (by omega)⟩
    have hL2 : (([100, 50, 20, 10, 5] : List Int).filter (fun s : Int => decide (100 / s + 1 ≤ n / 2 + 2))).length ≤ 5 := List.length_filter_le ..
    generalize ([100, 50, 20, 10, 5] : List Int).filter (fun s : Int => decide (100 / s + 1 ≤ n / 2 + 2)) = L at *
    have hL3 : 0 < L.length := List.length_pos_of_mem hL1
    walk_at "ev"
    rw [List.length_map]
    refine ⟨(L.length : Nat), _, rfl, R, by omega, by omega, by omega, fun v row1 v0 v1 R1 => ?_⟩
    walk_at "ev"
    obtain ⟨s, hs1, e1⟩ := at_all (P := fun s => s ∈ ([100, 50, 20, 10, 5] : List Int) ∧ 100 / s + 1 ≤ n / 2 + 2) (v := v) L v0 v1 hL
    have hm0 := (show ∀ s ∈ ([100, 50, 20, 10, 5] : List Int), 0 < s ∧ s ≤ 100 ∧ s * (100 / s) = 100 ∧ 1 ≤ 100 / s ∧ 100 / s ≤ 20 by decide) s hs1.1
    obtain ⟨j, hj, ej⟩ := R_sh hs1.1
    refine ⟨_, e1, ?_⟩
    walk_at "ev"
    refine sideR_by ⟨hm0.1, Bd.mono (m := 10) (by unfold Bd; omega) (by decide)⟩ fun _ => ?_
    walk_at "ev"
    refine sideR_by (by omega) fun _ => ?_
    unfold rng
    refine lcB_fg (fun i : Nat => frD (s * i, 1)) (by rw [List.length_range]; exact size_le (by omega)) (fun i hi kk hk => ?_) ?_
    · have hi := List.mem_range.mp hi
      rw [Int.zero_add]
      walk_at "ev"
      refine sideR_by (.inr (.inr ⟨by omega, by omega⟩)) fun _ => ?_
      walk_at "ev"
      refine sideR_by (by decide) fun _ => ?_
      walk_at "ev"
      exact hk
    walk_at "ev"
    have hm1 : (((100 / s + 1).toNat : Nat) : Int) = 100 / s + 1 := by omega
    have hq := q j 0 (100 / s + 1).toNat row1 ⟨hj, by omega, by omega, n0, n1, fun i hi => by
      rw [← ej, Int.zero_add]
      have : s * 10 ^ 12 * (i : Int) = s * (i : Int) * 10 ^ 12 := Int.mul_right_comm ..
      rw [this]
      have h1 : 0 ≤ s * (i : Int) := Int.mul_nonneg (by omega) (by omega)
      have h2 : s * (i : Int) ≤ 100 * 20 := Int.mul_le_mul hm0.2.1 (by omega) (by omega) (by decide)
      omega, fun z => absurd (z.symm.trans hs) (by decide), fun _ => rfl, fun _ => ⟨rfl, by rw [hm1, show 100 / s + 1 - 1 = 100 / s by omega, ← ej, Int.mul_right_comm, hm0.2.2.1]⟩⟩ (R1.mono (by omega))
    rw [← ej] at hq
    have e : (plMs (s * 10 ^ 12) 0 (100 / s + 1).toNat).map frD = (List.range (100 / s + 1).toNat).map fun i : Nat => frD (s * i, 1) := by
      unfold plMs
      rw [List.map_map]
      refine List.map_congr_left fun i _ => ?_
      show frD (mkP (s * 10 ^ 12 * (0 + (i : Int)))) = _
      rw [Int.zero_add, Int.mul_right_comm, mkP_whole]
    rw [e] at hq
    exact hq
  have hs : k ≠ "shares" := by simpa using hs
  walk_at "ev"
  refine sideR_by ⟨by decide, Bd.mono (m := 10) (by unfold Bd; omega) (by decide)⟩ fun _ => ?_
  walk_at "ev"
  refine ⟨n / 2 + 1, _, rfl, R, by omega, by omega, by omega, fun v1 row1 v10 v11 R1 => ?_⟩
  walk_at "ev"
  repeat walk_at "sd"
  refine ⟨3, _, rfl, R1, by omega, by decide, by decide, fun v2 row2 v20 v21 R2 => ?_⟩
  walk_at "ev"
  obtain ⟨s1, hs1, e1⟩ := at_all (P := fun m => m = 1 ∨ m = 2 ∨ m = 5) (v := v2) [1, 2, 5] v20 (by exact v21) (by decide)
  refine ⟨_, e1, ?_⟩
  walk_at "ev"
  refine ⟨15, _, rfl, R2, by omega, by decide, by decide, fun v3 row3 v30 v31 R3 => ?_⟩
  walk_at "ev"
  obtain ⟨p, hp⟩ : ∃ p, p = v3 - 8 := ⟨_, rfl⟩
  rw [← hp]
  obtain ⟨a, ha⟩ : ∃ a : Nat, (if p < 0 then -p else p) = (a : Int) := ⟨(if p < 0 then -p else p).toNat, by split <;> omega⟩
  have ha2 : a ≤ 8 := by split at ha <;> omega
  rw [ha]
  refine sideR_by ⟨by omega, by omega⟩ fun _ => ?_
  rw [Int.toNat_natCast]
  refine forB_by (fun i Γ => ∃ (t b : Int) (x8 : Option En), Γ = [some (En.own row3), some (En.shr (D.str k)), some (En.shr (D.int n)), none, some (En.shr (D.int (2 + v1))), some (En.shr (D.int t)), some (En.shr (D.int b)), some (En.shr (D.int p)), x8, none, none, none] ∧ (p < 0 → t = s1 ∧ b = 10 ^ i) ∧ (0 ≤ p → t = s1 * 10 ^ i ∧ b = 1)) ⟨_, _, _, rfl, fun _ => ⟨rfl, rfl⟩, fun _ => ⟨(Int.mul_one _).symm, rfl⟩⟩ ?_ ?_
  · rintro i Γ d hd ⟨t, b, x8, rfl, c1, c2⟩
    obtain ⟨hi, rfl⟩ := rng_get hd
    have ti : (10 : Int) ^ i ≤ 10 ^ 8 := by
      have : (10 : Nat) ^ i ≤ 10 ^ 8 := Nat.pow_le_pow_right (by decide) (by omega)
      exact_mod_cast this
    have ti0 : (0 : Int) < 10 ^ i := Int.pow_pos (by decide)
    walk_at "ev"
    refine iteR_by (fun z => ?_) (fun z => ?_)
    · have z := of_decide_eq_true z
      obtain ⟨rfl, rfl⟩ := c1 z
      walk_at "ev"
      refine sideR_by (.inr (.inl ⟨by omega, by omega⟩)) fun _ => ?_
      walk_at "ev"
      exact ⟨_, _, _, rfl, fun _ => ⟨rfl, (Int.pow_succ ..).symm⟩, fun h => by omega⟩
    · have z := of_decide_eq_false z
      obtain ⟨rfl, rfl⟩ := c2 (by omega)
      walk_at "ev"
      refine sideR_by (.inr (.inr ⟨by omega, by omega⟩)) fun _ => ?_
      walk_at "ev"
      exact ⟨_, _, _, rfl, fun h => by omega, fun _ => ⟨by rw [Int.pow_succ, Int.mul_assoc], rfl⟩⟩
  rintro Γ ⟨t, b, x8, rfl, c1, c2⟩
  rw [rng_length] at c1 c2
  have fin : 0 < b ∧ b ≤ 10 ^ 8 ∧ 0 < t ∧ t ≤ 5 * 10 ^ 8 ∧ ∃ g, 0 < g ∧ (10 : Int) ^ 12 = b * g ∧ ∃ e : Nat, e ≤ 20 ∧ t * g = s1 * 10 ^ e := by
    have aa : a = 0 ∨ a = 1 ∨ a = 2 ∨ a = 3 ∨ a = 4 ∨ a = 5 ∨ a = 6 ∨ a = 7 ∨ a = 8 := by omega
    by_cases z : p < 0
    · obtain ⟨rfl, rfl⟩ := c1 z
      refine ⟨Int.pow_pos (by decide), ?_, by omega, by omega, 10 ^ (12 - a), Int.pow_pos (by decide), ?_, 12 - a, by omega, rfl⟩
      · rcases aa with rfl | rfl | rfl | rfl | rfl | rfl | rfl | rfl | rfl <;> decide
      · rcases aa with rfl | rfl | rfl | rfl | rfl | rfl | rfl | rfl | rfl <;> decide
    · obtain ⟨rfl, rfl⟩ := c2 (by omega)
      have t0 : (0 : Int) < 10 ^ a := Int.pow_pos (by decide)
      refine ⟨by decide, by decide, Int.mul_pos (by omega) t0, ?_, 10 ^ 12, by decide, by decide, 12 + a, by omega, ?_⟩
      · have : (10 : Int) ^ a ≤ 10 ^ 8 := by rcases aa with rfl | rfl | rfl | rfl | rfl | rfl | rfl | rfl | rfl <;> decide
        exact Int.mul_le_mul (by omega) this (by omega) (by decide)
      · rw [Int.mul_assoc, Int.pow_add, Int.mul_comm ((10 : Int) ^ a)]
  obtain ⟨b0, b1, t0, t1, g, g0, eg, e, he, eS⟩ := fin
  clear c1 c2
  obtain ⟨j, hj, ej⟩ := R_of hs1 ⟨e, by omega, rfl⟩
  rw [← eS] at ej
  have Sb : t * g ≤ 5 * 10 ^ 20 := by
    rw [eS]
    have : (10 : Int) ^ e ≤ 10 ^ 20 := by
      have : (10 : Nat) ^ e ≤ 10 ^ 20 := Nat.pow_le_pow_right (by decide) he
      exact_mod_cast this
    have p0 : (0 : Int) < 10 ^ e := Int.pow_pos (by decide)
    exact Int.mul_le_mul (by omega) this (by omega) (by decide)
  have S0 : 0 < t * g := Int.mul_pos t0 g0
  walk_at "ev"
  refine ⟨2000, _, rfl, R3, by omega, by decide, by decide, fun v4 row4 v40 v41 R4 => ?_⟩
  walk_at "ev"
  repeat walk_at "sd"
  obtain ⟨m, hm⟩ : ∃ m : Nat, (m : Int) = 2 + v1 := ⟨(2 + v1).toNat, by omega⟩
  rcases hk with rfl | rfl | rfl | rfl
  rotate_left 3
  · exact absurd rfl hs
  · refine ⟨D.int 0, (by rw [if_neg (by decide)]; rfl), ?_⟩
    walk_at "ev"
    refine iteR_by (fun _ => ?_) (fun z => absurd z (by decide))
    walk_at "ev"
    refine ⟨2 + v1, _, rfl, R4, by omega, by omega, by omega, fun w2 rowF w20 w21 RF0 => ?_⟩
    walk_at "ev"
    obtain ⟨f, hf⟩ : ∃ f, f = (0 - w2 : Int) := ⟨_, rfl⟩
    rw [← hf]
    have hf1 : -1000 ≤ f ∧ f ≤ 1000 := by omega
    have hbr : ("bars" : Str) = "bars" → f ≤ 0 ∧ 0 < f + (m : Int) := fun _ => by omega
    have hst : ("bars" : Str) = "stacks" → f = 0 := fun z => absurd z (by decide)
    have hsh : ("bars" : Str) = "shares" → f = 0 ∧ Kx.R j * ((m : Int) - 1) = 100 * 10 ^ 12 := fun z => absurd z (by decide)
    have RF : RowD (N + 20) rowF := RF0.mono (by omega)
    clear RF0 hf
    walk_at "ev"
    refine sideR_by ⟨by omega, by omega⟩ fun _ => ?_
    rw [show (2 + v1 : Int).toNat = m by omega]
    unfold rng
    refine lcB_fg (fun i : Nat => frD (mkP (t * g * (f + i)))) (by rw [List.length_range]; exact size_le (by omega)) (fun i hi kk hk => ?_) ?_
    · have hi := List.mem_range.mp hi
      rw [Int.zero_add]
      walk_at "ev"
      refine sideR_by (.inr (.inr ⟨by omega, by omega⟩)) fun _ => ?_
      walk_at "ev"
      refine ⟨t * (f + i), b, rfl, by omega, Bd.mono (m := 40 + 20) (Bd.mul (by unfold Bd; omega) (by unfold Bd; omega)) (by decide), Bd.mono (m := 100) (by unfold Bd; omega) (by decide), ?_⟩
      rw [low_step b0 g0 rfl eg]
      walk_at "ev"
      exact hk
    walk_at "ev"
    have hq := q j f m _ ⟨hj, by omega, by omega, n0, n1, fun i hi => by
      rw [← ej, Int.natAbs_mul]
      exact Nat.lt_of_le_of_lt (Nat.mul_le_mul (show (t * g).natAbs ≤ 5 * 10 ^ 20 by omega) (show (f + (i : Int)).natAbs ≤ 2000 by omega)) (by decide), hbr, hst, hsh⟩ RF
    rw [← ej] at hq
    have e : (plMs (t * g) f m).map frD = (List.range m).map fun i : Nat => frD (mkP (t * g * (f + i))) := by
      unfold plMs
      rw [List.map_map]
      rfl
    rw [e] at hq
    exact hq
  · refine ⟨D.int (v4 - 1000), (by rw [if_pos (by decide)]; rfl), ?_⟩
    walk_at "ev"
    refine iteR_by (fun z => absurd z (by decide)) (fun _ => ?_)
    walk_at "ev"
    obtain ⟨rowF, eF⟩ : ∃ r, r = row4 := ⟨_, rfl⟩
    have RF : RowD (N + 20) rowF := by rw [eF]; exact R4.mono (by omega)
    rw [← eF]
    clear eF
    obtain ⟨f, hf⟩ : ∃ f, f = (v4 - 1000 : Int) := ⟨_, rfl⟩
    rw [← hf]
    have hf1 : -1000 ≤ f ∧ f ≤ 1000 := by omega
    have hbr : ("lines" : Str) = "bars" → f ≤ 0 ∧ 0 < f + (m : Int) := fun z => absurd z (by decide)
    have hst : ("lines" : Str) = "stacks" → f = 0 := fun z => absurd z (by decide)
    have hsh : ("lines" : Str) = "shares" → f = 0 ∧ Kx.R j * ((m : Int) - 1) = 100 * 10 ^ 12 := fun z => absurd z (by decide)
    clear hf
    walk_at "ev"
    refine sideR_by ⟨by omega, by omega⟩ fun _ => ?_
    rw [show (2 + v1 : Int).toNat = m by omega]
    unfold rng
    refine lcB_fg (fun i : Nat => frD (mkP (t * g * (f + i)))) (by rw [List.length_range]; exact size_le (by omega)) (fun i hi kk hk => ?_) ?_
    · have hi := List.mem_range.mp hi
      rw [Int.zero_add]
      walk_at "ev"
      refine sideR_by (.inr (.inr ⟨by omega, by omega⟩)) fun _ => ?_
      walk_at "ev"
      refine ⟨t * (f + i), b, rfl, by omega, Bd.mono (m := 40 + 20) (Bd.mul (by unfold Bd; omega) (by unfold Bd; omega)) (by decide), Bd.mono (m := 100) (by unfold Bd; omega) (by decide), ?_⟩
      rw [low_step b0 g0 rfl eg]
      walk_at "ev"
      exact hk
    walk_at "ev"
    have hq := q j f m _ ⟨hj, by omega, by omega, n0, n1, fun i hi => by
      rw [← ej, Int.natAbs_mul]
      exact Nat.lt_of_le_of_lt (Nat.mul_le_mul (show (t * g).natAbs ≤ 5 * 10 ^ 20 by omega) (show (f + (i : Int)).natAbs ≤ 2000 by omega)) (by decide), hbr, hst, hsh⟩ RF
    rw [← ej] at hq
    have e : (plMs (t * g) f m).map frD = (List.range m).map fun i : Nat => frD (mkP (t * g * (f + i))) := by
      unfold plMs
      rw [List.map_map]
      rfl
    rw [e] at hq
    exact hq
  · refine ⟨D.int 0, (by rw [if_neg (by decide)]; rfl), ?_⟩
    walk_at "ev"
    refine iteR_by (fun z => absurd z (by decide)) (fun _ => ?_)
    walk_at "ev"
    obtain ⟨rowF, eF⟩ : ∃ r, r = row4 := ⟨_, rfl⟩
    have RF : RowD (N + 20) rowF := by rw [eF]; exact R4.mono (by omega)
    rw [← eF]
    clear eF
    obtain ⟨f, hf⟩ : ∃ f, f = (0 : Int) := ⟨_, rfl⟩
    rw [show some (En.shr (D.int 0)) = some (En.shr (D.int f)) by rw [hf]]
    have hf1 : -1000 ≤ f ∧ f ≤ 1000 := by omega
    have hbr : ("stacks" : Str) = "bars" → f ≤ 0 ∧ 0 < f + (m : Int) := fun z => absurd z (by decide)
    have hst : ("stacks" : Str) = "stacks" → f = 0 := fun z => hf
    have hsh : ("stacks" : Str) = "shares" → f = 0 ∧ Kx.R j * ((m : Int) - 1) = 100 * 10 ^ 12 := fun z => absurd z (by decide)
    clear hf
    walk_at "ev"
    refine sideR_by ⟨by omega, by omega⟩ fun _ => ?_
    rw [show (2 + v1 : Int).toNat = m by omega]
    unfold rng
    refine lcB_fg (fun i : Nat => frD (mkP (t * g * (f + i)))) (by rw [List.length_range]; exact size_le (by omega)) (fun i hi kk hk => ?_) ?_
    · have hi := List.mem_range.mp hi
      rw [Int.zero_add]
      walk_at "ev"
      refine sideR_by (.inr (.inr ⟨by omega, by omega⟩)) fun _ => ?_
      walk_at "ev"
      refine ⟨t * (f + i), b, rfl, by omega, Bd.mono (m := 40 + 20) (Bd.mul (by unfold Bd; omega) (by unfold Bd; omega)) (by decide), Bd.mono (m := 100) (by unfold Bd; omega) (by decide), ?_⟩
      rw [low_step b0 g0 rfl eg]
      walk_at "ev"
      exact hk
    walk_at "ev"
    have hq := q j f m _ ⟨hj, by omega, by omega, n0, n1, fun i hi => by
      rw [← ej, Int.natAbs_mul]
      exact Nat.lt_of_le_of_lt (Nat.mul_le_mul (show (t * g).natAbs ≤ 5 * 10 ^ 20 by omega) (show (f + (i : Int)).natAbs ≤ 2000 by omega)) (by decide), hbr, hst, hsh⟩ RF
    rw [← ej] at hq
    have e : (plMs (t * g) f m).map frD = (List.range m).map fun i : Nat => frD (mkP (t * g * (f + i))) := by
      unfold plMs
      rw [List.map_map]
      rfl
    rw [e] at hq
    exact hq
abbrev s__law_marks : Stmt := top 25
theorem sc__law_marks : FnScope ["_law_row", "_law_kind", "_law_rows", "_law_steps", "_law_many", "_law_top", "_law_bottom", "_law_power", "_law_turn", "_law_first", "_law_k", "_law_step"] ["_law_row", "_law_kind", "_law_rows"] (defScope s__law_marks) := ⟨rfl, rfl, rfl, by decide +kernel, rfl, by decide +kernel, by decide +kernel⟩
theorem ok__law_marks {P : Program} {w : World} {K : PySem.W.Frag} {mg : Str → Option Value} {base : Heap} {ts : List Addr} {f : Addr} {fd : FuncData} (F : Fun K "_law_marks" "_law_marks" s__law_marks f fd) (C__law_take : Cal P w K mg base (CXE P w) 1 "_law_take" ["_law_row", "_law_base"] (spD ⟨K, ts, LSK K⟩ true wf__law_take)) (C__law_low : Cal P w K mg base (CXE P w) 1 "_law_low" ["_law_top", "_law_bottom"] (spD ⟨K, ts, LSK K⟩ false wf__law_low)) (z_len : mg "len" = none) (z_range : mg "range" = none) (z_abs : mg "abs" = none) (z_int : mg "int" = none) : FnOk P w K mg base (CXE P w) 2 f fd ["_law_row", "_law_kind", "_law_rows"] (spD ⟨K, ts, LSK K⟩ true wf__law_marks) := by
  have nd := (sc__law_marks).nd
  refine fn_d F sc__law_marks (by decide) (fun ds row Ψ Ξ h => by first | (obtain ⟨rfl, _⟩ := h; rfl) | (obtain ⟨_, rfl, _⟩ := h; rfl) | (obtain ⟨_, _, rfl, _⟩ := h; rfl) | (obtain ⟨_, _, _, rfl, _⟩ := h; rfl) | (obtain ⟨_, _, _, _, rfl, _⟩ := h; rfl) | (obtain ⟨_, _, _, _, _, rfl, _⟩ := h; rfl) | (obtain ⟨_, _, _, _, _, _, rfl, _⟩ := h; rfl) | (obtain ⟨_, _, _, _, _, _, _, rfl, _⟩ := h; rfl) | (obtain ⟨_, _, _, _, _, _, _, _, rfl, _⟩ := h; rfl) | (obtain ⟨_, _, _, _, _, _, _, _, _, rfl, _⟩ := h; rfl) | (obtain ⟨_, _, _, _, _, _, _, _, _, _, rfl, _⟩ := h; rfl) | (obtain ⟨_, _, _, _, _, _, _, _, _, _, _, rfl, _⟩ := h; rfl) | (obtain ⟨_, _, _, _, _, _, _, _, _, _, _, _, rfl, _⟩ := h; rfl) | (obtain ⟨_, _, _, _, _, _, _, _, _, _, _, _, _, rfl, _⟩ := h; rfl)) d__law_marks (fun cdv A outer s H E hr => ⟨_, (q_sc (q_ifS (q_cmpT op_eq bd_eq (q_v 1 (pv 1)) q_str (nomark _)) (q_sc (q_setLc (i := 3) (own := [("_law_step", 11)]) (by rfl) nd rfl rfl (Or.inl (by decide)) (sw_true rfl rfl rfl (by decide +kernel)) (q_it (by rfl) (q_tup (q_cons q_int (q_cons q_int (q_cons q_int (q_cons q_int (q_cons q_int q_nil (by rfl)) (by rfl)) (by rfl)) (by rfl)) (by rfl)))) (blkOk_by (own := [("_law_step", 11)]) (N := ["_law_row", "_law_kind", "_law_rows", "_law_steps", "_law_many", "_law_top", "_law_bottom", "_law_power", "_law_turn", "_law_first", "_law_k", "_law_step"]) (sc := defScope s__law_marks) (by decide +kernel)) (fun _ _ _ _ _ => (q_cn (i := 11) (pg_name nd rfl (Or.inl rfl)) (by decide))) (fun _ _ _ _ _ => (q_t1 (q_cmpT op_le bd_le (q_op op_add od_add (q_op op_fdivP od_div q_int (q_v 11 (pv 11))) q_int) (q_op op_add od_add (q_op op_fdivP od_div (q_v 2 (pv 2)) q_int) q_int) (nomark _)))) (fun _ _ _ _ _ => (q_v 11 (pv 11))) (fun _ => rfl))
      (q_sc (q_set (i := 11) nd rfl (Or.inr rfl) (q_ix (ix_seqK (by rfl)) od_ix (q_v 3 (pv 3)) (q_call C__law_take hr passE0 (q_cons (q_v 0 (pv 0)) (q_cons (q_cB (call_lenK (by rfl)) cd_len (by rfl) z_len (by decide +kernel) (q_cons (q_v 3 (pv 3)) q_nil (by rfl)) (by decide) (by decide) (by rfl)) q_nil (by rfl)) (by rfl)) (by rfl) (by decide) (by decide) (by rfl)) (fun _ _ => rfl)) (Or.inl (by decide)) (by rfl) (by first | exact .inl rfl | exact .inr rfl))
      (q_s1 (q_ret (q_lc (own := [("_law_k", 10)]) (by rfl) nd (q_ir1 (by rfl) z_range (q_cons (q_op op_add od_add (q_op op_fdivP od_div q_int (q_v 11 (pv 11))) q_int) q_nil (by rfl)) (by rfl)) (blkOk_by (own := [("_law_k", 10)]) (N := ["_law_row", "_law_kind", "_law_rows", "_law_steps", "_law_many", "_law_top", "_law_bottom", "_law_power", "_law_turn", "_law_first", "_law_k", "_law_step"]) (sc := defScope s__law_marks) (by decide +kernel)) (fun _ _ _ _ _ => (q_cn (i := 10) (pg_name nd rfl (Or.inl rfl)) (by decide))) (fun _ _ _ _ _ => q_t0) (fun _ _ _ _ _ => (q_tup (q_cons (q_op op_mulB od_mul (q_v 11 (pv 11)) (q_v 10 (pv 10))) (q_cons q_int q_nil (by rfl)) (by rfl)))) (fun _ => rfl)))))) q_s0)
      (q_sc (q_set (i := 4) nd rfl (Or.inl rfl) (q_op op_add od_add q_int (q_call C__law_take hr passE0 (q_cons (q_v 0 (pv 0)) (q_cons (q_op op_add od_add (q_op op_fdivP od_div (q_v 2 (pv 2)) q_int) q_int) q_nil (by rfl)) (by rfl)) (by rfl) (by decide) (by decide) (by rfl))) (Or.inl (by decide)) (by rfl) (by first | exact .inl rfl | exact .inr rfl))
      (q_sc (q_set (i := 5) nd rfl (Or.inr rfl) (q_ix (ix_seqK (by rfl)) od_ix (q_tup (q_cons q_int (q_cons q_int (q_cons q_int q_nil (by rfl)) (by rfl)) (by rfl))) (q_call C__law_take hr passE0 (q_cons (q_v 0 (pv 0)) (q_cons q_int q_nil (by rfl)) (by rfl)) (by rfl) (by decide) (by decide) (by rfl)) (fun _ _ => rfl)) (Or.inl (by decide)) (by rfl) (by first | exact .inl rfl | exact .inr rfl))
      (q_sc (q_set (i := 6) nd rfl (Or.inr rfl) q_int (Or.inl (by decide)) (by rfl) (by first | exact .inl rfl | exact .inr rfl))
      (q_sc (q_set (i := 7) nd rfl (Or.inl rfl) (q_op op_sub od_sub (q_call C__law_take hr passE0 (q_cons (q_v 0 (pv 0)) (q_cons q_int q_nil (by rfl)) (by rfl)) (by rfl) (by decide) (by decide) (by rfl)) q_int) (Or.inl (by decide)) (by rfl) (by first | exact .inl rfl | exact .inr rfl))
      (q_sc (q_for PassesOwn.never (by rfl) (q_ir1 (by rfl) z_range (q_cons (q_cB call_abs cd_abs (by rfl) z_abs (by decide +kernel) (q_cons (q_v 7 (pv 7)) q_nil (by rfl)) (by decide) (by decide) (by rfl)) q_nil (by rfl)) (by rfl)) (q_gn (i := 8) (pg_name nd rfl (Or.inl rfl)) (Or.inl (by decide))) (q_s1 (q_ifS (q_cmpT op_lt bd_lt (q_v 7 (pv 7)) q_int (nomark _)) (q_s1 (q_set (i := 6) nd rfl (Or.inr rfl) (q_op op_mulB od_mul (q_v 6 (pv 6)) q_int) (Or.inl (by decide)) (by rfl) (by first | exact .inl rfl | exact .inr rfl))) (q_s1 (q_set (i := 5) nd rfl (Or.inr rfl) (q_op op_mulB od_mul (q_v 5 (pv 5)) q_int) (Or.inl (by decide)) (by rfl) (by first | exact .inl rfl | exact .inr rfl))))) (fun _ => rfl))
      (q_sc (q_set (i := 9) nd rfl (Or.inr rfl) (q_ix (ix_seqK (by rfl)) od_ix (q_lst (q_cons q_int (q_cons (q_op op_sub od_sub (q_call C__law_take hr passE0 (q_cons (q_v 0 (pv 0)) (q_cons q_int q_nil (by rfl)) (by rfl)) (by rfl) (by decide) (by decide) (by rfl)) q_int) q_nil (by rfl)) (by rfl))) (q_cT call_int1 cd_int1 (by rfl) z_int (by decide +kernel) (q_cons (q_cmp op_eq bd_eq (q_v 1 (pv 1)) q_str (nomark _)) q_nil (by rfl)) (by decide) (by decide) (by rfl)) (fun _ _ => rfl)) (Or.inl (by decide)) (by rfl) (by first | exact .inl rfl | exact .inr rfl))
      (q_sc (q_ifS (q_cmpT op_eq bd_eq (q_v 1 (pv 1)) q_str (nomark _)) (q_s1 (q_set (i := 9) nd rfl (Or.inr rfl) (q_op op_sub od_sub q_int (q_call C__law_take hr passE0 (q_cons (q_v 0 (pv 0)) (q_cons (q_v 4 (pv 4)) q_nil (by rfl)) (by rfl)) (by rfl) (by decide) (by decide) (by rfl))) (Or.inl (by decide)) (by rfl) (by first | exact .inl rfl | exact .inr rfl))) q_s0)
      (q_s1 (q_ret (q_lc (own := [("_law_k", 10)]) (by rfl) nd (q_ir1 (by rfl) z_range (q_cons (q_v 4 (pv 4)) q_nil (by rfl)) (by rfl)) (blkOk_by (own := [("_law_k", 10)]) (N := ["_law_row", "_law_kind", "_law_rows", "_law_steps", "_law_many", "_law_top", "_law_bottom", "_law_power", "_law_turn", "_law_first", "_law_k", "_law_step"]) (sc := defScope s__law_marks) (by decide +kernel)) (fun _ _ _ _ _ => (q_cn (i := 10) (pg_name nd rfl (Or.inl rfl)) (by decide))) (fun _ _ _ _ _ => q_t0) (fun _ _ _ _ _ => (q_call C__law_low hr passE0 (q_cons (q_op op_mulB od_mul (q_v 5 (pv 5)) (q_op op_add od_add (q_v 9 (pv 9)) (q_v 10 (pv 10)))) (q_cons (q_v 6 (pv 6)) q_nil (by rfl)) (by rfl)) (by rfl) (by decide) (by decide) (by rfl))) (fun _ => rfl))))))))))))⟩)
def w__law_plan : WS := (wSeq (wSet 2 (wOp dIx (wLst (wACons (wC (.str "bars")) (wACons (wC (.str "stacks")) (wACons (wC (.str "shares")) (wACons (wC (.str "lines")) wANil))))) (wCall true wf__law_take (wACons (wVar 0) (wACons (wC (.int 4)) wANil)))))
  (wSeq (wSet 3 (wOp dAdd (wC (.int 1)) (wCall true wf__law_take (wACons (wVar 0) (wACons (wOp dIx (wLst (wACons (wC (.int 3)) (wACons (wC (.int 6)) wANil))) (wVar 1)) wANil)))))
  (wSeq (wSet 4 (wOp dAdd (wC (.int 2)) (wCall true wf__law_take (wACons (wVar 0) (wACons (wOp dIx (wLst (wACons (wC (.int 11)) (wACons (wC (.int 39)) wANil))) (wVar 1)) wANil)))))
  (wSeq (wSet 5 (wOp dAdd (wC (.int 1)) (wCall true wf__law_take (wACons (wVar 0) (wACons (wC (.int 4)) wANil)))))
  (wSeq (wSet 6 (wLst wANil))
  (wSeq (wFor (wIRng1 (wACons (wOp dAdd (wC (.int 1)) (wCall true wf__law_take (wACons (wVar 0) (wACons (wOp dIx (wLst (wACons (wC (.int 5)) (wACons (wC (.int 12)) wANil))) (wVar 1)) wANil)))) wANil)) (wgName 7) (wSeq (wSet 8 (wLst wANil))
  (wSeq (wFor (wIRng1 (wACons (wVar 5) wANil)) (wgName 9) (wDrop (wApp 8 (wOp dIx (wLst (wACons (wCall true wf__law_take (wACons (wVar 0) (wACons (wOp dAdd (wVar 4) (wC (.int 1))) wANil))) (wACons (wOp dMul (wCall true wf__law_take (wACons (wVar 0) (wACons (wC (.int 2)) wANil))) (wVar 4)) wANil))) (wCall true wf__law_take (wACons (wVar 0) (wACons (wC (.int 2)) wANil)))))))
  (wSeq (wIfS (wCmp (bIn false) (wVar 2) (wTup (wACons (wC (.str "stacks")) (wACons (wC (.str "shares")) wANil)))) (wSet 8 (wCB dSortI (wACons (wVar 8) wANil))) wNext)
  (wSeq (wIfS (wCmp (bSc id) (wVar 2) (wC (.str "shares"))) (wSeq (wSet 10 (wCB dInt1 (wACons (wOp (bod bGt) (wCall true wf__law_take (wACons (wVar 0) (wACons (wC (.int 4)) wANil))) (wC (.int 0))) wANil)))
  (wSet 8 (wOp dCat (wLc (wIList (wSl dSlL (wVar 8) wNoP (wPrt (wUn dNeg (wC (.int 1)))))) (wgName 17) (fun Γ Ψ _ => Ψ true Γ) (wOp dMul (wVar 17) (wVar 10)) [17]) (wLst (wACons (wOp dMul (wVar 4) (wVar 10)) wANil))))) wNext)
  (wDrop (wApp 6 (wVar 8))))))))
  (wSeq (wSet 11 (wOp dAdd (wOp dMul (wOp dIx (wLst (wACons (wVar 5) (wACons (wC (.int 1)) wANil))) (wCB dInt1 (wACons (wOp (bod (bIn false)) (wVar 2) (wTup (wACons (wC (.str "stacks")) (wACons (wC (.str "shares")) wANil)))) wANil))) (wVar 3)) (wC (.int 1))))
  (wSeq (wSet 12 (wLst wANil))
  (wSeq (wSet 13 (wC (.int 0)))
  (wSeq (wFor (wIEnum (wACons (wCall true wf__law_names (wACons (wVar 0) (wACons (wCB dLen (wACons (wVar 6) wANil)) wANil))) wANil)) (wgTup 2 (wgCons (wgName 14) (wgCons (wgName 15) wgNil))) (wSeq (wSet 16 (wAndV (wOp (bod bGe) (wOp dMul (wVar 11) (wVar 14)) (wVar 13)) (wOp (bod bGt) (wCall true wf__law_take (wACons (wVar 0) (wACons (wC (.int 5)) wANil))) (wC (.int 0)))))
  (wSeq (wDrop (wApp 12 (wOp dIx (wLst (wACons (wC .non) (wACons (wVar 15) wANil))) (wCB dInt1 (wACons (wVar 16) wANil)))))
  (wIfS (wB (wVar 16)) (wSet 13 (wOp dAdd (wOp dAdd (wOp dMul (wVar 11) (wVar 14)) (wCB dLenS (wACons (wVar 15) wANil))) (wC (.int 1)))) wNext))))
  (wRet (wTup (wACons (wVar 2) (wACons (wVar 3) (wACons (wVar 4) (wACons (wCall true wf__law_marks (wACons (wVar 0) (wACons (wVar 2) (wACons (wVar 4) wANil)))) (wACons (wVar 6) (wACons (wVar 12) (wACons (wCall true wf__law_names (wACons (wVar 0) (wACons (wVar 5) wANil))) wANil)))))))))))))))))))
theorem d__law_plan : ∀ ds row Ψ Ξ, wf__law_plan ds row Ψ Ξ → goR (w__law_plan (endsW true Ψ fun _ => False)) (startW true 18 ds row) := by
  rintro ds row Ψ Ξ ⟨gr, N, rfl, g0, g1, R, h0, h1, q⟩
  unfold w__law_plan
  walk_at "ev"
  repeat walk_at "sd"
  refine ⟨4, _, rfl, R, by omega, by decide, by decide, fun v1 row1 v10 v11 R1 => ?_⟩
  walk_at "ev"
  obtain ⟨k, hk, e1⟩ : ∃ k : Str, IsKd k ∧ atI [D.str "bars", D.str "stacks", D.str "shares", D.str "lines"] v1 = some (D.str k) := by
    have : v1 = 0 ∨ v1 = 1 ∨ v1 = 2 ∨ v1 = 3 := by omega
    rcases this with rfl | rfl | rfl | rfl
    · exact ⟨_, .inl rfl, rfl⟩
    · exact ⟨_, .inr (.inr (.inl rfl)), rfl⟩
    · exact ⟨_, .inr (.inr (.inr rfl)), rfl⟩
    · exact ⟨_, .inr (.inl rfl), rfl⟩
  refine ⟨_, e1, ?_⟩
  walk_at "ev"
  have gl : gr < 2 := by omega
  repeat walk_at "sd"
  obtain ⟨s1, hs1, ea1⟩ := at_all (P := fun m => 3 ≤ m ∧ m ≤ 6) (v := gr) [3, 6] g0 (by exact gl) (by decide)
  refine ⟨_, ea1, ?_⟩
  walk_at "ev"
  refine ⟨s1, _, rfl, R1, by omega, by omega, by omega, fun v2 row2 v20 v21 R2 => ?_⟩
  walk_at "ev"
  repeat walk_at "sd"
  obtain ⟨s2, hs2, ea2⟩ := at_all (P := fun m => 11 ≤ m ∧ m ≤ 39) (v := gr) [11, 39] g0 (by exact gl) (by decide)
  refine ⟨_, ea2, ?_⟩
  walk_at "ev"
  refine ⟨s2, _, rfl, R2, by omega, by omega, by omega, fun v3 row3 v30 v31 R3 => ?_⟩
  walk_at "ev"
  refine ⟨4, _, rfl, R3, by omega, by decide, by decide, fun v4 row4 v40 v41 R4 => ?_⟩
  walk_at "ev"
  repeat walk_at "sd"
  obtain ⟨s3, hs3, ea3⟩ := at_all (P := fun m => 5 ≤ m ∧ m ≤ 12) (v := gr) [5, 12] g0 (by exact gl) (by decide)
  refine ⟨_, ea3, ?_⟩
  walk_at "ev"
  refine ⟨s3, _, rfl, R4, by omega, by omega, by omega, fun v5 row5 v50 v51 R5 => ?_⟩
  walk_at "ev"
  obtain ⟨w, hw⟩ : ∃ w, w = 1 + v2 := ⟨_, rfl⟩
  obtain ⟨n, hn⟩ : ∃ n, n = 2 + v3 := ⟨_, rfl⟩
  obtain ⟨m, hm⟩ : ∃ m : Nat, (m : Int) = 1 + v4 := ⟨(1 + v4).toNat, by omega⟩
  obtain ⟨b, hb⟩ : ∃ b : Nat, (b : Int) = 1 + v5 := ⟨(1 + v5).toNat, by omega⟩
  rw [← hw, ← hn, ← hm, ← hb]
  have n0 : 2 ≤ n := by omega
  have n1 : n ≤ 40 := by omega
  refine sideR_by ⟨by omega, by omega⟩ fun _ => ?_
  rw [Int.toNat_natCast]
  generalize (some (En.shr (D.int gr)) : Option En) = E1
  refine forB_by (fun i Γ => ∃ (row6 : List D) (lss : List (List Int)) (x7 x8 x9 x10 : Option En), Γ = [some (En.own row6), E1, some (En.shr (D.str k)), some (En.shr (D.int w)), some (En.shr (D.int n)), some (En.shr (D.int (m : Int))), some (En.own (lss.map fun l => D.lst (l.map D.int))), x7, x8, x9, x10, none, none, none, none, none, none, none] ∧ lss.length = i ∧ (∀ l ∈ lss, l.length = m ∧ BandOk k n l) ∧ RowD (N + 200 + 30 * i) row6) ⟨_, [], _, _, _, _, rfl, rfl, (fun x hx => by cases hx), R5.mono (by omega)⟩ ?_ ?_
  · rintro i Γ d hd ⟨row6, lss, x7, x8, x9, x10, rfl, hl, hx, R6⟩
    obtain ⟨hi, rfl⟩ := rng_get hd
    walk_at "ev"
    repeat walk_at "sd"
    rw [Int.toNat_natCast]
    refine forB_by (fun q Γ => ∃ (row7 : List D) (l : List Int) (x9 : Option En), Γ = [some (En.own row7), E1, some (En.shr (D.str k)), some (En.shr (D.int w)), some (En.shr (D.int n)), some (En.shr (D.int (m : Int))), some (En.own (lss.map fun l => D.lst (l.map D.int))), some (En.shr (D.int (0 + (i : Int)))), some (En.own (l.map D.int)), x9, x10, none, none, none, none, none, none, none] ∧ l.length = q ∧ (∀ x ∈ l, 0 ≤ x ∧ x ≤ n) ∧ RowD (N + 200 + 30 * i + 3 * q) row7) ⟨_, [], _, rfl, rfl, (fun x hx => by cases hx), R6.mono (by omega)⟩ ?_ ?_
    · rintro q Γ d hd ⟨row7, l, x9, rfl, hql, hqx, R7⟩
      obtain ⟨hq, rfl⟩ := rng_get hd
      walk_at "ev"
      refine ⟨n + 1, _, rfl, R7, by omega, by omega, by omega, fun u1 row8 u10 u11 R8 => ?_⟩
      walk_at "ev"
      refine ⟨2, _, rfl, R8, by omega, by decide, by decide, fun u2 row9 u20 u21 R9 => ?_⟩
      walk_at "ev"
      repeat walk_at "sd"
      refine ⟨2, _, rfl, R9, by omega, by decide, by decide, fun u3 row10 u30 u31 R10 => ?_⟩
      walk_at "ev"
      obtain ⟨y, hy, ey⟩ := at_all (P := fun y => 0 ≤ y ∧ y ≤ n) (v := u3) [u1, u2 * n] u30 (by exact u31) (fun y hy => by
        simp only [List.mem_cons, List.not_mem_nil, or_false] at hy
        rcases hy with rfl | rfl
        · omega
        · have : u2 = 0 ∨ u2 = 1 := by omega
          rcases this with rfl | rfl <;> omega)
      refine ⟨_, ey, ?_⟩
      walk_at "ev"
      refine sideR_by (by rw [List.length_map]; exact Nat.lt_of_le_of_lt (m := 4) (by omega) (by decide)) fun _ => ?_
      refine ⟨row10, l ++ [y], _, by rw [List.map_append]; rfl, by simp [hql], fun x hx' => ?_, R10.mono (by omega)⟩
      rcases List.mem_append.mp hx' with z | z
      · exact hqx x z
      · cases List.mem_singleton.mp z
        exact hy
    rintro Γ ⟨row7, l, x9, rfl, hql, hqx, R7⟩
    rw [rng_length] at hql R7
    have l13 : lss.length < 13 := by omega
    have add : ∀ (l2 : List Int) (row8 : List D) (x10' : Option En), l2.length = m → BandOk k n l2 → RowD (N + 200 + 30 * i + 20) row8 → ∃ (row6 : List D) (lss2 : List (List Int)) (x7 x8 x9' x10 : Option En), [some (En.own row8), E1, some (En.shr (D.str k)), some (En.shr (D.int w)), some (En.shr (D.int n)), some (En.shr (D.int (m : Int))), some (En.own ((lss.map fun l => D.lst (l.map D.int)) ++ [D.lst (l2.map D.int)])), some (En.shr (D.int (0 + (i : Int)))), some (En.shr (D.lst (l2.map D.int))), x9, x10', none, none, none, none, none, none, none] = [some (En.own row6), E1, some (En.shr (D.str k)), some (En.shr (D.int w)), some (En.shr (D.int n)), some (En.shr (D.int (m : Int))), some (En.own (lss2.map fun l => D.lst (l.map D.int))), x7, x8, x9', x10, none, none, none, none, none, none, none] ∧ lss2.length = i + 1 ∧ (∀ l ∈ lss2, l.length = m ∧ BandOk k n l) ∧ RowD (N + 200 + 30 * ((i + 1 : Nat) : Int)) row6 := fun l2 row8 x10' e1 e2 R8 => ⟨row8, lss ++ [l2], _, _, _, _, by rw [List.map_append]; rfl, by simp [hl], fun x hx' => by
      rcases List.mem_append.mp hx' with z | z
      · exact hx x z
      · cases List.mem_singleton.mp z
        exact ⟨e1, e2⟩, R8.mono (by omega)⟩
    have szl : (lss.map fun l => D.lst (l.map D.int)).length < 13 := by rw [List.length_map]; exact l13
    walk_at "ev"
    repeat walk_at "sd"
    walk_at "ev"
    rcases hk with rfl | rfl | rfl | rfl
    · refine iteR_by (fun z => absurd z (by decide)) (fun _ => ?_)
      walk_at "ev"
      refine iteR_by (fun z => absurd z (by decide)) (fun _ => ?_)
      walk_at "ev"
      refine sideR_by (Nat.lt_of_lt_of_le szl (by decide)) fun _ => ?_
      exact add l _ _ hql ⟨hqx, fun z => absurd z (by decide), fun z => absurd z (by decide)⟩ (R7.mono (by omega))
    · refine iteR_by (fun z => absurd z (by decide)) (fun _ => ?_)
      walk_at "ev"
      refine iteR_by (fun z => absurd z (by decide)) (fun _ => ?_)
      walk_at "ev"
      refine sideR_by (Nat.lt_of_lt_of_le szl (by decide)) fun _ => ?_
      exact add l _ _ hql ⟨hqx, fun z => absurd z (by decide), fun z => absurd z (by decide)⟩ (R7.mono (by omega))
    · refine iteR_by (fun _ => ?_) (fun z => absurd z (by decide))
      walk_at "ev"
      refine ⟨l, rfl, by omega, fun ms pm pw => ?_⟩
      walk_at "ev"
      refine iteR_by (fun z => absurd z (by decide)) (fun _ => ?_)
      walk_at "ev"
      refine sideR_by (Nat.lt_of_lt_of_le szl (by decide)) fun _ => ?_
      exact add ms _ _ (pm.length_eq.trans hql) ⟨fun x hx' => hqx x (pm.mem_iff.mp hx'), fun _ => pw, fun z => absurd z (by decide)⟩ (R7.mono (by omega))
    · refine iteR_by (fun _ => ?_) (fun z => absurd z (by decide))
      walk_at "ev"
      refine ⟨l, rfl, by omega, fun ms pm pw => ?_⟩
      walk_at "ev"
      refine iteR_by (fun _ => ?_) (fun z => absurd z (by decide))
      walk_at "ev"
      refine ⟨4, _, rfl, R7, by omega, by decide, by decide, fun u1 row8 u10 u11 R8 => ?_⟩
      walk_at "ev"
      have hml := pm.length_eq.trans hql
      obtain ⟨u, hu, hu01⟩ : ∃ u : Int, (if decide (u1 > 0) = true then 1 else 0) = u ∧ (u = 0 ∨ u = 1) := ⟨_, rfl, by split <;> omega⟩
      have ec : cutD (List.map D.int ms) none (some (-1)) = (ms.take (m - 1)).map D.int := by
        rw [cutD_map, HT.sIx_none, List.drop_zero, Nat.sub_zero]
        rw [show HT.sIx ms.length ms.length (some (-1)) = (-1 + (ms.length : Int)).toNat from rfl, hml, show (-1 + (m : Int)).toNat = m - 1 by omega]
      rw [ec]
      refine lcB_fg (fun x : Int => D.int (x * u)) (size_le (by rw [List.length_take]; omega)) (fun x hx kk hk => ?_) ?_
      · walk_at "ev"
        refine sideR_by (.inr (.inr ⟨by split <;> omega, by split <;> omega⟩)) fun _ => ?_
        walk_at "ev"
        have hk := hk
        rw [← hu] at hk
        exact hk
      walk_at "ev"
      refine sideR_by (.inr (.inr ⟨by split <;> omega, by split <;> omega⟩)) fun _ => ?_
      walk_at "ev"
      refine sideR_by (by decide) fun _ => ?_
      walk_at "ev"
      have tl : (ms.take (m - 1)).length ≤ 4 := by rw [List.length_take]; omega
      first
        | refine sideR_by (by simp only [List.length_append, List.length_map, List.length_cons, List.length_nil]; exact Nat.le_trans (m := 5) (by omega) (by decide)) fun _ => ?_
        | refine sideR_by (by simp only [List.length_append, List.length_map, List.length_cons, List.length_nil]; exact Nat.lt_of_le_of_lt (m := 5) (by omega) (by decide)) fun _ => ?_
        | trace_state
      walk_at "ev"
      refine sideR_by (Nat.lt_of_lt_of_le szl (by decide)) fun _ => ?_
      have el : (List.map (fun x : Int => D.int (x * u)) (List.take (m - 1) ms) ++ [D.int (n * if decide (0 < u1) = true then 1 else 0)]) = ((ms.take (m - 1)).map (fun x => x * u) ++ [n * u]).map D.int := by
        rw [List.map_append, List.map_map, ← hu]
        rfl
      rw [el]
      refine add _ _ _ (by simp; omega) ?_ (R8.mono (by omega))
      rcases hu01 with rfl | rfl
      · have : (ms.take (m - 1)).map (fun x => x * 0) ++ [n * 0] = List.replicate m 0 := by
          simp only [Int.mul_zero]
          rw [List.map_const', List.length_take, hml, Nat.min_eq_left (by omega), ← List.replicate_succ', show m - 1 + 1 = m by omega]
        rw [this]
        exact band_nil (by omega)
      · have : (ms.take (m - 1)).map (fun x => x * 1) ++ [n * 1] = ms.set (ms.length - 1) n := by
          simp only [Int.mul_one, List.map_id']
          rw [List.set_eq_take_append_cons_drop, if_pos (by omega), List.drop_eq_nil_of_le (by omega), hml]
        rw [this]
        exact band_set (by omega) pw (fun x hx' => hqx x (pm.mem_iff.mp hx')) (by omega)
  rintro Γ ⟨row6, lss, x7, x8, x9, x10, rfl, hl, hx, R6⟩
  rw [rng_length] at hl R6
  have m4 : m ≤ 4 := by omega
  obtain ⟨ln, hln⟩ : ∃ ln, ln = lanes k (m : Int) := ⟨_, rfl⟩
  have ln4 : 1 ≤ ln ∧ ln ≤ 4 := by
    rw [hln]
    unfold lanes
    split <;> omega
  have ein : (if inV (V.str k) [V.str "stacks", V.str "shares"] = true then (1 : Int) else 0) = if k = "bars" ∨ k = "lines" then 0 else 1 := by
    rcases hk with rfl | rfl | rfl | rfl <;> decide +kernel
  walk_at "ev"
  repeat walk_at "sd"
  rw [ein]
  refine ⟨D.int ln, (by rw [hln]; unfold lanes; split <;> rfl), ?_⟩
  walk_at "ev"
  refine sideR_by (.inr (.inl ⟨by omega, by omega⟩)) fun _ => ?_
  walk_at "ev"
  have lw : 1 ≤ ln * w ∧ ln * w ≤ 24 := ⟨Int.mul_pos (by omega) (by omega), Int.mul_le_mul ln4.2 (show w ≤ 6 by omega) (by omega) (by decide)⟩
  obtain ⟨S, hS⟩ : ∃ S, S = ln * w + 1 := ⟨_, rfl⟩
  rw [← hS]
  refine sideR_by (by decide) fun _ => ?_
  walk_at "ev"
  rw [List.length_map, hl]
  refine ⟨(b : Int), _, rfl, R6, by omega, by omega, by omega, by omega, fun ns row7 hns hno hnd R7 => ?_⟩
  walk_at "ev"
  have el : (enu (List.map D.str ns)).length = b := by
    rw [enu_len, List.length_map]
    omega
  have e6 : ∀ y, some (En.own (List.map (fun l => D.lst (List.map D.int l)) lss)) = y → y = some (En.own (List.map (fun l => D.lst (List.map D.int l)) lss)) := fun y h => h.symm
  have is_at : ∀ i, i < b → (stL k w (m : Int) b)[i]? = some (S * (i : Int)) := fun i hi => by
    unfold stL
    rw [List.getElem?_map, List.getElem?_range hi, ← hln, ← hS]
    exact congrArg some (Int.mul_comm _ _)
  refine forB_by (fun i Γ => ∃ (row8 : List D) (xs : List (Option Str)) (fr : Int) (x14 x15 x16 : Option En), Γ = [some (En.own row8), E1, some (En.shr (D.str k)), some (En.shr (D.int w)), some (En.shr (D.int n)), some (En.shr (D.int (m : Int))), some (En.own (lss.map fun l => D.lst (l.map D.int))), x7, x8, x9, x10, some (En.shr (D.int S)), some (En.own (xs.map oD)), some (En.shr (D.int fr)), x14, x15, x16, none] ∧ xs.length = i ∧ (∀ x, some x ∈ xs → Nm x) ∧ ((given xs).Sublist (ns.take i) ∧ touch (xs.zip (stL k w (m : Int) b)) 0 = false ∧ freeE (xs.zip (stL k w (m : Int) b)) 0 = fr) ∧ RowD (N + 1000 + i) row8) ⟨_, [], _, _, _, _, rfl, rfl, (fun x hx => by cases hx), ⟨List.Sublist.refl _, rfl, rfl⟩, R7.mono (by omega)⟩ ?_ ?_
  · rintro i Γ d hd ⟨row8, xs, fr, x14, x15, x16, rfl, hxl, hxo, hxt, R8⟩
    obtain ⟨d1, hd1, rfl⟩ := enu_get hd
    rw [List.getElem?_map] at hd1
    obtain ⟨x, hxg, rfl⟩ := Option.map_eq_some_iff.mp hd1
    have hi : i < b := by
      have := (List.getElem?_eq_some_iff.mp hxg).1
      omega
    have htg := is_at i hi
    have hLx := hno x (List.mem_of_getElem? hxg)
    have nmx := nm_len1 hLx
    have sz : (xs.map oD).length < 1000 := by rw [List.length_map]; omega
    walk_at "ev"
    have Sb : 1 ≤ S ∧ S ≤ 25 := by omega
    refine sideR_by (.inr (.inl ⟨by omega, by omega⟩)) fun _ => ?_
    walk_at "ev"
    have skip : ∀ (row9 : List D), RowD (N + 1000 + i + 1) row9 → ∃ (row8 : List D) (xs2 : List (Option Str)) (fr2 : Int) (x14 x15 x16 : Option En), [some (En.own row9), E1, some (En.shr (D.str k)), some (En.shr (D.int w)), some (En.shr (D.int n)), some (En.shr (D.int (m : Int))), some (En.own (lss.map fun l => D.lst (l.map D.int))), x7, x8, x9, x10, some (En.shr (D.int S)), some (En.own (xs.map oD ++ [D.non])), some (En.shr (D.int fr)), some (En.shr (D.int (i : Int))), some (En.shr (D.str x)), some (En.shr (D.bl false)), none] = [some (En.own row8), E1, some (En.shr (D.str k)), some (En.shr (D.int w)), some (En.shr (D.int n)), some (En.shr (D.int (m : Int))), some (En.own (lss.map fun l => D.lst (l.map D.int))), x7, x8, x9, x10, some (En.shr (D.int S)), some (En.own (xs2.map oD)), some (En.shr (D.int fr2)), x14, x15, x16, none] ∧ xs2.length = i + 1 ∧ (∀ x, some x ∈ xs2 → Nm x) ∧ ((given xs2).Sublist (ns.take (i + 1)) ∧ touch (xs2.zip (stL k w (m : Int) b)) 0 = false ∧ freeE (xs2.zip (stL k w (m : Int) b)) 0 = fr2) ∧ RowD (N + 1000 + ((i + 1 : Nat) : Int)) row8 := fun row9 R9 => ⟨row9, xs ++ [none], _, _, _, _, by rw [List.map_append]; rfl, by simp [hxl], (fun y hy => by
      rcases List.mem_append.mp hy with z | z
      · exact hxo y z
      · cases List.mem_singleton.mp z), pl_skip hxl hxg htg hxt, R9.mono (by omega)⟩
    refine iteR_by (fun zst => ?_) (fun z => ?_)
    · walk_at "ev"
      refine ⟨5, _, rfl, R8, by omega, by decide, by decide, fun v row9 v0 v1 R9 => ?_⟩
      walk_at "ev"
      repeat walk_at "sd"
      rcases (show v = 0 ∨ 0 < v by omega) with hv | hv
      · subst hv
        refine ⟨D.non, rfl, ?_⟩
        walk_at "ev"
        refine sideR_by (Nat.lt_of_lt_of_le sz (by decide)) fun _ => ?_
        walk_at "ev"
        exact skip row9 (R9.mono (by omega))
      · refine ⟨D.str x, (by rw [if_pos (decide_eq_true hv)]; rfl), ?_⟩
        walk_at "ev"
        refine sideR_by (Nat.lt_of_lt_of_le sz (by decide)) fun _ => ?_
        walk_at "ev"
        refine iteR_by (fun _ => ?_) (fun z => absurd hv (of_decide_eq_false z))
        walk_at "ev"
        refine sideR_by (.inr (.inl ⟨by omega, by omega⟩)) fun _ => ?_
        walk_at "ev"
        refine sideR_by (Nat.le_trans nmx (by decide)) fun _ => ?_
        walk_at "ev"
        refine ⟨_, xs ++ [some x], _, _, _, _, by rw [List.map_append]; rfl, by simp [hxl], fun y hy => ?_, pl_put hxl hxg htg (of_decide_eq_true zst) hxt, R9.mono (by omega)⟩
        rcases List.mem_append.mp hy with z | z
        · exact hxo y z
        · cases List.mem_singleton.mp z
          exact hLx
    · walk_at "ev"
      refine sideR_by (by decide) fun _ => ?_
      walk_at "ev"
      refine sideR_by (Nat.lt_of_lt_of_le sz (by decide)) fun _ => ?_
      walk_at "ev"
      exact skip row8 (R8.mono (by omega))
  rintro Γ ⟨row8, xs, fr, x14, x15, x16, rfl, hxl, hxo, hxt, R8⟩
  rw [el] at hxl R8 hxt
  walk_at "ev"
  refine ⟨k, n, _, rfl, hk, n0, n1, R8, by omega, by omega, fun j f m2 row9 gm R9 => ?_⟩
  walk_at "ev"
  refine ⟨(m : Int), _, rfl, R9, by omega, by omega, by omega, by omega, fun ss row10 hss hso hsd R10 => ?_⟩
  walk_at "ev"
  repeat walk_at "sd"
  rw [List.take_of_length_le (by omega)] at hxt
  have sm : ss.length = m := by omega
  exact q k w n j f m2 lss xs ss _ ⟨hk, by omega, by omega, gm, by omega, by omega, fun l hm => by rw [sm]; exact hx l hm, by omega, hxo, hxt.1.nodup hnd, by rw [sm, hl]; exact hxt.2.1, by omega, by omega, hso, hsd⟩ (R10.mono (by omega))
abbrev s__law_plan : Stmt := top 26
theorem sc__law_plan : FnScope ["_law_row", "_law_great", "_law_kind", "_law_width", "_law_rows", "_law_many", "_law_levels", "_law_band", "_law_some", "_law_turn", "_law_full", "_law_lane", "_law_titles", "_law_free", "_law_k", "_law_name", "_law_there", "_law_level"] ["_law_row", "_law_great"] (defScope s__law_plan) := ⟨rfl, rfl, rfl, by decide +kernel, rfl, by decide +kernel, by decide +kernel⟩
theorem ok__law_plan {P : Program} {w : World} {K : PySem.W.Frag} {mg : Str → Option Value} {base : Heap} {ts : List Addr} {f : Addr} {fd : FuncData} (F : Fun K "_law_plan" "_law_plan" s__law_plan f fd) (C__law_take : Cal P w K mg base (CXE P w) 1 "_law_take" ["_law_row", "_law_base"] (spD ⟨K, ts, LSK K⟩ true wf__law_take)) (C__law_names : Cal P w K mg base (CXE P w) 2 "_law_names" ["_law_row", "_law_many"] (spD ⟨K, ts, LSK K⟩ true wf__law_names)) (C__law_marks : Cal P w K mg base (CXE P w) 2 "_law_marks" ["_law_row", "_law_kind", "_law_rows"] (spD ⟨K, ts, LSK K⟩ true wf__law_marks)) (z_range : mg "range" = none) (z_sorted : mg "sorted" = none) (z_int : mg "int" = none) (z_enumerate : mg "enumerate" = none) (z_len : mg "len" = none) : FnOk P w K mg base (CXE P w) 3 f fd ["_law_row", "_law_great"] (spD ⟨K, ts, LSK K⟩ true wf__law_plan) := by
  have nd := (sc__law_plan).nd
  refine fn_d F sc__law_plan (by decide) (fun ds row Ψ Ξ h => by first | (obtain ⟨rfl, _⟩ := h; rfl) | (obtain ⟨_, rfl, _⟩ := h; rfl) | (obtain ⟨_, _, rfl, _⟩ := h; rfl) | (obtain ⟨_, _, _, rfl, _⟩ := h; rfl) | (obtain ⟨_, _, _, _, rfl, _⟩ := h; rfl) | (obtain ⟨_, _, _, _, _, rfl, _⟩ := h; rfl) | (obtain ⟨_, _, _, _, _, _, rfl, _⟩ := h; rfl) | (obtain ⟨_, _, _, _, _, _, _, rfl, _⟩ := h; rfl) | (obtain ⟨_, _, _, _, _, _, _, _, rfl, _⟩ := h; rfl) | (obtain ⟨_, _, _, _, _, _, _, _, _, rfl, _⟩ := h; rfl) | (obtain ⟨_, _, _, _, _, _, _, _, _, _, rfl, _⟩ := h; rfl) | (obtain ⟨_, _, _, _, _, _, _, _, _, _, _, rfl, _⟩ := h; rfl) | (obtain ⟨_, _, _, _, _, _, _, _, _, _, _, _, rfl, _⟩ := h; rfl) | (obtain ⟨_, _, _, _, _, _, _, _, _, _, _, _, _, rfl, _⟩ := h; rfl)) d__law_plan (fun cdv A outer s H E hr => ⟨_, (q_sc (q_set (i := 2) nd rfl (Or.inl rfl) (q_ix (ix_seqK (by rfl)) od_ix (q_lst (q_cons q_str (q_cons q_str (q_cons q_str (q_cons q_str q_nil (by rfl)) (by rfl)) (by rfl)) (by rfl))) (q_call C__law_take hr passE0 (q_cons (q_v 0 (pv 0)) (q_cons q_int q_nil (by rfl)) (by rfl)) (by rfl) (by decide) (by decide) (by rfl)) (fun _ _ => rfl)) (Or.inl (by decide)) (by rfl) (by first | exact .inl rfl | exact .inr rfl))
      (q_sc (q_set (i := 3) nd rfl (Or.inl rfl) (q_op op_add od_add q_int (q_call C__law_take hr passE0 (q_cons (q_v 0 (pv 0)) (q_cons (q_ix (ix_seqK (by rfl)) od_ix (q_lst (q_cons q_int (q_cons q_int q_nil (by rfl)) (by rfl))) (q_v 1 (pv 1)) (fun _ _ => rfl)) q_nil (by rfl)) (by rfl)) (by rfl) (by decide) (by decide) (by rfl))) (Or.inl (by decide)) (by rfl) (by first | exact .inl rfl | exact .inr rfl))
      (q_sc (q_set (i := 4) nd rfl (Or.inl rfl) (q_op op_add od_add q_int (q_call C__law_take hr passE0 (q_cons (q_v 0 (pv 0)) (q_cons (q_ix (ix_seqK (by rfl)) od_ix (q_lst (q_cons q_int (q_cons q_int q_nil (by rfl)) (by rfl))) (q_v 1 (pv 1)) (fun _ _ => rfl)) q_nil (by rfl)) (by rfl)) (by rfl) (by decide) (by decide) (by rfl))) (Or.inl (by decide)) (by rfl) (by first | exact .inl rfl | exact .inr rfl))
      (q_sc (q_set (i := 5) nd rfl (Or.inl rfl) (q_op op_add od_add q_int (q_call C__law_take hr passE0 (q_cons (q_v 0 (pv 0)) (q_cons q_int q_nil (by rfl)) (by rfl)) (by rfl) (by decide) (by decide) (by rfl))) (Or.inl (by decide)) (by rfl) (by first | exact .inl rfl | exact .inr rfl))
      (q_sc (q_set (i := 6) nd rfl (Or.inl rfl) (q_lst q_nil) (Or.inl (by decide)) (by rfl) (by first | exact .inl rfl | exact .inr rfl))
      (q_sc (q_for PassesOwn.never (by rfl) (q_ir1 (by rfl) z_range (q_cons (q_op op_add od_add q_int (q_call C__law_take hr passE0 (q_cons (q_v 0 (pv 0)) (q_cons (q_ix (ix_seqK (by rfl)) od_ix (q_lst (q_cons q_int (q_cons q_int q_nil (by rfl)) (by rfl))) (q_v 1 (pv 1)) (fun _ _ => rfl)) q_nil (by rfl)) (by rfl)) (by rfl) (by decide) (by decide) (by rfl))) q_nil (by rfl)) (by rfl)) (q_gn (i := 7) (pg_name nd rfl (Or.inl rfl)) (Or.inl (by decide))) (q_sc (q_set (i := 8) nd rfl (Or.inl rfl) (q_lst q_nil) (Or.inl (by decide)) (by rfl) (by first | exact .inl rfl | exact .inr rfl))
      (q_sc (q_for PassesOwn.never (by rfl) (q_ir1 (by rfl) z_range (q_cons (q_v 5 (pv 5)) q_nil (by rfl)) (by rfl)) (q_gn (i := 9) (pg_name nd rfl (Or.inl rfl)) (Or.inl (by decide))) (q_s1 (q_drop (q_app (pv 8) (q_ix (ix_seqK (by rfl)) od_ix (q_lst (q_cons (q_call C__law_take hr passE0 (q_cons (q_v 0 (pv 0)) (q_cons (q_op op_add od_add (q_v 4 (pv 4)) q_int) q_nil (by rfl)) (by rfl)) (by rfl) (by decide) (by decide) (by rfl)) (q_cons (q_op op_mulB od_mul (q_call C__law_take hr passE0 (q_cons (q_v 0 (pv 0)) (q_cons q_int q_nil (by rfl)) (by rfl)) (by rfl) (by decide) (by decide) (by rfl)) (q_v 4 (pv 4))) q_nil (by rfl)) (by rfl))) (q_call C__law_take hr passE0 (q_cons (q_v 0 (pv 0)) (q_cons q_int q_nil (by rfl)) (by rfl)) (by rfl) (by decide) (by decide) (by rfl)) (fun _ _ => rfl)) (by rfl) (by rfl) (by rfl) (by rfl)) (by rfl))) (fun _ => rfl))
      (q_sc (q_ifS (q_cmpT (op_inK (by rfl)) bd_in (q_v 2 (pv 2)) (q_tup (q_cons q_str (q_cons q_str q_nil (by rfl)) (by rfl))) (by rfl)) (q_s1 (q_set (i := 8) nd rfl (Or.inl rfl) (q_cB (cr_sortIK (by rfl)) cd_sortI (by rfl) z_sorted (by decide +kernel) (q_cons (q_v 8 (pv 8)) q_nil (by rfl)) (by decide) (by decide) (by rfl)) (Or.inl (by decide)) (by rfl) (by first | exact .inl rfl | exact .inr rfl))) q_s0)
      (q_sc (q_ifS (q_cmpT op_eq bd_eq (q_v 2 (pv 2)) q_str (nomark _)) (q_sc (q_set (i := 10) nd rfl (Or.inr rfl) (q_cT call_int1 cd_int1 (by rfl) z_int (by decide +kernel) (q_cons (q_cmp op_gt bd_gt (q_call C__law_take hr passE0 (q_cons (q_v 0 (pv 0)) (q_cons q_int q_nil (by rfl)) (by rfl)) (by rfl) (by decide) (by decide) (by rfl)) q_int (nomark _)) q_nil (by rfl)) (by decide) (by decide) (by rfl)) (Or.inl (by decide)) (by rfl) (by first | exact .inl rfl | exact .inr rfl))
      (q_s1 (q_set (i := 8) nd rfl (Or.inl rfl) (q_op op_catL od_cat (q_lc (own := [("_law_level", 17)]) (by rfl) nd (q_il (by rfl) (q_sl (sl_listK (by rfl)) ld_list (q_v 8 (pv 8)) q_o0 (q_o1 (q_un un_neg ud_neg q_int)))) (blkOk_by (own := [("_law_level", 17)]) (N := ["_law_row", "_law_great", "_law_kind", "_law_width", "_law_rows", "_law_many", "_law_levels", "_law_band", "_law_some", "_law_turn", "_law_full", "_law_lane", "_law_titles", "_law_free", "_law_k", "_law_name", "_law_there", "_law_level"]) (sc := defScope s__law_plan) (by decide +kernel)) (fun _ _ _ _ _ => (q_cn (i := 17) (pg_name nd rfl (Or.inl rfl)) (by decide))) (fun _ _ _ _ _ => q_t0) (fun _ _ _ _ _ => (q_op op_mulB od_mul (q_v 17 (pv 17)) (q_v 10 (pv 10)))) (fun _ => rfl)) (q_lst (q_cons (q_op op_mulB od_mul (q_v 4 (pv 4)) (q_v 10 (pv 10))) q_nil (by rfl)))) (Or.inl (by decide)) (by rfl) (by first | exact .inl rfl | exact .inr rfl)))) q_s0)
      (q_s1 (q_drop (q_app (pv 6) (q_v 8 (pv 8)) (by rfl) (by rfl) (by rfl) (by rfl)) (by rfl))))))) (fun _ => rfl))
      (q_sc (q_set (i := 11) nd rfl (Or.inl rfl) (q_op op_add od_add (q_op op_mulB od_mul (q_ix (ix_seqK (by rfl)) od_ix (q_lst (q_cons (q_v 5 (pv 5)) (q_cons q_int q_nil (by rfl)) (by rfl))) (q_cT call_int1 cd_int1 (by rfl) z_int (by decide +kernel) (q_cons (q_cmp (op_inK (by rfl)) bd_in (q_v 2 (pv 2)) (q_tup (q_cons q_str (q_cons q_str q_nil (by rfl)) (by rfl))) (by rfl)) q_nil (by rfl)) (by decide) (by decide) (by rfl)) (fun _ _ => rfl)) (q_v 3 (pv 3))) q_int) (Or.inl (by decide)) (by rfl) (by first | exact .inl rfl | exact .inr rfl))
      (q_sc (q_set (i := 12) nd rfl (Or.inl rfl) (q_lst q_nil) (Or.inl (by decide)) (by rfl) (by first | exact .inl rfl | exact .inr rfl))
      (q_sc (q_set (i := 13) nd rfl (Or.inl rfl) q_int (Or.inl (by decide)) (by rfl) (by first | exact .inl rfl | exact .inr rfl))
      (q_sc (q_for PassesOwn.never (by rfl) (q_ie (by rfl) (by rfl) z_enumerate (q_cons (q_call C__law_names hr passE0 (q_cons (q_v 0 (pv 0)) (q_cons (q_cB (call_lenK (by rfl)) cd_len (by rfl) z_len (by decide +kernel) (q_cons (q_v 6 (pv 6)) q_nil (by rfl)) (by decide) (by decide) (by rfl)) q_nil (by rfl)) (by rfl)) (by rfl) (by decide) (by decide) (by rfl)) q_nil (by rfl)) (by rfl)) (q_gt (by rfl) (by rfl) (q_g1 (q_gn (i := 14) (pg_name nd rfl (Or.inl rfl)) (Or.inl (by decide))) (q_g1 (q_gn (i := 15) (pg_name nd rfl (Or.inl rfl)) (Or.inl (by decide))) q_g0 (by rfl)) (by rfl)) (by rfl) (by rfl)) (q_sc (q_set (i := 16) nd rfl (Or.inl rfl) (q_andV (q_cmp op_ge bd_ge (q_op op_mulB od_mul (q_v 11 (pv 11)) (q_v 14 (pv 14))) (q_v 13 (pv 13)) (nomark _)) (q_one (q_cmp op_gt bd_gt (q_call C__law_take hr passE0 (q_cons (q_v 0 (pv 0)) (q_cons q_int q_nil (by rfl)) (by rfl)) (by rfl) (by decide) (by decide) (by rfl)) q_int (nomark _)))) (Or.inl (by decide)) (by rfl) (by first | exact .inl rfl | exact .inr rfl))
      (q_sc (q_drop (q_app (pv 12) (q_ix (ix_seqK (by rfl)) od_ix (q_lst (q_cons q_non (q_cons (q_v 15 (pv 15)) q_nil (by rfl)) (by rfl))) (q_cT call_int1 cd_int1 (by rfl) z_int (by decide +kernel) (q_cons (q_v 16 (pv 16)) q_nil (by rfl)) (by decide) (by decide) (by rfl)) (fun _ _ => rfl)) (by rfl) (by rfl) (by rfl) (by rfl)) (by rfl))
      (q_s1 (q_ifS (q_tv (q_v 16 (pv 16)) (by rfl)) (q_s1 (q_set (i := 13) nd rfl (Or.inl rfl) (q_op op_add od_add (q_op op_add od_add (q_op op_mulB od_mul (q_v 11 (pv 11)) (q_v 14 (pv 14))) (q_cB call_len_str cd_lenS (by rfl) z_len (by decide +kernel) (q_cons (q_v 15 (pv 15)) q_nil (by rfl)) (by decide) (by decide) (by rfl))) q_int) (Or.inl (by decide)) (by rfl) (by first | exact .inl rfl | exact .inr rfl))) q_s0)))) (fun _ => rfl))
      (q_s1 (q_ret (q_tup (q_cons (q_v 2 (pv 2)) (q_cons (q_v 3 (pv 3)) (q_cons (q_v 4 (pv 4)) (q_cons (q_call C__law_marks hr passE0 (q_cons (q_v 0 (pv 0)) (q_cons (q_v 2 (pv 2)) (q_cons (q_v 4 (pv 4)) q_nil (by rfl)) (by rfl)) (by rfl)) (by rfl) (by decide) (by decide) (by rfl)) (q_cons (q_v 6 (pv 6)) (q_cons (q_v 12 (pv 12)) (q_cons (q_call C__law_names hr passE0 (q_cons (q_v 0 (pv 0)) (q_cons (q_v 5 (pv 5)) q_nil (by rfl)) (by rfl)) (by rfl) (by decide) (by decide) (by rfl)) q_nil (by rfl)) (by rfl)) (by rfl)) (by rfl)) (by rfl)) (by rfl)) (by rfl)))))))))))))))⟩)
def w__law_copy : WS := (wSeq (wAsg (wVar 0) (wgTup 7 (wgCons (wgName 1) (wgCons (wgName 2) (wgCons (wgName 3) (wgCons (wgName 4) (wgCons (wgName 5) (wgCons (wgName 6) (wgCons (wgName 7) wgNil)))))))))
  (wRet (wTup (wACons (wVar 1) (wACons (wVar 2) (wACons (wVar 3) (wACons (wCB dList (wACons (wVar 4) wANil)) (wACons (wLc (wIList (wVar 5)) (wgName 8) (fun Γ Ψ _ => Ψ true Γ) (wCB dList (wACons (wVar 8) wANil)) [8]) (wACons (wCB dList (wACons (wVar 6) wANil)) (wACons (wCB dList (wACons (wVar 7) wANil)) wANil))))))))))
theorem d__law_copy : ∀ ds row Ψ Ξ, wf__law_copy ds row Ψ Ξ → goR (w__law_copy (endsW false Ψ fun _ => False)) (startW false 9 ds row) := by
  rintro ds row Ψ Ξ ⟨k, w, n, ps, lss, xs, ss, rfl, h, q⟩
  unfold planD at q
  unfold w__law_copy planD
  walk_at "ev"
  refine lcB_fg (fun l : List Int => D.lst (l.map D.int)) (size_le (by omega)) (fun l hl kk hk => ?_) ?_
  · walk_at "ev"
    exact hk
  walk_at "ev"
  refine sideR_by (by decide) fun _ => ?_
  walk_at "ev"
  exact q
abbrev s__law_copy : Stmt := top 27
theorem sc__law_copy : FnScope ["_law_plan_here", "_law_kind", "_law_width", "_law_rows", "_law_marks_here", "_law_levels", "_law_titles", "_law_series", "_law_band"] ["_law_plan_here"] (defScope s__law_copy) := ⟨rfl, rfl, rfl, by decide +kernel, rfl, by decide +kernel, by decide +kernel⟩
theorem ok__law_copy {P : Program} {w : World} {K : PySem.W.Frag} {mg : Str → Option Value} {base : Heap} {ts : List Addr} {f : Addr} {fd : FuncData} (F : Fun K "_law_copy" "_law_copy" s__law_copy f fd)  (z_list : mg "list" = none) : FnOk P w K mg base (CXE P w) 1 f fd ["_law_plan_here"] (spD ⟨K, ts, LSK K⟩ false wf__law_copy) := by
  have nd := (sc__law_copy).nd
  refine fn_d F sc__law_copy (by decide) (fun ds row Ψ Ξ h => by first | (obtain ⟨rfl, _⟩ := h; rfl) | (obtain ⟨_, rfl, _⟩ := h; rfl) | (obtain ⟨_, _, rfl, _⟩ := h; rfl) | (obtain ⟨_, _, _, rfl, _⟩ := h; rfl) | (obtain ⟨_, _, _, _, rfl, _⟩ := h; rfl) | (obtain ⟨_, _, _, _, _, rfl, _⟩ := h; rfl) | (obtain ⟨_, _, _, _, _, _, rfl, _⟩ := h; rfl) | (obtain ⟨_, _, _, _, _, _, _, rfl, _⟩ := h; rfl) | (obtain ⟨_, _, _, _, _, _, _, _, rfl, _⟩ := h; rfl) | (obtain ⟨_, _, _, _, _, _, _, _, _, rfl, _⟩ := h; rfl) | (obtain ⟨_, _, _, _, _, _, _, _, _, _, rfl, _⟩ := h; rfl) | (obtain ⟨_, _, _, _, _, _, _, _, _, _, _, rfl, _⟩ := h; rfl) | (obtain ⟨_, _, _, _, _, _, _, _, _, _, _, _, rfl, _⟩ := h; rfl) | (obtain ⟨_, _, _, _, _, _, _, _, _, _, _, _, _, rfl, _⟩ := h; rfl)) d__law_copy (fun cdv A outer s H E hr => ⟨_, (q_sc (q_asg (q_v 0 (pv 0)) (q_gt (by rfl) (by rfl) (q_g1 (q_gn (i := 1) (pg_name nd rfl (Or.inl rfl)) (Or.inl (by decide))) (q_g1 (q_gn (i := 2) (pg_name nd rfl (Or.inl rfl)) (Or.inl (by decide))) (q_g1 (q_gn (i := 3) (pg_name nd rfl (Or.inl rfl)) (Or.inl (by decide))) (q_g1 (q_gn (i := 4) (pg_name nd rfl (Or.inl rfl)) (Or.inl (by decide))) (q_g1 (q_gn (i := 5) (pg_name nd rfl (Or.inl rfl)) (Or.inl (by decide))) (q_g1 (q_gn (i := 6) (pg_name nd rfl (Or.inl rfl)) (Or.inl (by decide))) (q_g1 (q_gn (i := 7) (pg_name nd rfl (Or.inl rfl)) (Or.inl (by decide))) q_g0 (by rfl)) (by rfl)) (by rfl)) (by rfl)) (by rfl)) (by rfl)) (by rfl)) (by rfl) (by rfl)) (by rfl) (by rfl) (by rfl))
      (q_s1 (q_ret (q_tup (q_cons (q_v 1 (pv 1)) (q_cons (q_v 2 (pv 2)) (q_cons (q_v 3 (pv 3)) (q_cons (q_cT (list_ofK (by rfl)) cd_list (by rfl) z_list (by decide +kernel) (q_cons (q_v 4 (pv 4)) q_nil (by rfl)) (by decide) (by decide) (by rfl)) (q_cons (q_lc (own := [("_law_band", 8)]) (by rfl) nd (q_il (by rfl) (q_v 5 (pv 5))) (blkOk_by (own := [("_law_band", 8)]) (N := ["_law_plan_here", "_law_kind", "_law_width", "_law_rows", "_law_marks_here", "_law_levels", "_law_titles", "_law_series", "_law_band"]) (sc := defScope s__law_copy) (by decide +kernel)) (fun _ _ _ _ _ => (q_cn (i := 8) (pg_name nd rfl (Or.inl rfl)) (by decide))) (fun _ _ _ _ _ => q_t0) (fun _ _ _ _ _ => (q_cT (list_ofK (by rfl)) cd_list (by rfl) z_list (by decide +kernel) (q_cons (q_v 8 (pv 8)) q_nil (by rfl)) (by decide) (by decide) (by rfl))) (fun _ => rfl)) (q_cons (q_cT (list_ofK (by rfl)) cd_list (by rfl) z_list (by decide +kernel) (q_cons (q_v 6 (pv 6)) q_nil (by rfl)) (by decide) (by decide) (by rfl)) (q_cons (q_cT (list_ofK (by rfl)) cd_list (by rfl) z_list (by decide +kernel) (q_cons (q_v 7 (pv 7)) q_nil (by rfl)) (by decide) (by decide) (by rfl)) q_nil (by rfl)) (by rfl)) (by rfl)) (by rfl)) (by rfl)) (by rfl)) (by rfl))))))⟩)
def w__law_is_fraction : WS := (wRet (wAndV (wCB dIsi (wACons (wVar 0) (wACons (wC (.ty "tuple")) wANil))) (wAndV (wOp (bod (bSc id)) (wCB dLen (wACons (wVar 0) wANil)) (wC (.int 2))) (wAndV (wCall false wf__law_whole (wACons (wOp dIx (wVar 0) (wC (.int 0))) wANil)) (wCall false wf__law_whole (wACons (wOp dIx (wVar 0) (wC (.int 1))) wANil))))))
theorem d__law_is_fraction : ∀ ds row Ψ Ξ, wf__law_is_fraction ds row Ψ Ξ → goR (w__law_is_fraction (endsW false Ψ fun _ => False)) (startW false 1 ds row) := by
  rintro ds row Ψ Ξ ⟨p, rfl, q⟩
  unfold w__law_is_fraction
  rw [show frD p = D.tup [.int p.1, .int p.2] from rfl]
  walk_at "ev"
  refine iteR_by (fun _ => ?_) (fun z => absurd z (by decide))
  walk_at "ev"
  refine ⟨_, rfl, ?_⟩
  walk_at "ev"
  refine ⟨_, rfl, ?_⟩
  walk_at "ev"
  exact q
abbrev s__law_is_fraction : Stmt := top 23
theorem sc__law_is_fraction : FnScope ["_law_found"] ["_law_found"] (defScope s__law_is_fraction) := ⟨rfl, rfl, rfl, by decide +kernel, rfl, by decide +kernel, by decide +kernel⟩
theorem ok__law_is_fraction {P : Program} {w : World} {K : PySem.W.Frag} {mg : Str → Option Value} {base : Heap} {ts : List Addr} {f : Addr} {fd : FuncData} (F : Fun K "_law_is_fraction" "_law_is_fraction" s__law_is_fraction f fd) (C__law_whole : Cal P w K mg base (CXE P w) 1 "_law_whole" ["_law_found"] (spD ⟨K, ts, LSK K⟩ false wf__law_whole)) (z_isinstance : mg "isinstance" = none) (z_tuple : mg "tuple" = none) (z_len : mg "len" = none) : FnOk P w K mg base (CXE P w) 2 f fd ["_law_found"] (spD ⟨K, ts, LSK K⟩ false wf__law_is_fraction) := by
  have nd := (sc__law_is_fraction).nd
  refine fn_d F sc__law_is_fraction (by decide) (fun ds row Ψ Ξ h => by first | (obtain ⟨rfl, _⟩ := h; rfl) | (obtain ⟨_, rfl, _⟩ := h; rfl) | (obtain ⟨_, _, rfl, _⟩ := h; rfl) | (obtain ⟨_, _, _, rfl, _⟩ := h; rfl) | (obtain ⟨_, _, _, _, rfl, _⟩ := h; rfl) | (obtain ⟨_, _, _, _, _, rfl, _⟩ := h; rfl) | (obtain ⟨_, _, _, _, _, _, rfl, _⟩ := h; rfl) | (obtain ⟨_, _, _, _, _, _, _, rfl, _⟩ := h; rfl) | (obtain ⟨_, _, _, _, _, _, _, _, rfl, _⟩ := h; rfl) | (obtain ⟨_, _, _, _, _, _, _, _, _, rfl, _⟩ := h; rfl) | (obtain ⟨_, _, _, _, _, _, _, _, _, _, rfl, _⟩ := h; rfl) | (obtain ⟨_, _, _, _, _, _, _, _, _, _, _, rfl, _⟩ := h; rfl) | (obtain ⟨_, _, _, _, _, _, _, _, _, _, _, _, rfl, _⟩ := h; rfl) | (obtain ⟨_, _, _, _, _, _, _, _, _, _, _, _, _, rfl, _⟩ := h; rfl)) d__law_is_fraction (fun cdv A outer s H E hr => ⟨_, (q_s1 (q_ret (q_andV (q_cB (call_isiK (by rfl)) cd_isi (by rfl) z_isinstance (by decide +kernel) (q_cons (q_v 0 (pv 0)) (q_cons (q_glob (pe_bltn (v := .ty "tuple") (by rfl) z_tuple (by decide +kernel) rfl) (fun _ => .ty _)) q_nil (by rfl)) (by rfl)) (by decide) (by decide) (by rfl)) (q_andV (q_cmp op_eq bd_eq (q_cB (call_lenK (by rfl)) cd_len (by rfl) z_len (by decide +kernel) (q_cons (q_v 0 (pv 0)) q_nil (by rfl)) (by decide) (by decide) (by rfl)) q_int (nomark _)) (q_andV (q_call C__law_whole hr passE0 (q_cons (q_ix (ix_seqK (by rfl)) od_ix (q_v 0 (pv 0)) q_int (fun _ _ => rfl)) q_nil (by rfl)) (by rfl) (by decide) (by decide) (by rfl)) (q_one (q_call C__law_whole hr passE0 (q_cons (q_ix (ix_seqK (by rfl)) od_ix (q_v 0 (pv 0)) q_int (fun _ _ => rfl)) q_nil (by rfl)) (by rfl) (by decide) (by decide) (by rfl))))))))⟩)
def w__law_standing : WS := (wSeq (wSet 4 (wOp dMul (wOp dIx (wVar 3) (wC (.int 0))) (wOp dSub (wOp dMul (wOp dIx (wVar 1) (wC (.int 0))) (wOp dIx (wVar 0) (wC (.int 1)))) (wOp dMul (wOp dIx (wVar 0) (wC (.int 0))) (wOp dIx (wVar 1) (wC (.int 1)))))))
  (wSeq (wSet 5 (wOp dMul (wOp dMul (wOp dMul (wOp dIx (wVar 3) (wC (.int 1))) (wVar 2)) (wOp dIx (wVar 1) (wC (.int 1)))) (wOp dIx (wVar 0) (wC (.int 1)))))
  (wSeq (wSet 6 (wOp dAdd (wOp dMul (wOp dIx (wVar 0) (wC (.int 0))) (wVar 5)) (wOp dMul (wVar 4) (wOp dIx (wVar 0) (wC (.int 1))))))
  (wRet (wCall false wf__law_low (wACons (wVar 6) (wACons (wOp dMul (wOp dIx (wVar 0) (wC (.int 1))) (wVar 5)) wANil)))))))
theorem d__law_standing : ∀ ds row Ψ Ξ, wf__law_standing ds row Ψ Ξ → goR (w__law_standing (endsW false Ψ fun _ => False)) (startW false 7 ds row) := by
  rintro ds row Ψ Ξ ⟨t, b, t2, b2, n, c, rfl, B, bc, q⟩
  unfold w__law_standing
  rw [show frD (t, b) = D.tup [.int t, .int b] from rfl, show frD (t2, b2) = D.tup [.int t2, .int b2] from rfl]
  have h1 := B.bt
  have h2 := B.bb
  have h3 := B.bt2
  have h4 := B.bb2
  have hn : Bd 8 n := by have := B.n0; have := B.n1; unfold Bd; omega
  have sm : ∀ {m k : Nat} {x y : Int}, Bd m x → Bd k y → m ≤ 4000 → k ≤ 4000 → CMulB x y := fun hx hy a b => .inl ⟨hx.mono a, hy.mono b⟩
  have b2' : Bd 8 2 := by unfold Bd; decide
  have e1 := h3.mul h2
  have e2 := h1.mul h4
  have e3 := e1.sub e2
  have e4 := bc.mul e3
  have f1 := b2'.mul hn
  have f2 := f1.mul h4
  have f3 := f2.mul h2
  have g1 := h1.mul f3
  have g2 := e4.mul h2
  have g3 := g1.mono (n := 400) (by decide) |>.add (g2.mono (n := 400) (by decide))
  have g4 := h2.mul f3
  walk_at "ev"
  refine sideR_by (sm h3 h2 (by decide) (by decide)) fun _ => ?_
  walk_at "ev"
  refine sideR_by (sm h1 h4 (by decide) (by decide)) fun _ => ?_
  walk_at "ev"
  refine sideR_by (sm bc e3 (by decide) (by decide)) fun _ => ?_
  walk_at "ev"
  refine sideR_by (sm b2' hn (by decide) (by decide)) fun _ => ?_
  walk_at "ev"
  refine sideR_by (sm f1 h4 (by decide) (by decide)) fun _ => ?_
  walk_at "ev"
  refine sideR_by (sm f2 h2 (by decide) (by decide)) fun _ => ?_
  walk_at "ev"
  refine sideR_by (sm h1 f3 (by decide) (by decide)) fun _ => ?_
  walk_at "ev"
  refine sideR_by (sm e4 h2 (by decide) (by decide)) fun _ => ?_
  walk_at "ev"
  refine sideR_by (sm h2 f3 (by decide) (by decide)) fun _ => ?_
  walk_at "ev"
  have pos : 0 < b * (2 * n * b2 * b) := Int.mul_pos B.b0 (Int.mul_pos (Int.mul_pos (Int.mul_pos (by decide) (by have := B.n0; omega)) B.b20) B.b0)
  refine ⟨_, _, rfl, by omega, g3.mono (by decide), g4.mono (by decide), ?_⟩
  walk_at "ev"
  exact q
abbrev s__law_standing : Stmt := top 28
theorem sc__law_standing : FnScope ["_law_low_here", "_law_high", "_law_rows", "_law_level", "_law_top", "_law_bottom", "_law_up"] ["_law_low_here", "_law_high", "_law_rows", "_law_level"] (defScope s__law_standing) := ⟨rfl, rfl, rfl, by decide +kernel, rfl, by decide +kernel, by decide +kernel⟩
theorem ok__law_standing {P : Program} {w : World} {K : PySem.W.Frag} {mg : Str → Option Value} {base : Heap} {ts : List Addr} {f : Addr} {fd : FuncData} (F : Fun K "_law_standing" "_law_standing" s__law_standing f fd) (C__law_low : Cal P w K mg base (CXE P w) 1 "_law_low" ["_law_top", "_law_bottom"] (spD ⟨K, ts, LSK K⟩ false wf__law_low))  : FnOk P w K mg base (CXE P w) 2 f fd ["_law_low_here", "_law_high", "_law_rows", "_law_level"] (spD ⟨K, ts, LSK K⟩ false wf__law_standing) := by
  have nd := (sc__law_standing).nd
  refine fn_d F sc__law_standing (by decide) (fun ds row Ψ Ξ h => by first | (obtain ⟨rfl, _⟩ := h; rfl) | (obtain ⟨_, rfl, _⟩ := h; rfl) | (obtain ⟨_, _, rfl, _⟩ := h; rfl) | (obtain ⟨_, _, _, rfl, _⟩ := h; rfl) | (obtain ⟨_, _, _, _, rfl, _⟩ := h; rfl) | (obtain ⟨_, _, _, _, _, rfl, _⟩ := h; rfl) | (obtain ⟨_, _, _, _, _, _, rfl, _⟩ := h; rfl) | (obtain ⟨_, _, _, _, _, _, _, rfl, _⟩ := h; rfl) | (obtain ⟨_, _, _, _, _, _, _, _, rfl, _⟩ := h; rfl) | (obtain ⟨_, _, _, _, _, _, _, _, _, rfl, _⟩ := h; rfl) | (obtain ⟨_, _, _, _, _, _, _, _, _, _, rfl, _⟩ := h; rfl) | (obtain ⟨_, _, _, _, _, _, _, _, _, _, _, rfl, _⟩ := h; rfl) | (obtain ⟨_, _, _, _, _, _, _, _, _, _, _, _, rfl, _⟩ := h; rfl) | (obtain ⟨_, _, _, _, _, _, _, _, _, _, _, _, _, rfl, _⟩ := h; rfl)) d__law_standing (fun cdv A outer s H E hr => ⟨_, (q_sc (q_set (i := 4) nd rfl (Or.inl rfl) (q_op op_mulB od_mul (q_ix (ix_seqK (by rfl)) od_ix (q_v 3 (pv 3)) q_int (fun _ _ => rfl)) (q_op op_sub od_sub (q_op op_mulB od_mul (q_ix (ix_seqK (by rfl)) od_ix (q_v 1 (pv 1)) q_int (fun _ _ => rfl)) (q_ix (ix_seqK (by rfl)) od_ix (q_v 0 (pv 0)) q_int (fun _ _ => rfl))) (q_op op_mulB od_mul (q_ix (ix_seqK (by rfl)) od_ix (q_v 0 (pv 0)) q_int (fun _ _ => rfl)) (q_ix (ix_seqK (by rfl)) od_ix (q_v 1 (pv 1)) q_int (fun _ _ => rfl))))) (Or.inl (by decide)) (by rfl) (by first | exact .inl rfl | exact .inr rfl))
      (q_sc (q_set (i := 5) nd rfl (Or.inl rfl) (q_op op_mulB od_mul (q_op op_mulB od_mul (q_op op_mulB od_mul (q_ix (ix_seqK (by rfl)) od_ix (q_v 3 (pv 3)) q_int (fun _ _ => rfl)) (q_v 2 (pv 2))) (q_ix (ix_seqK (by rfl)) od_ix (q_v 1 (pv 1)) q_int (fun _ _ => rfl))) (q_ix (ix_seqK (by rfl)) od_ix (q_v 0 (pv 0)) q_int (fun _ _ => rfl))) (Or.inl (by decide)) (by rfl) (by first | exact .inl rfl | exact .inr rfl))
      (q_sc (q_set (i := 6) nd rfl (Or.inl rfl) (q_op op_add od_add (q_op op_mulB od_mul (q_ix (ix_seqK (by rfl)) od_ix (q_v 0 (pv 0)) q_int (fun _ _ => rfl)) (q_v 5 (pv 5))) (q_op op_mulB od_mul (q_v 4 (pv 4)) (q_ix (ix_seqK (by rfl)) od_ix (q_v 0 (pv 0)) q_int (fun _ _ => rfl)))) (Or.inl (by decide)) (by rfl) (by first | exact .inl rfl | exact .inr rfl))
      (q_s1 (q_ret (q_call C__law_low hr passE0 (q_cons (q_v 6 (pv 6)) (q_cons (q_op op_mulB od_mul (q_ix (ix_seqK (by rfl)) od_ix (q_v 0 (pv 0)) q_int (fun _ _ => rfl)) (q_v 5 (pv 5))) q_nil (by rfl)) (by rfl)) (by rfl) (by decide) (by decide) (by rfl)))))))⟩)
def w__law_due : WS := (wSeq (wAsg (wVar 0) (wgTup 7 (wgCons (wgName 3) (wgCons (wgName 4) (wgCons (wgName 5) (wgCons (wgName 6) (wgCons (wgName 7) (wgCons (wgName 8) (wgCons (wgName 9) wgNil)))))))))
  (wSeq (wSet 10 (wOp dIx (wOp dIx (wVar 7) (wVar 1)) (wVar 2)))
  (wSeq (wIfS (wCmp (bSc id) (wVar 3) (wC (.str "shares"))) (wSeq (wSet 11 (wOp dSub (wVar 10) (wOp dIx (wOp dCat (wLst (wACons (wC (.int 0)) wANil)) (wOp dIx (wVar 7) (wVar 1))) (wVar 2))))
  (wRet (wTup (wACons (wCall false wf__law_low (wACons (wOp dMul (wC (.int 100)) (wOp dSub (wVar 11) (wC (.int 1)))) (wACons (wVar 5) wANil))) (wACons (wCall false wf__law_low (wACons (wOp dMul (wC (.int 100)) (wOp dAdd (wVar 11) (wC (.int 1)))) (wACons (wVar 5) wANil))) wANil))))) wNext)
  (wSeq (wSet 12 (wCall false wf__law_standing (wACons (wOp dIx (wVar 6) (wC (.int 0))) (wACons (wOp dIx (wVar 6) (wUn dNeg (wC (.int 1)))) (wACons (wVar 5) (wACons (wTup (wACons (wOp dSub (wOp dMul (wC (.int 2)) (wVar 10)) (wC (.int 1))) (wACons (wC (.int 2)) wANil))) wANil))))))
  (wRet (wTup (wACons (wVar 12) (wACons (wCall false wf__law_standing (wACons (wOp dIx (wVar 6) (wC (.int 0))) (wACons (wOp dIx (wVar 6) (wUn dNeg (wC (.int 1)))) (wACons (wVar 5) (wACons (wTup (wACons (wOp dAdd (wOp dMul (wC (.int 2)) (wVar 10)) (wC (.int 1))) (wACons (wC (.int 2)) wANil))) wANil))))) wANil))))))))
theorem d__law_due : ∀ ds row Ψ Ξ, wf__law_due ds row Ψ Ξ → goR (w__law_due (endsW false Ψ fun _ => False)) (startW false 13 ds row) := by
  rintro ds row Ψ Ξ ⟨k, w, n, j, f, m, lss, xs, ss, b, a, l, d, rfl, g, hb, hd, ha, q⟩
  unfold w__law_due planD
  have gm := g.gm
  have m0 := gm.m0
  have sc := gm.sc
  have hA := plMs_head (S := Kx.R j) (f := f) m0
  have hZ := plMs_last (S := Kx.R j) (f := f) m0
  have gl := g.ll l (List.mem_of_getElem? hb)
  have xb := gl.2.io l[a] (List.getElem_mem ha)
  have n1 := gm.n1
  have n0 := gm.n0
  have bn : Bd 8 n := by unfold Bd; omega
  walk_at "ev"
  refine ⟨_, atI_nat (by rw [List.getElem?_map, hb]; rfl), ?_⟩
  walk_at "ev"
  refine ⟨_, atI_nat (by rw [List.getElem?_map, List.getElem?_eq_getElem ha]; rfl), ?_⟩
  walk_at "ev"
  unfold bndD at hd
  refine iteR_by (fun z => ?_) (fun z => ?_)
  · have z := of_decide_eq_true z
    rw [if_pos z] at hd
    walk_at "ev"
    refine sideR_by (by decide) fun _ => ?_
    walk_at "ev"
    refine ⟨_, atI_nat (by rw [List.getElem?_map, hb]; rfl), ?_⟩
    walk_at "ev"
    refine sideR_by (Nat.le_trans (m := 10) (by have := gl.1; have := g.s1; rw [List.length_map]; show 1 + l.length ≤ 10; omega) (by decide)) fun _ => ?_
    walk_at "ev"
    have ep : ([D.int 0] ++ l.map D.int)[a]? = some (D.int (prv l a)) := by
      unfold prv
      cases a with
      | zero => rfl
      | succ a =>
        have la : l[a]? = some l[a] := List.getElem?_eq_getElem (by omega)
        rw [if_neg (by omega), show a + 1 - 1 = a by omega, List.getD_eq_getElem?_getD, la]
        show (l.map D.int)[a]? = some (D.int l[a])
        rw [List.getElem?_map, la]
        rfl
    have pb : 0 ≤ prv l a ∧ prv l a ≤ n := by
      unfold prv
      split
      · omega
      · exact gl.2.io _ (List.mem_of_getElem? (i := a - 1) (by rw [List.getD_eq_getElem?_getD, List.getElem?_eq_getElem (by omega)]; rfl))
    refine ⟨_, atI_nat ep, ?_⟩
    walk_at "ev"
    have ed : d = shrP n (l[a] - prv l a) := by
      unfold shrB at hd
      rw [List.getElem?_map, List.getElem?_range ha] at hd
      cases hd
      show shrP n (l.getD a 0 - prv l a) = _
      rw [List.getD_eq_getElem?_getD, List.getElem?_eq_getElem ha]
      rfl
    subst ed
    obtain ⟨p, hp⟩ : ∃ p, p = l[a] - prv l a := ⟨_, rfl⟩
    rw [← hp] at q ⊢
    repeat walk_at "sd"
    refine ⟨100 * (p - 1), n, rfl, by omega, Bd.mono (m := 20) (by unfold Bd; omega) (by decide), bn.mono (by decide), ?_⟩
    walk_at "ev"
    repeat walk_at "sd"
    refine ⟨100 * (p + 1), n, rfl, by omega, Bd.mono (m := 20) (by unfold Bd; omega) (by decide), bn.mono (by decide), ?_⟩
    walk_at "ev"
    repeat walk_at "sd"
    exact q
  · have z := of_decide_eq_false z
    rw [if_neg z] at hd
    walk_at "ev"
    refine ⟨_, at_head hA, ?_⟩
    walk_at "ev"
    refine ⟨_, Dt.at_last hZ, ?_⟩
    walk_at "ev"
    repeat walk_at "sd"
    have e1 : Bd 20 (2 * l[a] - 1) := Bd.mono (m := 10) (by unfold Bd; omega) (by decide)
    have e2 : Bd 20 (2 * l[a] + 1) := Bd.mono (m := 10) (by unfold Bd; omega) (by decide)
    refine ⟨(mkP (Kx.R j * f)).1, (mkP (Kx.R j * f)).2, (mkP (Kx.R j * (f + (m - 1)))).1, (mkP (Kx.R j * (f + (m - 1)))).2, n, _, rfl, sc, e1, ?_⟩
    walk_at "ev"
    refine ⟨_, at_head hA, ?_⟩
    walk_at "ev"
    refine ⟨_, Dt.at_last hZ, ?_⟩
    walk_at "ev"
    repeat walk_at "sd"
    refine ⟨(mkP (Kx.R j * f)).1, (mkP (Kx.R j * f)).2, (mkP (Kx.R j * (f + (m - 1)))).1, (mkP (Kx.R j * (f + (m - 1)))).2, n, _, rfl, sc, e2, ?_⟩
    walk_at "ev"
    repeat walk_at "sd"
    rw [List.getElem?_map, List.getElem?_eq_getElem ha] at hd
    cases hd
    exact q
abbrev s__law_due : Stmt := top 29
theorem sc__law_due : FnScope ["_law_plan_here", "_law_band", "_law_at", "_law_kind", "_law_width", "_law_rows", "_law_marks_here", "_law_levels", "_law_titles", "_law_series", "_law_level", "_law_many", "_law_low_here"] ["_law_plan_here", "_law_band", "_law_at"] (defScope s__law_due) := ⟨rfl, rfl, rfl, by decide +kernel, rfl, by decide +kernel, by decide +kernel⟩
theorem ok__law_due {P : Program} {w : World} {K : PySem.W.Frag} {mg : Str → Option Value} {base : Heap} {ts : List Addr} {f : Addr} {fd : FuncData} (F : Fun K "_law_due" "_law_due" s__law_due f fd) (C__law_low : Cal P w K mg base (CXE P w) 1 "_law_low" ["_law_top", "_law_bottom"] (spD ⟨K, ts, LSK K⟩ false wf__law_low)) (C__law_standing : Cal P w K mg base (CXE P w) 2 "_law_standing" ["_law_low_here", "_law_high", "_law_rows", "_law_level"] (spD ⟨K, ts, LSK K⟩ false wf__law_standing))  : FnOk P w K mg base (CXE P w) 3 f fd ["_law_plan_here", "_law_band", "_law_at"] (spD ⟨K, ts, LSK K⟩ false wf__law_due) := by
  have nd := (sc__law_due).nd
  refine fn_d F sc__law_due (by decide) (fun ds row Ψ Ξ h => by first | (obtain ⟨rfl, _⟩ := h; rfl) | (obtain ⟨_, rfl, _⟩ := h; rfl) | (obtain ⟨_, _, rfl, _⟩ := h; rfl) | (obtain ⟨_, _, _, rfl, _⟩ := h; rfl) | (obtain ⟨_, _, _, _, rfl, _⟩ := h; rfl) | (obtain ⟨_, _, _, _, _, rfl, _⟩ := h; rfl) | (obtain ⟨_, _, _, _, _, _, rfl, _⟩ := h; rfl) | (obtain ⟨_, _, _, _, _, _, _, rfl, _⟩ := h; rfl) | (obtain ⟨_, _, _, _, _, _, _, _, rfl, _⟩ := h; rfl) | (obtain ⟨_, _, _, _, _, _, _, _, _, rfl, _⟩ := h; rfl) | (obtain ⟨_, _, _, _, _, _, _, _, _, _, rfl, _⟩ := h; rfl) | (obtain ⟨_, _, _, _, _, _, _, _, _, _, _, rfl, _⟩ := h; rfl) | (obtain ⟨_, _, _, _, _, _, _, _, _, _, _, _, rfl, _⟩ := h; rfl) | (obtain ⟨_, _, _, _, _, _, _, _, _, _, _, _, _, rfl, _⟩ := h; rfl)) d__law_due (fun cdv A outer s H E hr => ⟨_, (q_sc (q_asg (q_v 0 (pv 0)) (q_gt (by rfl) (by rfl) (q_g1 (q_gn (i := 3) (pg_name nd rfl (Or.inl rfl)) (Or.inl (by decide))) (q_g1 (q_gn (i := 4) (pg_name nd rfl (Or.inl rfl)) (Or.inl (by decide))) (q_g1 (q_gn (i := 5) (pg_name nd rfl (Or.inl rfl)) (Or.inl (by decide))) (q_g1 (q_gn (i := 6) (pg_name nd rfl (Or.inl rfl)) (Or.inl (by decide))) (q_g1 (q_gn (i := 7) (pg_name nd rfl (Or.inl rfl)) (Or.inl (by decide))) (q_g1 (q_gn (i := 8) (pg_name nd rfl (Or.inl rfl)) (Or.inl (by decide))) (q_g1 (q_gn (i := 9) (pg_name nd rfl (Or.inl rfl)) (Or.inl (by decide))) q_g0 (by rfl)) (by rfl)) (by rfl)) (by rfl)) (by rfl)) (by rfl)) (by rfl)) (by rfl) (by rfl)) (by rfl) (by rfl) (by rfl))
      (q_sc (q_set (i := 10) nd rfl (Or.inl rfl) (q_ix (ix_seqK (by rfl)) od_ix (q_ix (ix_seqK (by rfl)) od_ix (q_v 7 (pv 7)) (q_v 1 (pv 1)) (fun _ _ => rfl)) (q_v 2 (pv 2)) (fun _ _ => rfl)) (Or.inl (by decide)) (by rfl) (by first | exact .inl rfl | exact .inr rfl))
      (q_sc (q_ifS (q_cmpT op_eq bd_eq (q_v 3 (pv 3)) q_str (nomark _)) (q_sc (q_set (i := 11) nd rfl (Or.inl rfl) (q_op op_sub od_sub (q_v 10 (pv 10)) (q_ix (ix_seqK (by rfl)) od_ix (q_op op_catL od_cat (q_lst (q_cons q_int q_nil (by rfl))) (q_ix (ix_seqK (by rfl)) od_ix (q_v 7 (pv 7)) (q_v 1 (pv 1)) (fun _ _ => rfl))) (q_v 2 (pv 2)) (fun _ _ => rfl))) (Or.inl (by decide)) (by rfl) (by first | exact .inl rfl | exact .inr rfl))
      (q_s1 (q_ret (q_tup (q_cons (q_call C__law_low hr passE0 (q_cons (q_op op_mulB od_mul q_int (q_op op_sub od_sub (q_v 11 (pv 11)) q_int)) (q_cons (q_v 5 (pv 5)) q_nil (by rfl)) (by rfl)) (by rfl) (by decide) (by decide) (by rfl)) (q_cons (q_call C__law_low hr passE0 (q_cons (q_op op_mulB od_mul q_int (q_op op_add od_add (q_v 11 (pv 11)) q_int)) (q_cons (q_v 5 (pv 5)) q_nil (by rfl)) (by rfl)) (by rfl) (by decide) (by decide) (by rfl)) q_nil (by rfl)) (by rfl)))))) q_s0)
      (q_sc (q_set (i := 12) nd rfl (Or.inl rfl) (q_call C__law_standing hr passE0 (q_cons (q_ix (ix_seqK (by rfl)) od_ix (q_v 6 (pv 6)) q_int (fun _ _ => rfl)) (q_cons (q_ix (ix_seqK (by rfl)) od_ix (q_v 6 (pv 6)) (q_un un_neg ud_neg q_int) (fun _ _ => rfl)) (q_cons (q_v 5 (pv 5)) (q_cons (q_tup (q_cons (q_op op_sub od_sub (q_op op_mulB od_mul q_int (q_v 10 (pv 10))) q_int) (q_cons q_int q_nil (by rfl)) (by rfl))) q_nil (by rfl)) (by rfl)) (by rfl)) (by rfl)) (by rfl) (by decide) (by decide) (by rfl)) (Or.inl (by decide)) (by rfl) (by first | exact .inl rfl | exact .inr rfl))
      (q_s1 (q_ret (q_tup (q_cons (q_v 12 (pv 12)) (q_cons (q_call C__law_standing hr passE0 (q_cons (q_ix (ix_seqK (by rfl)) od_ix (q_v 6 (pv 6)) q_int (fun _ _ => rfl)) (q_cons (q_ix (ix_seqK (by rfl)) od_ix (q_v 6 (pv 6)) (q_un un_neg ud_neg q_int) (fun _ _ => rfl)) (q_cons (q_v 5 (pv 5)) (q_cons (q_tup (q_cons (q_op op_add od_add (q_op op_mulB od_mul q_int (q_v 10 (pv 10))) q_int) (q_cons q_int q_nil (by rfl)) (by rfl))) q_nil (by rfl)) (by rfl)) (by rfl)) (by rfl)) (by rfl) (by decide) (by decide) (by rfl)) q_nil (by rfl)) (by rfl)))))))))⟩)
def w_law : WS := (wSeq (wFor (wIRng1 (wACons (wCB dMax2 (wACons (wC (.int 1)) (wACons (wCB dMin2 (wACons (wC (.int 4)) (wACons (wCB dLen (wACons (wVar 0) wANil)) wANil))) wANil))) wANil)) (wgName 1) (wSeq (wSet 2 (wLst (wACons (wCall false wf__law_cell_at (wACons (wVar 0) (wACons (wVar 1) wANil))) (wACons (wC (.int 0)) wANil))))
  (wSeq (wSet 3 (wCall true wf__law_plan (wACons (wVar 2) (wACons (wCB dInt1 (wACons (wOp (bod (bSc id)) (wCall true wf__law_take (wACons (wVar 2) (wACons (wC (.int 8)) wANil))) (wC (.int 0))) wANil)) wANil))))
  (wSeq (wSet 4 (wCall false wf__law_copy (wACons (wVar 3) wANil)))
  (wSn0 (wSbA 5 (wCallN wf_stretches_of (wACons (wVar 4) wANil))
  (wSnS (wIfS (wOr (wCmp (bEq not) (wVar 4) (wVar 3)) (wNot (wB (wCB dIsi (wACons (wVar 5) (wACons (wC (.ty "list")) wANil)))))) (wRet (wC (.bl false))) wNext)
  (wSnS (wIfS (wCmp (bSc not) (wCB dLen (wACons (wVar 5) wANil)) (wCB dLen (wACons (wOp dIx (wVar 3) (wC (.int 4))) wANil))) (wRet (wC (.bl false))) wNext)
  (wSbF (wACons (wCB dLen (wACons (wVar 5) wANil)) wANil) 8 (wSnS (wIfS (wOr (wNot (wB (wCB dIsi (wACons (wOp dIx (wVar 5) (wVar 8)) (wACons (wC (.ty "list")) wANil))))) (wCmp (bSc not) (wCB dLen (wACons (wOp dIx (wVar 5) (wVar 8)) wANil)) (wCB dLen (wACons (wOp dIx (wVar 3) (wC (.int 6))) wANil)))) (wRet (wC (.bl false))) wNext)
  (wSnS (wFor (wIRng1 (wACons (wCB dLen (wACons (wOp dIx (wVar 5) (wVar 8)) wANil)) wANil)) (wgName 6) (wSeq (wSet 7 (wOp dIx (wOp dIx (wVar 5) (wVar 8)) (wVar 6)))
  (wSeq (wIfS (wOr (wNot (wB (wCB dIsi (wACons (wVar 7) (wACons (wC (.ty "tuple")) wANil))))) (wCmp (bEq not) (wVar 7) (wCall false wf__law_due (wACons (wVar 3) (wACons (wVar 8) (wACons (wVar 6) wANil)))))) (wRet (wC (.bl false))) wNext)
  (wIfS (wOr (wNot (wB (wCall false wf__law_is_fraction (wACons (wOp dIx (wVar 7) (wC (.int 0))) wANil)))) (wNot (wB (wCall false wf__law_is_fraction (wACons (wOp dIx (wVar 7) (wC (.int 1))) wANil))))) (wRet (wC (.bl false))) wNext))))
  (wAp [true, true, false, true, false, false, false, false, false] 5 8)))
  (wIfS (wCmp (bEq not) (wLc (wIList (wCallN wf_stretches_of (wACons (wVar 3) wANil))) (wgName 8) (fun Γ Ψ _ => Ψ true Γ) (wCB dLen (wACons (wVar 8) wANil)) [8]) (wOp dRep (wLst (wACons (wCB dLen (wACons (wOp dIx (wVar 3) (wC (.int 6))) wANil)) wANil)) (wCB dLen (wACons (wOp dIx (wVar 3) (wC (.int 4))) wANil)))) (wRet (wC (.bl false))) wNext))))))))))
  (wRet (wC (.bl true))))
theorem d_law : ∀ ds row Ψ Ξ, wf_law ds row Ψ Ξ → goR (w_law (endsW false Ψ fun _ => False)) (startW false 9 ds row) := by
  rintro ds row Ψ Ξ ⟨ns, rfl, hl, q⟩
  unfold w_law
  walk_at "ev"
  repeat walk_at "sd"
  refine forB_by (fun i Γ => ∃ x1 x2 x3 x4 x5 x6 x7 x8, Γ = [some (En.shr (D.scr (List.map D.int ns))), x1, x2, x3, x4, x5, x6, x7, x8]) ⟨_, _, _, _, _, _, _, _, rfl⟩ ?_ ?_
  rotate_left
  · rintro Γ ⟨x1, x2, x3, x4, x5, x6, x7, x8, rfl⟩
    walk_at "ev"
    exact q
  rintro i0 Γ d hd ⟨x1, x2, x3, x4, x5, x6, x7, x8, rfl⟩
  obtain ⟨hi, rfl⟩ := rng_get hd
  walk_at "ev"
  refine ⟨ns, _, rfl, by rw [List.length_map] at hi; split at hi <;> split at hi <;> omega, fun cell => ?_⟩
  walk_at "ev"
  repeat walk_at "sd"
  refine ⟨8, 0, rfl, ⟨_, _, rfl, by omega, by omega⟩, by decide, by decide, by decide, fun v row1 v0 v1 R1 => ?_⟩
  walk_at "ev"
  refine ⟨_, _, rfl, by split <;> omega, by split <;> omega, R1, by omega, by omega, fun k w n j f m lss xs ss row2 gp R2 => ?_⟩
  walk_at "ev"
  have l1 := gp.l1
  have s1 := gp.s1
  have pd := thing_dep (w := w) (n := n) (ps := plMs (Kx.R j) f m) (lss := lss) gp.tht
  refine ⟨k, w, n, plMs (Kx.R j) f m, lss, xs, ss, rfl, by omega, ?_⟩
  walk_at "ev"
  refine sbA_by (by simp) ?_
  walk_at "ev"
  refine ⟨k, w, n, j, f, m, lss, xs, ss, rfl, gp, ?_⟩
  walk_at "ev"
  have pd' := pd
  unfold thingD at pd'
  unfold planD
  refine sideR_by ⟨⟨3, by decide, pd'⟩, 3, by decide, pd'⟩ fun _ => ?_
  rw [deq_refl pd']
  walk_at "ev"
  refine ⟨_, rfl, ?_⟩
  walk_at "ev"
  refine iteR_by (fun z => absurd z (by rw [List.length_map, List.length_map]; simp)) (fun _ => ?_)
  walk_at "ev"
  obtain ⟨B, hB⟩ : ∃ B : List Int → List D, B = bndD k (mkP (Kx.R j * f)) (mkP (Kx.R j * (f + (m - 1)))) n := ⟨_, rfl⟩
  have hn : ∀ l, NolA (B l) := fun l => by rw [hB]; exact bnd_nol
  have hlen : ∀ l, (B l).length = l.length := fun l => by rw [hB]; exact bnd_ln
  rw [← hB]
  rw [List.length_map]
  refine forA_by (fun i Γ => ∃ x4 x6 x7 x8, Γ = [some (En.shr (D.scr (List.map D.int ns))), some (En.shr (D.int (0 + ↑i0))), none, some (En.shr (planD k w n (plMs (Kx.R j) f m) lss xs ss)), x4, some (En.shr (D.lst (nghI B lss i))), x6, x7, x8]) (by omega) ⟨_, _, _, _, by rw [ngh_zero]; rfl⟩ (fun i Γ hi hg => ?_) (fun Γ hg => ?_)
  · obtain ⟨x4, x6, x7, x8, rfl⟩ := hg
    refine ⟨by simp, ?_⟩
    unfold planD
    walk_at "ev"
    have hi' : i < lss.length := by omega
    obtain ⟨l, hl⟩ : ∃ l, lss[i]? = some l := ⟨_, List.getElem?_eq_getElem hi'⟩
    have gl := gp.ll l (List.mem_of_getElem? hl)
    have get := atI_nat (ngh_get (f := B) hl)
    refine ⟨_, get, ?_⟩
    walk_at "ev"
    refine ⟨_, get, ?_⟩
    walk_at "ev"
    refine ⟨_, rfl, ?_⟩
    walk_at "ev"
    refine iteR_by (fun z => absurd z (by rw [List.length_map, hlen, gl.1]; simp)) (fun _ => ?_)
    walk_at "ev"
    refine ⟨_, get, ?_⟩
    walk_at "ev"
    rw [hlen, gl.1]
    refine sideR_by (by omega) fun _ => ?_
    refine forB_by (fun a Γ => ∃ x4 x6 x7, Γ = [some (En.shr (D.scr (List.map D.int ns))), some (En.shr (D.int (0 + ↑i0))), none, some (En.shr (planD k w n (plMs (Kx.R j) f m) lss xs ss)), x4, some (En.shr (D.lst (nghI B lss i))), x6, x7, some (En.shr (D.int (i : Nat)))]) ⟨_, _, _, rfl⟩ ?_ ?_
    · rintro a Γ d hd ⟨x4, x6, x7, rfl⟩
      obtain ⟨ha, rfl⟩ := rng_get hd
      rw [Int.zero_add]
      have ha' : a < (B l).length := by rw [hlen, gl.1]; omega
      obtain ⟨p, q, epq⟩ : ∃ p q, (B l)[a] = .tup [frD p, frD q] := by
        have tw : ∀ d ∈ B l, ∃ p q, d = .tup [frD p, frD q] := by rw [hB]; exact fun d => bnd_two
        exact tw _ (List.getElem_mem ha')
      have gab : (B l)[a]? = some (.tup [frD p, frD q]) := by rw [List.getElem?_eq_getElem ha', epq]
      unfold planD
      walk_at "ev"
      refine ⟨_, get, ?_⟩
      walk_at "ev"
      refine ⟨_, atI_nat gab, ?_⟩
      walk_at "ev"
      refine ⟨k, w, n, j, f, m, lss, xs, ss, i, a, l, .tup [frD p, frD q], rfl, gp, hl, by rw [← hB]; exact gab, by rw [gl.1]; omega, ?_⟩
      walk_at "ev"
      refine sideR_by ⟨⟨3, by decide, two_dep⟩, 3, by decide, two_dep⟩ fun _ => ?_
      rw [deq_refl (two_dep (p := p) (q := q))]
      walk_at "ev"
      refine ⟨_, rfl, ?_⟩
      walk_at "ev"
      refine ⟨_, rfl, ?_⟩
      walk_at "ev"
      exact ⟨_, _, _, rfl⟩
    · rintro Γ ⟨x4, x6, x7, rfl⟩
      refine ap_by (dss := nghI B lss i) (es := B l) (i := i) (Γn := [some (En.shr (D.scr (List.map D.int ns))), some (En.shr (D.int (0 + ↑i0))), none, some (En.shr (planD k w n (plMs (Kx.R j) f m) lss xs ss)), none, none, none, none, none]) (by simp) rfl rfl (ngh_get hl) (ngh_nol hn) (by rw [hlen, gl.1]; omega) (.kept (.kept (.skip (.kept (.skip (.skip (.skip (.skip (.skip .nil))))))))) ?_
      refine ⟨none, none, none, none, ?_⟩
      rw [ngh_set hl]
      rfl
  · obtain ⟨x4, x6, x7, x8, rfl⟩ := hg
    unfold planD
    walk_at "ev"
    refine ⟨k, w, n, j, f, m, lss, xs, ss, rfl, gp, ?_⟩
    walk_at "ev"
    rw [← hB]
    refine lcB_fg (fun l : List Int => D.int (ss.length : Nat)) (size_le (by omega)) (fun l hl kk hk => ?_) ?_
    · have gl := gp.ll l hl
      walk_at "ev"
      rw [hlen, gl.1]
      exact hk
    walk_at "ev"
    refine ⟨_, rfl, ?_⟩
    walk_at "ev"
    refine sideR_by (by decide) fun _ => ?_
    walk_at "ev"
    refine ⟨_, rfl, ?_⟩
    walk_at "ev"
    rw [List.length_map, List.length_map]
    refine sideR_by ⟨by omega, by omega, Nat.le_trans (m := 12) (by omega) (by decide)⟩ fun _ => ?_
    walk_at "ev"
    rw [show (lss.length : Int).toNat = lss.length by omega, rep_int]
    have di : Dep 1 (.lst ((lss.map fun _ => ((ss.length : Nat) : Int)).map D.int)) := .lst fun d hd => by
      obtain ⟨x, _, rfl⟩ := List.mem_map.mp hd
      exact .int x
    have e0 : lss.map (fun _ => D.int (ss.length : Nat)) = (lss.map fun _ => ((ss.length : Nat) : Int)).map D.int := by rw [List.map_map]; rfl
    rw [e0]
    refine sideR_by ⟨⟨1, by decide, di⟩, 1, by decide, di⟩ fun _ => ?_
    rw [deq_refl di]
    walk_at "ev"
    exact ⟨_, _, _, _, _, _, _, _, rfl⟩
abbrev s_law : Stmt := top 30
theorem sc_law : FnScope ["_law_script", "_law_k", "_law_row", "_law_plan_here", "_law_handed", "_law_found", "_law_at", "_law_one", "_law_band"] ["_law_script"] (defScope s_law) := ⟨rfl, rfl, rfl, by decide +kernel, rfl, by decide +kernel, by decide +kernel⟩
theorem ok_law {P : Program} {w : World} {K : PySem.W.Frag} {mg : Str → Option Value} {base : Heap} {ts : List Addr} {f : Addr} {fd : FuncData} (F : Fun K "law" "law" s_law f fd) (C__law_cell_at : Cal P w K mg base (CXE P w) 1 "_law_cell_at" ["_law_script", "_law_k"] (spD ⟨K, ts, LSK K⟩ false wf__law_cell_at)) (C__law_plan : Cal P w K mg base (CXE P w) 3 "_law_plan" ["_law_row", "_law_great"] (spD ⟨K, ts, LSK K⟩ true wf__law_plan)) (C__law_take : Cal P w K mg base (CXE P w) 1 "_law_take" ["_law_row", "_law_base"] (spD ⟨K, ts, LSK K⟩ true wf__law_take)) (C__law_copy : Cal P w K mg base (CXE P w) 1 "_law_copy" ["_law_plan_here"] (spD ⟨K, ts, LSK K⟩ false wf__law_copy)) (C_stretches_of : Cal P w K mg base (CXE P w) 6 "stretches_of" ["plan"] (spN ⟨K, ts, LSK K⟩ wf_stretches_of)) (C__law_due : Cal P w K mg base (CXE P w) 3 "_law_due" ["_law_plan_here", "_law_band", "_law_at"] (spD ⟨K, ts, LSK K⟩ false wf__law_due)) (C__law_is_fraction : Cal P w K mg base (CXE P w) 2 "_law_is_fraction" ["_law_found"] (spD ⟨K, ts, LSK K⟩ false wf__law_is_fraction)) (z_range : mg "range" = none) (z_max : mg "max" = none) (z_min : mg "min" = none) (z_len : mg "len" = none) (z_int : mg "int" = none) (z_isinstance : mg "isinstance" = none) (z_list : mg "list" = none) (z_tuple : mg "tuple" = none) : FnOk P w K mg base (CXE P w) 7 f fd ["_law_script"] (spD ⟨K, ts, LSK K⟩ false wf_law) := by
  have nd := (sc_law).nd
  refine fn_d F sc_law (by decide) (fun ds row Ψ Ξ h => by first | (obtain ⟨rfl, _⟩ := h; rfl) | (obtain ⟨_, rfl, _⟩ := h; rfl) | (obtain ⟨_, _, rfl, _⟩ := h; rfl) | (obtain ⟨_, _, _, rfl, _⟩ := h; rfl) | (obtain ⟨_, _, _, _, rfl, _⟩ := h; rfl) | (obtain ⟨_, _, _, _, _, rfl, _⟩ := h; rfl) | (obtain ⟨_, _, _, _, _, _, rfl, _⟩ := h; rfl) | (obtain ⟨_, _, _, _, _, _, _, rfl, _⟩ := h; rfl) | (obtain ⟨_, _, _, _, _, _, _, _, rfl, _⟩ := h; rfl) | (obtain ⟨_, _, _, _, _, _, _, _, _, rfl, _⟩ := h; rfl) | (obtain ⟨_, _, _, _, _, _, _, _, _, _, rfl, _⟩ := h; rfl) | (obtain ⟨_, _, _, _, _, _, _, _, _, _, _, rfl, _⟩ := h; rfl) | (obtain ⟨_, _, _, _, _, _, _, _, _, _, _, _, rfl, _⟩ := h; rfl) | (obtain ⟨_, _, _, _, _, _, _, _, _, _, _, _, _, rfl, _⟩ := h; rfl)) d_law (fun cdv A outer s H E hr => ⟨_, (q_sc (q_for PassesOwn.never (by rfl) (q_ir1 (by rfl) z_range (q_cons (q_cB (call_max2 rfl) cd_max2 (by rfl) z_max (by decide +kernel) (q_cons q_int (q_cons (q_cB (call_min2 rfl) cd_min2 (by rfl) z_min (by decide +kernel) (q_cons q_int (q_cons (q_cB (call_lenK (by rfl)) cd_len (by rfl) z_len (by decide +kernel) (q_cons (q_v 0 (pv 0)) q_nil (by rfl)) (by decide) (by decide) (by rfl)) q_nil (by rfl)) (by rfl)) (by decide) (by decide) (by rfl)) q_nil (by rfl)) (by rfl)) (by decide) (by decide) (by rfl)) q_nil (by rfl)) (by rfl)) (q_gn (i := 1) (pg_name nd rfl (Or.inl rfl)) (Or.inl (by decide))) (q_sc (q_set (i := 2) nd rfl (Or.inl rfl) (q_lst (q_cons (q_call C__law_cell_at hr passE0 (q_cons (q_v 0 (pv 0)) (q_cons (q_v 1 (pv 1)) q_nil (by rfl)) (by rfl)) (by rfl) (by decide) (by decide) (by rfl)) (q_cons q_int q_nil (by rfl)) (by rfl))) (Or.inl (by decide)) (by rfl) (by first | exact .inl rfl | exact .inr rfl))
      (q_sc (q_set (i := 3) nd rfl (Or.inl rfl) (q_call C__law_plan hr passE0 (q_cons (q_v 2 (pv 2)) (q_cons (q_cT call_int1 cd_int1 (by rfl) z_int (by decide +kernel) (q_cons (q_cmp op_eq bd_eq (q_call C__law_take hr passE0 (q_cons (q_v 2 (pv 2)) (q_cons q_int q_nil (by rfl)) (by rfl)) (by rfl) (by decide) (by decide) (by rfl)) q_int (nomark _)) q_nil (by rfl)) (by decide) (by decide) (by rfl)) q_nil (by rfl)) (by rfl)) (by rfl) (by decide) (by decide) (by rfl)) (Or.inl (by decide)) (by rfl) (by first | exact .inl rfl | exact .inr rfl))
      (q_sc (q_set (i := 4) nd rfl (Or.inl rfl) (q_call C__law_copy hr passE0 (q_cons (q_v 3 (pv 3)) q_nil (by rfl)) (by rfl) (by decide) (by decide) (by rfl)) (Or.inl (by decide)) (by rfl) (by first | exact .inl rfl | exact .inr rfl))
      (q_snap (q_sbA (x := 5) (by decide) nd rfl (Or.inl rfl) (q_callN C_stretches_of hr passE0 (q_cons (q_v 4 (pv 4)) q_nil (by rfl)) (by rfl) (by decide) (by decide) (by rfl)) (by rfl) (by first | exact .inl rfl | exact .inr rfl)
      (q_sbS (q_ifS (QW.tst (q_or (q_cmpT (op_neDK (by rfl) hr.units) bd_neD (q_v 4 (pv 4)) (q_v 3 (pv 3)) (nomark _)) (q_or1 (q_tnot (q_tv (q_cB (call_isiK (by rfl)) cd_isi (by rfl) z_isinstance (by decide +kernel) (q_cons (q_v 5 (pv 5)) (q_cons (q_glob (pe_bltn (v := .ty "list") (by rfl) z_list (by decide +kernel) rfl) (fun _ => .ty _)) q_nil (by rfl)) (by rfl)) (by decide) (by decide) (by rfl)) (by rfl)))))) (q_s1 (q_ret q_bl)) q_s0) keep_ret
      (q_sbS (q_ifS (q_cmpT op_ne bd_ne (q_cB (call_lenK (by rfl)) cd_len (by rfl) z_len (by decide +kernel) (q_cons (q_v 5 (pv 5)) q_nil (by rfl)) (by decide) (by decide) (by rfl)) (q_cB (call_lenK (by rfl)) cd_len (by rfl) z_len (by decide +kernel) (q_cons (q_ix (ix_seqK (by rfl)) od_ix (q_v 3 (pv 3)) q_int (fun _ _ => rfl)) q_nil (by rfl)) (by decide) (by decide) (by rfl)) (nomark _)) (q_s1 (q_ret q_bl)) q_s0) keep_ret
      (q_sbF (y := 8) PassesOwn.never (by rfl) (by rfl) z_range (q_cons (q_cB (call_lenK (by rfl)) cd_len (by rfl) z_len (by decide +kernel) (q_cons (q_v 5 (pv 5)) q_nil (by rfl)) (by decide) (by decide) (by rfl)) q_nil (by rfl)) (by rfl) (pg_name nd rfl (Or.inl rfl)) (fun _ => rfl) (by decide) (by decide)
      (q_saS (q_ifS (QW.tst (q_or (q_tnot (q_tv (q_cB (call_isiK (by rfl)) cd_isi (by rfl) z_isinstance (by decide +kernel) (q_cons (q_ix (ix_seqK (by rfl)) od_ix (q_v 5 (pv 5)) (q_v 8 (pv 8)) (fun _ _ => rfl)) (q_cons (q_glob (pe_bltn (v := .ty "list") (by rfl) z_list (by decide +kernel) rfl) (fun _ => .ty _)) q_nil (by rfl)) (by rfl)) (by decide) (by decide) (by rfl)) (by rfl))) (q_or1 (q_cmpT op_ne bd_ne (q_cB (call_lenK (by rfl)) cd_len (by rfl) z_len (by decide +kernel) (q_cons (q_ix (ix_seqK (by rfl)) od_ix (q_v 5 (pv 5)) (q_v 8 (pv 8)) (fun _ _ => rfl)) q_nil (by rfl)) (by decide) (by decide) (by rfl)) (q_cB (call_lenK (by rfl)) cd_len (by rfl) z_len (by decide +kernel) (q_cons (q_ix (ix_seqK (by rfl)) od_ix (q_v 3 (pv 3)) q_int (fun _ _ => rfl)) q_nil (by rfl)) (by decide) (by decide) (by rfl)) (nomark _))))) (q_s1 (q_ret q_bl)) q_s0) keep_ret
      (q_saS (q_for PassesOwn.never (by rfl) (q_ir1 (by rfl) z_range (q_cons (q_cB (call_lenK (by rfl)) cd_len (by rfl) z_len (by decide +kernel) (q_cons (q_ix (ix_seqK (by rfl)) od_ix (q_v 5 (pv 5)) (q_v 8 (pv 8)) (fun _ _ => rfl)) q_nil (by rfl)) (by decide) (by decide) (by rfl)) q_nil (by rfl)) (by rfl)) (q_gn (i := 6) (pg_name nd rfl (Or.inl rfl)) (Or.inl (by decide))) (q_sc (q_set (i := 7) nd rfl (Or.inl rfl) (q_ix (ix_seqK (by rfl)) od_ix (q_ix (ix_seqK (by rfl)) od_ix (q_v 5 (pv 5)) (q_v 8 (pv 8)) (fun _ _ => rfl)) (q_v 6 (pv 6)) (fun _ _ => rfl)) (Or.inl (by decide)) (by rfl) (by first | exact .inl rfl | exact .inr rfl))
      (q_sc (q_ifS (QW.tst (q_or (q_tnot (q_tv (q_cB (call_isiK (by rfl)) cd_isi (by rfl) z_isinstance (by decide +kernel) (q_cons (q_v 7 (pv 7)) (q_cons (q_glob (pe_bltn (v := .ty "tuple") (by rfl) z_tuple (by decide +kernel) rfl) (fun _ => .ty _)) q_nil (by rfl)) (by rfl)) (by decide) (by decide) (by rfl)) (by rfl))) (q_or1 (q_cmpT (op_neDK (by rfl) hr.units) bd_neD (q_v 7 (pv 7)) (q_call C__law_due hr passE0 (q_cons (q_v 3 (pv 3)) (q_cons (q_v 8 (pv 8)) (q_cons (q_v 6 (pv 6)) q_nil (by rfl)) (by rfl)) (by rfl)) (by rfl) (by decide) (by decide) (by rfl)) (nomark _))))) (q_s1 (q_ret q_bl)) q_s0)
      (q_s1 (q_ifS (QW.tst (q_or (q_tnot (q_tv (q_call C__law_is_fraction hr passE0 (q_cons (q_ix (ix_seqK (by rfl)) od_ix (q_v 7 (pv 7)) q_int (fun _ _ => rfl)) q_nil (by rfl)) (by rfl) (by decide) (by decide) (by rfl)) (by rfl))) (q_or1 (q_tnot (q_tv (q_call C__law_is_fraction hr passE0 (q_cons (q_ix (ix_seqK (by rfl)) od_ix (q_v 7 (pv 7)) q_int (fun _ _ => rfl)) q_nil (by rfl)) (by rfl) (by decide) (by decide) (by rfl)) (by rfl)))))) (q_s1 (q_ret q_bl)) q_s0)))) (fun _ => rfl)) (keep_for (by decide) (keep_seq (keep_asg (by decide)) (keep_seq keep_ret keep_ret)) (nob_seq nob_asg (nob_seq nob_ret nob_ret)))
      (q_saP (m := [true, true, false, true, false, false, false, false, false]) (pv 5) (pv 8) pe_int alw_c (fun _ _ => rfl) (by rfl) (by rfl) (by rfl) (by rfl) (by rfl))))
      (q_s1 (q_ifS (q_cmpT (op_neDK (by rfl) hr.units) bd_neD (q_lc (own := [("_law_band", 8)]) (by rfl) nd (q_il (by rfl) (QEN.toE (q_callN C_stretches_of hr passE0 (q_cons (q_v 3 (pv 3)) q_nil (by rfl)) (by rfl) (by decide) (by decide) (by rfl)))) (blkOk_by (own := [("_law_band", 8)]) (N := ["_law_script", "_law_k", "_law_row", "_law_plan_here", "_law_handed", "_law_found", "_law_at", "_law_one", "_law_band"]) (sc := defScope s_law) (by decide +kernel)) (fun _ _ _ _ _ => (q_cn (i := 8) (pg_name nd rfl (Or.inl rfl)) (by decide))) (fun _ _ _ _ _ => q_t0) (fun _ _ _ _ _ => (q_cB (call_lenK (by rfl)) cd_len (by rfl) z_len (by decide +kernel) (q_cons (q_v 8 (pv 8)) q_nil (by rfl)) (by decide) (by decide) (by rfl))) (fun _ => rfl)) (q_op op_repL od_rep (q_lst (q_cons (q_cB (call_lenK (by rfl)) cd_len (by rfl) z_len (by decide +kernel) (q_cons (q_ix (ix_seqK (by rfl)) od_ix (q_v 3 (pv 3)) q_int (fun _ _ => rfl)) q_nil (by rfl)) (by decide) (by decide) (by rfl)) q_nil (by rfl))) (q_cB (call_lenK (by rfl)) cd_len (by rfl) z_len (by decide +kernel) (q_cons (q_ix (ix_seqK (by rfl)) od_ix (q_v 3 (pv 3)) q_int (fun _ _ => rfl)) q_nil (by rfl)) (by decide) (by decide) (by rfl))) (nomark _)) (q_s1 (q_ret q_bl)) q_s0)))))))))) (fun _ => rfl))
      (q_s1 (q_ret q_bl)))⟩)
theorem all_mk {l : PySem.W.OpenLaw} {w : World} {K : PySem.W.Frag} {h : Heap} {mg : Str → Option Value} {fa : Addr} (X : K.In h) (G : h.Ns mainGlobals mg) (hfa : mg "law" = some (.ref fa))
    {f0 : Addr} {od0 an0 : Option Addr} {sl0 : Array (Option Value)} {oc0 kV0 dc0 pm0 cd0 ct0 : Value} {f1 : Addr} {od1 an1 : Option Addr} {sl1 : Array (Option Value)} {oc1 kV1 dc1 pm1 cd1 ct1 : Value} {f2 : Addr} {od2 an2 : Option Addr} {sl2 : Array (Option Value)} {oc2 kV2 dc2 pm2 cd2 ct2 : Value} {f3 : Addr} {od3 an3 : Option Addr} {sl3 : Array (Option Value)} {oc3 kV3 dc3 pm3 cd3 ct3 : Value} {f4 : Addr} {od4 an4 : Option Addr} {sl4 : Array (Option Value)} {oc4 kV4 dc4 pm4 cd4 ct4 : Value} {f5 : Addr} {od5 an5 : Option Addr} {sl5 : Array (Option Value)} {oc5 kV5 dc5 pm5 cd5 ct5 : Value} {f6 : Addr} {od6 an6 : Option Addr} {sl6 : Array (Option Value)} {oc6 kV6 dc6 pm6 cd6 ct6 : Value} {f7 : Addr} {od7 an7 : Option Addr} {sl7 : Array (Option Value)} {oc7 kV7 dc7 pm7 cd7 ct7 : Value} {f8 : Addr} {od8 an8 : Option Addr} {sl8 : Array (Option Value)} {oc8 kV8 dc8 pm8 cd8 ct8 : Value} {f9 : Addr} {od9 an9 : Option Addr} {sl9 : Array (Option Value)} {oc9 kV9 dc9 pm9 cd9 ct9 : Value} {f10 : Addr} {od10 an10 : Option Addr} {sl10 : Array (Option Value)} {oc10 kV10 dc10 pm10 cd10 ct10 : Value} {f11 : Addr} {od11 an11 : Option Addr} {sl11 : Array (Option Value)} {oc11 kV11 dc11 pm11 cd11 ct11 : Value} {f12 : Addr} {od12 an12 : Option Addr} {sl12 : Array (Option Value)} {oc12 kV12 dc12 pm12 cd12 ct12 : Value} {f13 : Addr} {od13 an13 : Option Addr} {sl13 : Array (Option Value)} {oc13 kV13 dc13 pm13 cd13 ct13 : Value} {f14 : Addr} {od14 an14 : Option Addr} {sl14 : Array (Option Value)} {oc14 kV14 dc14 pm14 cd14 ct14 : Value} {f15 : Addr} {od15 an15 : Option Addr} {sl15 : Array (Option Value)} {oc15 kV15 dc15 pm15 cd15 ct15 : Value} {f16 : Addr} {od16 an16 : Option Addr} {sl16 : Array (Option Value)} {oc16 kV16 dc16 pm16 cd16 ct16 : Value} {f17 : Addr} {od17 an17 : Option Addr} {sl17 : Array (Option Value)} {oc17 kV17 dc17 pm17 cd17 ct17 : Value} {f18 : Addr} {od18 an18 : Option Addr} {sl18 : Array (Option Value)} {oc18 kV18 dc18 pm18 cd18 ct18 : Value} {f19 : Addr} {od19 an19 : Option Addr} {sl19 : Array (Option Value)} {oc19 kV19 dc19 pm19 cd19 ct19 : Value} {f20 : Addr} {od20 an20 : Option Addr} {sl20 : Array (Option Value)} {oc20 kV20 dc20 pm20 cd20 ct20 : Value} {f21 : Addr} {od21 an21 : Option Addr} {sl21 : Array (Option Value)} {oc21 kV21 dc21 pm21 cd21 ct21 : Value} {f22 : Addr} {od22 an22 : Option Addr} {sl22 : Array (Option Value)} {oc22 kV22 dc22 pm22 cd22 ct22 : Value} {f23 : Addr} {od23 an23 : Option Addr} {sl23 : Array (Option Value)} {oc23 kV23 dc23 pm23 cd23 ct23 : Value} {f24 : Addr} {od24 an24 : Option Addr} {sl24 : Array (Option Value)} {oc24 kV24 dc24 pm24 cd24 ct24 : Value} {f25 : Addr} {od25 an25 : Option Addr} {sl25 : Array (Option Value)} {oc25 kV25 dc25 pm25 cd25 ct25 : Value} {a_Scale : Addr}
    (aC_Scale : PySem.W.nsIn K mainGlobals "Scale" = some (some (.ref a_Scale)))
    (pg_Scale : PySem.W.plainGet K a_Scale Str.empty = true)
    (hd_Scale : PySem.W.hasDictIn K a_Scale = true)
    (po_Scale : PySem.W.plainOver K a_Scale = true)
    (sa_Scale : PySem.W.findIn K (.ref a_Scale) "__setattr__" = some (some (.builtin "object.__setattr__")))
    (mk_Scale : PySem.W.makesIn K a_Scale = true)
    (kc_Scale : PySem.W.keepIn K (.ref a_Scale) = true)
    (n_low_Scale : PySem.W.findIn K (.ref a_Scale) "low" = some none)
    (n_high_Scale : PySem.W.findIn K (.ref a_Scale) "high" = some none)
    (n_rows_Scale : PySem.W.findIn K (.ref a_Scale) "rows" = some none)
    (ab_Bars : PySem.W.nsIn K mainGlobals "Bars" = some none)
    (ab_Lines : PySem.W.nsIn K mainGlobals "Lines" = some none)
    (ab_Stacks : PySem.W.nsIn K mainGlobals "Stacks" = some none)
    (ab_Shares : PySem.W.nsIn K mainGlobals "Shares" = some none)
    (g_Scale___init__ : PySem.W.findIn K (.ref a_Scale) "__init__" = some (some (.ref f8)))
    (g_Scale_at_levels : PySem.W.findIn K (.ref a_Scale) "at_levels" = some (some (.ref f9)))
    (g_Scale_stretch : PySem.W.findIn K (.ref a_Scale) "stretch" = some (some (.ref f16)))
    (a0 : PySem.W.nsIn K mainGlobals "is_whole" = some (some (.ref f0))) (l0 : K.lookup f0 = some ⟨oc0, od0, .func (PySem.W.fnOf "is_whole" "is_whole" (defArgs s_is_whole) (defBody s_is_whole) (defScope s_is_whole) .none kV0 dc0 pm0 an0 cd0 ct0), sl0⟩) (c0 : PySem.W.codeIn K cd0 "is_whole" = true) (k0 : PySem.W.keepIn K (.ref f0) = true)
    (a1 : PySem.W.nsIn K mainGlobals "common_divisor" = some (some (.ref f1))) (l1 : K.lookup f1 = some ⟨oc1, od1, .func (PySem.W.fnOf "common_divisor" "common_divisor" (defArgs s_common_divisor) (defBody s_common_divisor) (defScope s_common_divisor) .none kV1 dc1 pm1 an1 cd1 ct1), sl1⟩) (c1 : PySem.W.codeIn K cd1 "common_divisor" = true) (k1 : PySem.W.keepIn K (.ref f1) = true)
    (a2 : PySem.W.nsIn K mainGlobals "fraction" = some (some (.ref f2))) (l2 : K.lookup f2 = some ⟨oc2, od2, .func (PySem.W.fnOf "fraction" "fraction" (defArgs s_fraction) (defBody s_fraction) (defScope s_fraction) .none kV2 dc2 pm2 an2 cd2 ct2), sl2⟩) (c2 : PySem.W.codeIn K cd2 "fraction" = true) (k2 : PySem.W.keepIn K (.ref f2) = true)
    (a3 : PySem.W.nsIn K mainGlobals "plus" = some (some (.ref f3))) (l3 : K.lookup f3 = some ⟨oc3, od3, .func (PySem.W.fnOf "plus" "plus" (defArgs s_plus) (defBody s_plus) (defScope s_plus) .none kV3 dc3 pm3 an3 cd3 ct3), sl3⟩) (c3 : PySem.W.codeIn K cd3 "plus" = true) (k3 : PySem.W.keepIn K (.ref f3) = true)
    (a4 : PySem.W.nsIn K mainGlobals "less" = some (some (.ref f4))) (l4 : K.lookup f4 = some ⟨oc4, od4, .func (PySem.W.fnOf "less" "less" (defArgs s_less) (defBody s_less) (defScope s_less) .none kV4 dc4 pm4 an4 cd4 ct4), sl4⟩) (c4 : PySem.W.codeIn K cd4 "less" = true) (k4 : PySem.W.keepIn K (.ref f4) = true)
    (a5 : PySem.W.nsIn K mainGlobals "times" = some (some (.ref f5))) (l5 : K.lookup f5 = some ⟨oc5, od5, .func (PySem.W.fnOf "times" "times" (defArgs s_times) (defBody s_times) (defScope s_times) .none kV5 dc5 pm5 an5 cd5 ct5), sl5⟩) (c5 : PySem.W.codeIn K cd5 "times" = true) (k5 : PySem.W.keepIn K (.ref f5) = true)
    (a6 : PySem.W.nsIn K mainGlobals "over" = some (some (.ref f6))) (l6 : K.lookup f6 = some ⟨oc6, od6, .func (PySem.W.fnOf "over" "over" (defArgs s_over) (defBody s_over) (defScope s_over) .none kV6 dc6 pm6 an6 cd6 ct6), sl6⟩) (c6 : PySem.W.codeIn K cd6 "over" = true) (k6 : PySem.W.keepIn K (.ref f6) = true)
    (a7 : PySem.W.nsIn K mainGlobals "nearest" = some (some (.ref f7))) (l7 : K.lookup f7 = some ⟨oc7, od7, .func (PySem.W.fnOf "nearest" "nearest" (defArgs s_nearest) (defBody s_nearest) (defScope s_nearest) .none kV7 dc7 pm7 an7 cd7 ct7), sl7⟩) (c7 : PySem.W.codeIn K cd7 "nearest" = true) (k7 : PySem.W.keepIn K (.ref f7) = true)
    (i8 : PySem.W.isFn K (.ref f8) = true) (l8 : K.lookup f8 = some ⟨oc8, od8, .func (PySem.W.fnOf "__init__" "Scale.__init__" (defArgs s_Scale___init__) (defBody s_Scale___init__) (defScope s_Scale___init__) .none kV8 dc8 pm8 an8 cd8 ct8), sl8⟩) (c8 : PySem.W.codeIn K cd8 "Scale.__init__" = true) (k8 : PySem.W.keepIn K (.ref f8) = true)
    (i9 : PySem.W.isFn K (.ref f9) = true) (l9 : K.lookup f9 = some ⟨oc9, od9, .func (PySem.W.fnOf "at_levels" "Scale.at_levels" (defArgs s_Scale_at_levels) (defBody s_Scale_at_levels) (defScope s_Scale_at_levels) .none kV9 dc9 pm9 an9 cd9 ct9), sl9⟩) (c9 : PySem.W.codeIn K cd9 "Scale.at_levels" = true) (k9 : PySem.W.keepIn K (.ref f9) = true)
    (a10 : PySem.W.nsIn K mainGlobals "scale_over" = some (some (.ref f10))) (l10 : K.lookup f10 = some ⟨oc10, od10, .func (PySem.W.fnOf "scale_over" "scale_over" (defArgs s_scale_over) (defBody s_scale_over) (defScope s_scale_over) .none kV10 dc10 pm10 an10 cd10 ct10), sl10⟩) (c10 : PySem.W.codeIn K cd10 "scale_over" = true) (k10 : PySem.W.keepIn K (.ref f10) = true)
    (a11 : PySem.W.nsIn K mainGlobals "_law_cell_at" = some (some (.ref f11))) (l11 : K.lookup f11 = some ⟨oc11, od11, .func (PySem.W.fnOf "_law_cell_at" "_law_cell_at" (defArgs s__law_cell_at) (defBody s__law_cell_at) (defScope s__law_cell_at) .none kV11 dc11 pm11 an11 cd11 ct11), sl11⟩) (c11 : PySem.W.codeIn K cd11 "_law_cell_at" = true) (k11 : PySem.W.keepIn K (.ref f11) = true)
    (a12 : PySem.W.nsIn K mainGlobals "_law_take" = some (some (.ref f12))) (l12 : K.lookup f12 = some ⟨oc12, od12, .func (PySem.W.fnOf "_law_take" "_law_take" (defArgs s__law_take) (defBody s__law_take) (defScope s__law_take) .none kV12 dc12 pm12 an12 cd12 ct12), sl12⟩) (c12 : PySem.W.codeIn K cd12 "_law_take" = true) (k12 : PySem.W.keepIn K (.ref f12) = true)
    (a13 : PySem.W.nsIn K mainGlobals "_law_low" = some (some (.ref f13))) (l13 : K.lookup f13 = some ⟨oc13, od13, .func (PySem.W.fnOf "_law_low" "_law_low" (defArgs s__law_low) (defBody s__law_low) (defScope s__law_low) .none kV13 dc13 pm13 an13 cd13 ct13), sl13⟩) (c13 : PySem.W.codeIn K cd13 "_law_low" = true) (k13 : PySem.W.keepIn K (.ref f13) = true)
    (a14 : PySem.W.nsIn K mainGlobals "_law_names" = some (some (.ref f14))) (l14 : K.lookup f14 = some ⟨oc14, od14, .func (PySem.W.fnOf "_law_names" "_law_names" (defArgs s__law_names) (defBody s__law_names) (defScope s__law_names) .none kV14 dc14 pm14 an14 cd14 ct14), sl14⟩) (c14 : PySem.W.codeIn K cd14 "_law_names" = true) (k14 : PySem.W.keepIn K (.ref f14) = true)
    (a15 : PySem.W.nsIn K mainGlobals "_law_whole" = some (some (.ref f15))) (l15 : K.lookup f15 = some ⟨oc15, od15, .func (PySem.W.fnOf "_law_whole" "_law_whole" (defArgs s__law_whole) (defBody s__law_whole) (defScope s__law_whole) .none kV15 dc15 pm15 an15 cd15 ct15), sl15⟩) (c15 : PySem.W.codeIn K cd15 "_law_whole" = true) (k15 : PySem.W.keepIn K (.ref f15) = true)
    (i16 : PySem.W.isFn K (.ref f16) = true) (l16 : K.lookup f16 = some ⟨oc16, od16, .func (PySem.W.fnOf "stretch" "Scale.stretch" (defArgs s_Scale_stretch) (defBody s_Scale_stretch) (defScope s_Scale_stretch) .none kV16 dc16 pm16 an16 cd16 ct16), sl16⟩) (c16 : PySem.W.codeIn K cd16 "Scale.stretch" = true) (k16 : PySem.W.keepIn K (.ref f16) = true)
    (a17 : PySem.W.nsIn K mainGlobals "share_stretches" = some (some (.ref f17))) (l17 : K.lookup f17 = some ⟨oc17, od17, .func (PySem.W.fnOf "share_stretches" "share_stretches" (defArgs s_share_stretches) (defBody s_share_stretches) (defScope s_share_stretches) .none kV17 dc17 pm17 an17 cd17 ct17), sl17⟩) (c17 : PySem.W.codeIn K cd17 "share_stretches" = true) (k17 : PySem.W.keepIn K (.ref f17) = true)
    (a18 : PySem.W.nsIn K mainGlobals "stretches_of" = some (some (.ref f18))) (l18 : K.lookup f18 = some ⟨oc18, od18, .func (PySem.W.fnOf "stretches_of" "stretches_of" (defArgs s_stretches_of) (defBody s_stretches_of) (defScope s_stretches_of) .none kV18 dc18 pm18 an18 cd18 ct18), sl18⟩) (c18 : PySem.W.codeIn K cd18 "stretches_of" = true) (k18 : PySem.W.keepIn K (.ref f18) = true)
    (a19 : PySem.W.nsIn K mainGlobals "_law_marks" = some (some (.ref f19))) (l19 : K.lookup f19 = some ⟨oc19, od19, .func (PySem.W.fnOf "_law_marks" "_law_marks" (defArgs s__law_marks) (defBody s__law_marks) (defScope s__law_marks) .none kV19 dc19 pm19 an19 cd19 ct19), sl19⟩) (c19 : PySem.W.codeIn K cd19 "_law_marks" = true) (k19 : PySem.W.keepIn K (.ref f19) = true)
    (a20 : PySem.W.nsIn K mainGlobals "_law_plan" = some (some (.ref f20))) (l20 : K.lookup f20 = some ⟨oc20, od20, .func (PySem.W.fnOf "_law_plan" "_law_plan" (defArgs s__law_plan) (defBody s__law_plan) (defScope s__law_plan) .none kV20 dc20 pm20 an20 cd20 ct20), sl20⟩) (c20 : PySem.W.codeIn K cd20 "_law_plan" = true) (k20 : PySem.W.keepIn K (.ref f20) = true)
    (a21 : PySem.W.nsIn K mainGlobals "_law_copy" = some (some (.ref f21))) (l21 : K.lookup f21 = some ⟨oc21, od21, .func (PySem.W.fnOf "_law_copy" "_law_copy" (defArgs s__law_copy) (defBody s__law_copy) (defScope s__law_copy) .none kV21 dc21 pm21 an21 cd21 ct21), sl21⟩) (c21 : PySem.W.codeIn K cd21 "_law_copy" = true) (k21 : PySem.W.keepIn K (.ref f21) = true)
    (a22 : PySem.W.nsIn K mainGlobals "_law_is_fraction" = some (some (.ref f22))) (l22 : K.lookup f22 = some ⟨oc22, od22, .func (PySem.W.fnOf "_law_is_fraction" "_law_is_fraction" (defArgs s__law_is_fraction) (defBody s__law_is_fraction) (defScope s__law_is_fraction) .none kV22 dc22 pm22 an22 cd22 ct22), sl22⟩) (c22 : PySem.W.codeIn K cd22 "_law_is_fraction" = true) (k22 : PySem.W.keepIn K (.ref f22) = true)
    (a23 : PySem.W.nsIn K mainGlobals "_law_standing" = some (some (.ref f23))) (l23 : K.lookup f23 = some ⟨oc23, od23, .func (PySem.W.fnOf "_law_standing" "_law_standing" (defArgs s__law_standing) (defBody s__law_standing) (defScope s__law_standing) .none kV23 dc23 pm23 an23 cd23 ct23), sl23⟩) (c23 : PySem.W.codeIn K cd23 "_law_standing" = true) (k23 : PySem.W.keepIn K (.ref f23) = true)
    (a24 : PySem.W.nsIn K mainGlobals "_law_due" = some (some (.ref f24))) (l24 : K.lookup f24 = some ⟨oc24, od24, .func (PySem.W.fnOf "_law_due" "_law_due" (defArgs s__law_due) (defBody s__law_due) (defScope s__law_due) .none kV24 dc24 pm24 an24 cd24 ct24), sl24⟩) (c24 : PySem.W.codeIn K cd24 "_law_due" = true) (k24 : PySem.W.keepIn K (.ref f24) = true)
    (a25 : PySem.W.nsIn K mainGlobals "law" = some (some (.ref f25))) (l25 : K.lookup f25 = some ⟨oc25, od25, .func (PySem.W.fnOf "law" "law" (defArgs s_law) (defBody s_law) (defScope s_law) .none kV25 dc25 pm25 an25 cd25 ct25), sl25⟩) (c25 : PySem.W.codeIn K cd25 "law" = true) (k25 : PySem.W.keepIn K (.ref f25) = true)
    (z_isinstance : PySem.W.nsIn K mainGlobals "isinstance" = some none)
    (z_int : PySem.W.nsIn K mainGlobals "int" = some none)
    (z_bool : PySem.W.nsIn K mainGlobals "bool" = some none)
    (z_abs : PySem.W.nsIn K mainGlobals "abs" = some none)
    (z_len : PySem.W.nsIn K mainGlobals "len" = some none)
    (z_range : PySem.W.nsIn K mainGlobals "range" = some none)
    (z_sorted : PySem.W.nsIn K mainGlobals "sorted" = some none)
    (z_enumerate : PySem.W.nsIn K mainGlobals "enumerate" = some none)
    (z_list : PySem.W.nsIn K mainGlobals "list" = some none)
    (z_tuple : PySem.W.nsIn K mainGlobals "tuple" = some none)
    (z_max : PySem.W.nsIn K mainGlobals "max" = some none)
    (z_min : PySem.W.nsIn K mainGlobals "min" = some none)
    : ∃ fd : FuncData, (∀ (s : Shared) (v : Value), BindsTo s fd ⟨[v], []⟩ [("_law_script", v)]) ∧ ∀ base : Heap, K.In base → base.Ns mainGlobals mg → FnOk l.prog w K mg base (CXE l.prog w) 7 fa fd ["_law_script"] (spD ⟨K, [], LSK K⟩ false wf_law) := by
  have e := hfa.symm.trans (PySem.W.mg_of X G a25)
  cases e
  have F0 := fun_mk (st := s_is_whole) l0 c0 k0
  have F1 := fun_mk (st := s_common_divisor) l1 c1 k1
  have F2 := fun_mk (st := s_fraction) l2 c2 k2
  have F3 := fun_mk (st := s_plus) l3 c3 k3
  have F4 := fun_mk (st := s_less) l4 c4 k4
  have F5 := fun_mk (st := s_times) l5 c5 k5
  have F6 := fun_mk (st := s_over) l6 c6 k6
  have F7 := fun_mk (st := s_nearest) l7 c7 k7
  have F8 := fun_mk (st := s_Scale___init__) l8 c8 k8
  have F9 := fun_mk (st := s_Scale_at_levels) l9 c9 k9
  have F10 := fun_mk (st := s_scale_over) l10 c10 k10
  have F11 := fun_mk (st := s__law_cell_at) l11 c11 k11
  have F12 := fun_mk (st := s__law_take) l12 c12 k12
  have F13 := fun_mk (st := s__law_low) l13 c13 k13
  have F14 := fun_mk (st := s__law_names) l14 c14 k14
  have F15 := fun_mk (st := s__law_whole) l15 c15 k15
  have F16 := fun_mk (st := s_Scale_stretch) l16 c16 k16
  have F17 := fun_mk (st := s_share_stretches) l17 c17 k17
  have F18 := fun_mk (st := s_stretches_of) l18 c18 k18
  have F19 := fun_mk (st := s__law_marks) l19 c19 k19
  have F20 := fun_mk (st := s__law_plan) l20 c20 k20
  have F21 := fun_mk (st := s__law_copy) l21 c21 k21
  have F22 := fun_mk (st := s__law_is_fraction) l22 c22 k22
  have F23 := fun_mk (st := s__law_standing) l23 c23 k23
  have F24 := fun_mk (st := s__law_due) l24 c24 k24
  have F25 := fun_mk (st := s_law) l25 c25 k25
  obtain rfl : a_Scale = CA K "Scale" := (CA_of aC_Scale).symm
  have cF_Scale : ClsF K (CA K "Scale") ["low", "high", "rows"] := ⟨⟨pg_Scale, hd_Scale, po_Scale, sa_Scale⟩, fun f hf => by
    simp only [List.mem_cons, List.not_mem_nil, or_false] at hf
    rcases hf with rfl | rfl | rfl
    · exact n_low_Scale
    · exact n_high_Scale
    · exact n_rows_Scale⟩
  have mgC_Scale := PySem.W.mg_of X G aC_Scale
  have clA : ClsA K := fun p hp => by
    simp only [CL, List.mem_cons, List.not_mem_nil, or_false] at hp
    rcases hp with rfl | rfl | rfl | rfl | rfl
    · intro C hC
      have e := CA_of hC
      subst e
      exact cF_Scale
    · intro C hC
      rw [ab_Bars] at hC
      cases hC
    · intro C hC
      rw [ab_Lines] at hC
      cases hC
    · intro C hC
      rw [ab_Stacks] at hC
      cases hC
    · intro C hC
      rw [ab_Shares] at hC
      cases hC
  have b0 := F0.binds (ps := ["thing"]) fun _ _ _ _ _ _ us hl => match us, hl with | [_], _ => rfl
  have b1 := F1.binds (ps := ["one", "other"]) fun _ _ _ _ _ _ us hl => match us, hl with | [_, _], _ => rfl
  have b2 := F2.binds (ps := ["top", "bottom"]) fun _ _ _ _ _ _ us hl => match us, hl with | [_, _], _ => rfl
  have b3 := F3.binds (ps := ["one", "other"]) fun _ _ _ _ _ _ us hl => match us, hl with | [_, _], _ => rfl
  have b4 := F4.binds (ps := ["one", "other"]) fun _ _ _ _ _ _ us hl => match us, hl with | [_, _], _ => rfl
  have b5 := F5.binds (ps := ["one", "other"]) fun _ _ _ _ _ _ us hl => match us, hl with | [_, _], _ => rfl
  have b6 := F6.binds (ps := ["one", "other"]) fun _ _ _ _ _ _ us hl => match us, hl with | [_, _], _ => rfl
  have b7 := F7.binds (ps := ["one"]) fun _ _ _ _ _ _ us hl => match us, hl with | [_], _ => rfl
  have b8 := F8.binds (ps := ["self", "low", "high", "rows"]) fun _ _ _ _ _ _ us hl => match us, hl with | [_, _, _, _], _ => rfl
  have b9 := F9.binds (ps := ["self", "levels"]) fun _ _ _ _ _ _ us hl => match us, hl with | [_, _], _ => rfl
  have b10 := F10.binds (ps := ["marks", "rows"]) fun _ _ _ _ _ _ us hl => match us, hl with | [_, _], _ => rfl
  have b11 := F11.binds (ps := ["_law_script", "_law_k"]) fun _ _ _ _ _ _ us hl => match us, hl with | [_, _], _ => rfl
  have b12 := F12.binds (ps := ["_law_row", "_law_base"]) fun _ _ _ _ _ _ us hl => match us, hl with | [_, _], _ => rfl
  have b13 := F13.binds (ps := ["_law_top", "_law_bottom"]) fun _ _ _ _ _ _ us hl => match us, hl with | [_, _], _ => rfl
  have b14 := F14.binds (ps := ["_law_row", "_law_many"]) fun _ _ _ _ _ _ us hl => match us, hl with | [_, _], _ => rfl
  have b15 := F15.binds (ps := ["_law_found"]) fun _ _ _ _ _ _ us hl => match us, hl with | [_], _ => rfl
  have b16 := F16.binds (ps := ["self", "level"]) fun _ _ _ _ _ _ us hl => match us, hl with | [_, _], _ => rfl
  have b17 := F17.binds (ps := ["rows", "band"]) fun _ _ _ _ _ _ us hl => match us, hl with | [_, _], _ => rfl
  have b18 := F18.binds (ps := ["plan"]) fun _ _ _ _ _ _ us hl => match us, hl with | [_], _ => rfl
  have b19 := F19.binds (ps := ["_law_row", "_law_kind", "_law_rows"]) fun _ _ _ _ _ _ us hl => match us, hl with | [_, _, _], _ => rfl
  have b20 := F20.binds (ps := ["_law_row", "_law_great"]) fun _ _ _ _ _ _ us hl => match us, hl with | [_, _], _ => rfl
  have b21 := F21.binds (ps := ["_law_plan_here"]) fun _ _ _ _ _ _ us hl => match us, hl with | [_], _ => rfl
  have b22 := F22.binds (ps := ["_law_found"]) fun _ _ _ _ _ _ us hl => match us, hl with | [_], _ => rfl
  have b23 := F23.binds (ps := ["_law_low_here", "_law_high", "_law_rows", "_law_level"]) fun _ _ _ _ _ _ us hl => match us, hl with | [_, _, _, _], _ => rfl
  have b24 := F24.binds (ps := ["_law_plan_here", "_law_band", "_law_at"]) fun _ _ _ _ _ _ us hl => match us, hl with | [_, _, _], _ => rfl
  have z_isinstance := PySem.W.mg_none_of X G z_isinstance
  have z_int := PySem.W.mg_none_of X G z_int
  have z_bool := PySem.W.mg_none_of X G z_bool
  have z_abs := PySem.W.mg_none_of X G z_abs
  have z_len := PySem.W.mg_none_of X G z_len
  have z_range := PySem.W.mg_none_of X G z_range
  have z_sorted := PySem.W.mg_none_of X G z_sorted
  have z_enumerate := PySem.W.mg_none_of X G z_enumerate
  have z_list := PySem.W.mg_none_of X G z_list
  have z_tuple := PySem.W.mg_none_of X G z_tuple
  have z_max := PySem.W.mg_none_of X G z_max
  have z_min := PySem.W.mg_none_of X G z_min
  refine ⟨PySem.W.fnOf "law" "law" (defArgs s_law) (defBody s_law) (defScope s_law) .none kV25 dc25 pm25 an25 cd25 ct25, fun s v => .of_eq rfl, fun base hK hG => ?_⟩
  have C_is_whole : Cal l.prog w K mg base (CXE l.prog w) 1 "is_whole" ["thing"] (spD ⟨K, [], LSK K⟩ false wf_is_whole) := Kx.Fun.cal F0 (ok_is_whole (P := l.prog) (w := w) (mg := mg) (base := base) (ts := []) F0 z_isinstance z_int z_bool) b0 (PySem.W.mg_of X G a0)
  have C_common_divisor : Cal l.prog w K mg base (CXE l.prog w) 1 "common_divisor" ["one", "other"] (spD ⟨K, [], LSK K⟩ false wf_common_divisor) := Kx.Fun.cal F1 (ok_common_divisor (P := l.prog) (w := w) (mg := mg) (base := base) (ts := []) F1 ) b1 (PySem.W.mg_of X G a1)
  have C_fraction : Cal l.prog w K mg base (CXE l.prog w) 2 "fraction" ["top", "bottom"] (spD ⟨K, [], LSK K⟩ false wf_fraction) := Kx.Fun.cal F2 (ok_fraction (P := l.prog) (w := w) (mg := mg) (base := base) (ts := []) F2 C_is_whole C_common_divisor z_abs) b2 (PySem.W.mg_of X G a2)
  have C_plus : Cal l.prog w K mg base (CXE l.prog w) 3 "plus" ["one", "other"] (spD ⟨K, [], LSK K⟩ false wf_plus) := Kx.Fun.cal F3 (ok_plus (P := l.prog) (w := w) (mg := mg) (base := base) (ts := []) F3 C_fraction) b3 (PySem.W.mg_of X G a3)
  have C_less : Cal l.prog w K mg base (CXE l.prog w) 3 "less" ["one", "other"] (spD ⟨K, [], LSK K⟩ false wf_less) := Kx.Fun.cal F4 (ok_less (P := l.prog) (w := w) (mg := mg) (base := base) (ts := []) F4 C_fraction) b4 (PySem.W.mg_of X G a4)
  have C_times : Cal l.prog w K mg base (CXE l.prog w) 3 "times" ["one", "other"] (spD ⟨K, [], LSK K⟩ false wf_times) := Kx.Fun.cal F5 (ok_times (P := l.prog) (w := w) (mg := mg) (base := base) (ts := []) F5 C_fraction) b5 (PySem.W.mg_of X G a5)
  have C_over : Cal l.prog w K mg base (CXE l.prog w) 3 "over" ["one", "other"] (spD ⟨K, [], LSK K⟩ false wf_over) := Kx.Fun.cal F6 (ok_over (P := l.prog) (w := w) (mg := mg) (base := base) (ts := []) F6 C_fraction) b6 (PySem.W.mg_of X G a6)
  have C_nearest : Cal l.prog w K mg base (CXE l.prog w) 1 "nearest" ["one"] (spD ⟨K, [], LSK K⟩ false wf_nearest) := Kx.Fun.cal F7 (ok_nearest (P := l.prog) (w := w) (mg := mg) (base := base) (ts := []) F7 ) b7 (PySem.W.mg_of X G a7)
  have O_Scale___init__ := ok_Scale___init__ (P := l.prog) (w := w) (mg := mg) (base := base) (ts := []) F8 
  have N_Scale : CalN l.prog w K mg base (CXE l.prog w) 1 "Scale" ["low", "high", "rows"] ["self", "low", "high", "rows"] (spI ⟨K, [], LSK K⟩ ["low", "high", "rows"] wm_Scale___init__) := ⟨aC_Scale, cF_Scale, ⟨_, _, ⟨mk_Scale, g_Scale___init__, i8, kc_Scale⟩, O_Scale___init__, b8, mgC_Scale⟩⟩
  have O_Scale_at_levels := ok_Scale_at_levels (P := l.prog) (w := w) (mg := mg) (base := base) (ts := []) F9 C_plus C_over C_times C_less clA
  have CC_Scale_at_levels : CalC l.prog w K mg base (CXE l.prog w) 4 "Scale" "at_levels" ["self", "levels"] (spD ⟨K, [], LSK K⟩ false wf_Scale_at_levels) := ⟨aC_Scale, cF_Scale.1, ⟨_, _, ⟨g_Scale_at_levels, i9, k9⟩, O_Scale_at_levels, b9⟩⟩
  have C_scale_over : Cal l.prog w K mg base (CXE l.prog w) 3 "scale_over" ["marks", "rows"] (spD ⟨K, [], LSK K⟩ false wf_scale_over) := Kx.Fun.cal F10 (ok_scale_over (P := l.prog) (w := w) (mg := mg) (base := base) (ts := []) F10 N_Scale) b10 (PySem.W.mg_of X G a10)
  have C__law_cell_at : Cal l.prog w K mg base (CXE l.prog w) 1 "_law_cell_at" ["_law_script", "_law_k"] (spD ⟨K, [], LSK K⟩ false wf__law_cell_at) := Kx.Fun.cal F11 (ok__law_cell_at (P := l.prog) (w := w) (mg := mg) (base := base) (ts := []) F11 z_len) b11 (PySem.W.mg_of X G a11)
  have C__law_take : Cal l.prog w K mg base (CXE l.prog w) 1 "_law_take" ["_law_row", "_law_base"] (spD ⟨K, [], LSK K⟩ true wf__law_take) := Kx.Fun.cal F12 (ok__law_take (P := l.prog) (w := w) (mg := mg) (base := base) (ts := []) F12 ) b12 (PySem.W.mg_of X G a12)
  have C__law_low : Cal l.prog w K mg base (CXE l.prog w) 1 "_law_low" ["_law_top", "_law_bottom"] (spD ⟨K, [], LSK K⟩ false wf__law_low) := Kx.Fun.cal F13 (ok__law_low (P := l.prog) (w := w) (mg := mg) (base := base) (ts := []) F13 z_abs) b13 (PySem.W.mg_of X G a13)
  have C__law_names : Cal l.prog w K mg base (CXE l.prog w) 2 "_law_names" ["_law_row", "_law_many"] (spD ⟨K, [], LSK K⟩ true wf__law_names) := Kx.Fun.cal F14 (ok__law_names (P := l.prog) (w := w) (mg := mg) (base := base) (ts := []) F14 C__law_take z_range z_int) b14 (PySem.W.mg_of X G a14)
  have C__law_whole : Cal l.prog w K mg base (CXE l.prog w) 1 "_law_whole" ["_law_found"] (spD ⟨K, [], LSK K⟩ false wf__law_whole) := Kx.Fun.cal F15 (ok__law_whole (P := l.prog) (w := w) (mg := mg) (base := base) (ts := []) F15 z_isinstance z_int z_bool) b15 (PySem.W.mg_of X G a15)
  have O_Scale_stretch := ok_Scale_stretch (P := l.prog) (w := w) (mg := mg) (base := base) (ts := []) F16 C_fraction CC_Scale_at_levels
  have CC_Scale_stretch : CalC l.prog w K mg base (CXE l.prog w) 5 "Scale" "stretch" ["self", "level"] (spD ⟨K, [], LSK K⟩ false wf_Scale_stretch) := ⟨aC_Scale, cF_Scale.1, ⟨_, _, ⟨g_Scale_stretch, i16, k16⟩, O_Scale_stretch, b16⟩⟩
  have C_share_stretches : Cal l.prog w K mg base (CXE l.prog w) 3 "share_stretches" ["rows", "band"] (spD ⟨K, [], LSK K⟩ false wf_share_stretches) := Kx.Fun.cal F17 (ok_share_stretches (P := l.prog) (w := w) (mg := mg) (base := base) (ts := []) F17 C_fraction) b17 (PySem.W.mg_of X G a17)
  have C_stretches_of : Cal l.prog w K mg base (CXE l.prog w) 6 "stretches_of" ["plan"] (spN ⟨K, [], LSK K⟩ wf_stretches_of) := Kx.Fun.cal F18 (ok_stretches_of (P := l.prog) (w := w) (mg := mg) (base := base) (ts := []) F18 C_scale_over C_share_stretches CC_Scale_stretch) b18 (PySem.W.mg_of X G a18)
  have C__law_marks : Cal l.prog w K mg base (CXE l.prog w) 2 "_law_marks" ["_law_row", "_law_kind", "_law_rows"] (spD ⟨K, [], LSK K⟩ true wf__law_marks) := Kx.Fun.cal F19 (ok__law_marks (P := l.prog) (w := w) (mg := mg) (base := base) (ts := []) F19 C__law_take C__law_low z_len z_range z_abs z_int) b19 (PySem.W.mg_of X G a19)
  have C__law_plan : Cal l.prog w K mg base (CXE l.prog w) 3 "_law_plan" ["_law_row", "_law_great"] (spD ⟨K, [], LSK K⟩ true wf__law_plan) := Kx.Fun.cal F20 (ok__law_plan (P := l.prog) (w := w) (mg := mg) (base := base) (ts := []) F20 C__law_take C__law_names C__law_marks z_range z_sorted z_int z_enumerate z_len) b20 (PySem.W.mg_of X G a20)
  have C__law_copy : Cal l.prog w K mg base (CXE l.prog w) 1 "_law_copy" ["_law_plan_here"] (spD ⟨K, [], LSK K⟩ false wf__law_copy) := Kx.Fun.cal F21 (ok__law_copy (P := l.prog) (w := w) (mg := mg) (base := base) (ts := []) F21 z_list) b21 (PySem.W.mg_of X G a21)
  have C__law_is_fraction : Cal l.prog w K mg base (CXE l.prog w) 2 "_law_is_fraction" ["_law_found"] (spD ⟨K, [], LSK K⟩ false wf__law_is_fraction) := Kx.Fun.cal F22 (ok__law_is_fraction (P := l.prog) (w := w) (mg := mg) (base := base) (ts := []) F22 C__law_whole z_isinstance z_tuple z_len) b22 (PySem.W.mg_of X G a22)
  have C__law_standing : Cal l.prog w K mg base (CXE l.prog w) 2 "_law_standing" ["_law_low_here", "_law_high", "_law_rows", "_law_level"] (spD ⟨K, [], LSK K⟩ false wf__law_standing) := Kx.Fun.cal F23 (ok__law_standing (P := l.prog) (w := w) (mg := mg) (base := base) (ts := []) F23 C__law_low) b23 (PySem.W.mg_of X G a23)
  have C__law_due : Cal l.prog w K mg base (CXE l.prog w) 3 "_law_due" ["_law_plan_here", "_law_band", "_law_at"] (spD ⟨K, [], LSK K⟩ false wf__law_due) := Kx.Fun.cal F24 (ok__law_due (P := l.prog) (w := w) (mg := mg) (base := base) (ts := []) F24 C__law_low C__law_standing) b24 (PySem.W.mg_of X G a24)
  exact ok_law F25 C__law_cell_at C__law_plan C__law_take C__law_copy C_stretches_of C__law_due C__law_is_fraction z_range z_max z_min z_len z_int z_isinstance z_list z_tuple
theorem walk {l : PySem.W.OpenLaw} {q : Program} {loose : List Str} {XP : (Str → Option Value) → Heap → Prop} {YP : World → Heap → Prop} {d : DefRec} {K : Params → PySem.W.Frag} (hn : l.most = some 63) (hdf : d.params.defaults = [])
    (hY : ∀ (w : World) (h : Heap), YP w h → (K w.params).In h)
    (F : ∀ (w : World) (mg : Str → Option Value) (fa : Addr) (h : Heap), (K w.params).In h → h.Ns mainGlobals mg → mg d.name = some (.ref fa) →
      ∃ fd : FuncData, (∀ (s : Shared) (u : Value), BindsTo s fd ⟨[u], []⟩ [("_law_script", u)]) ∧ ∀ base : Heap, (K w.params).In base → base.Ns mainGlobals mg → FnOk l.prog w (K w.params) mg base (CXE l.prog w) 7 fa fd ["_law_script"] (spD ⟨K w.params, [], LSK (K w.params)⟩ false wf_law)) :
    PySem.W.WalkO q loose XP YP l.row.toRowW d [] (fun f vs => PySem.call f vs) :=
  L2.walk_of (n := 63) (k := 7) (x := "_law_script") (CX := fun w => CXE l.prog w) (sp := fun w => spD ⟨K w.params, [], LSK (K w.params)⟩ false wf_law) hn (by decide) hdf ⟨rfl, by decide, by decide⟩ hY F (fun w H a ns h1 h2 h3 => law_sp (fun hl => ⟨ns, rfl, hl, rfl⟩) h1 (fun _ z => by cases z) (fun _ z => by cases z) h3 (fun b ps z => by rcases h2 b with y | ⟨o, xs, y⟩ <;> (rw [y] at z; cases z))) fun _ _ _ _ _ z => by
    obtain ⟨_, _, _, _, _, _, y, _⟩ := z
    exact y
end Law
open PySem PySem.W PyProof.Rows
set_option maxRecDepth 100000 in
set_option maxHeartbeats 0 in
theorem PySem.Challenge.cw_chartscribe_k49_stretches_told_holds : PySem.Challenge.rw_chartscribe_k49_stretches_told.Holds := by
  w_on; o_law; k_head; (case hw => w_witness2)
  k_fill
  refine Law.walk (l := PySem.Challenge.rw_chartscribe_k49_stretches_told) rfl rfl (fun w h Y => PySem.W.kIn_of Y) ?F
  case F =>
    intro w mg fa h KX G hmg
    refine' Law.all_mk KX G hmg ?aC_Scale ?pg_Scale ?hd_Scale ?po_Scale ?sa_Scale ?mk_Scale ?kc_Scale ?n_low_Scale ?n_high_Scale ?n_rows_Scale ?ab_Bars ?ab_Lines ?ab_Stacks ?ab_Shares ?g_Scale___init__ ?g_Scale_at_levels ?g_Scale_stretch ?a0 ?l0 ?c0 ?k0 ?a1 ?l1 ?c1 ?k1 ?a2 ?l2 ?c2 ?k2 ?a3 ?l3 ?c3 ?k3 ?a4 ?l4 ?c4 ?k4 ?a5 ?l5 ?c5 ?k5 ?a6 ?l6 ?c6 ?k6 ?a7 ?l7 ?c7 ?k7 ?i8 ?l8 ?c8 ?k8 ?i9 ?l9 ?c9 ?k9 ?a10 ?l10 ?c10 ?k10 ?a11 ?l11 ?c11 ?k11 ?a12 ?l12 ?c12 ?k12 ?a13 ?l13 ?c13 ?k13 ?a14 ?l14 ?c14 ?k14 ?a15 ?l15 ?c15 ?k15 ?i16 ?l16 ?c16 ?k16 ?a17 ?l17 ?c17 ?k17 ?a18 ?l18 ?c18 ?k18 ?a19 ?l19 ?c19 ?k19 ?a20 ?l20 ?c20 ?k20 ?a21 ?l21 ?c21 ?k21 ?a22 ?l22 ?c22 ?k22 ?a23 ?l23 ?c23 ?k23 ?a24 ?l24 ?c24 ?k24 ?a25 ?l25 ?c25 ?k25 ?z_isinstance ?z_int ?z_bool ?z_abs ?z_len ?z_range ?z_sorted ?z_enumerate ?z_list ?z_tuple ?z_max ?z_min
    (case aC_Scale => k_is)
    (case pg_Scale => k_is)
    (case hd_Scale => k_is)
    (case po_Scale => k_is)
    (case sa_Scale => k_is)
    (case mk_Scale => k_is)
    (case kc_Scale => k_is)
    (case n_low_Scale => k_is)
    (case n_high_Scale => k_is)
    (case n_rows_Scale => k_is)
    (case ab_Bars => k_is)
    (case ab_Lines => k_is)
    (case ab_Stacks => k_is)
    (case ab_Shares => k_is)
    (case g_Scale___init__ => k_is)
    (case g_Scale_at_levels => k_is)
    (case g_Scale_stretch => k_is)
    (case a0 => k_is)
    (case l0 => k_is)
    (case c0 => k_is)
    (case k0 => k_is)
    (case a1 => k_is)
    (case l1 => k_is)
    (case c1 => k_is)
    (case k1 => k_is)
    (case a2 => k_is)
    (case l2 => k_is)
    (case c2 => k_is)
    (case k2 => k_is)
    (case a3 => k_is)
    (case l3 => k_is)
    (case c3 => k_is)
    (case k3 => k_is)
    (case a4 => k_is)
    (case l4 => k_is)
    (case c4 => k_is)
    (case k4 => k_is)
    (case a5 => k_is)
    (case l5 => k_is)
    (case c5 => k_is)
    (case k5 => k_is)
    (case a6 => k_is)
    (case l6 => k_is)
    (case c6 => k_is)
    (case k6 => k_is)
    (case a7 => k_is)
    (case l7 => k_is)
    (case c7 => k_is)
    (case k7 => k_is)
    (case i8 => k_is)
    (case l8 => k_is)
    (case c8 => k_is)
    (case k8 => k_is)
    (case i9 => k_is)
    (case l9 => k_is)
    (case c9 => k_is)
    (case k9 => k_is)
    (case a10 => k_is)
    (case l10 => k_is)
    (case c10 => k_is)
    (case k10 => k_is)
    (case a11 => k_is)
    (case l11 => k_is)
    (case c11 => k_is)
    (case k11 => k_is)
    (case a12 => k_is)
    (case l12 => k_is)
    (case c12 => k_is)
    (case k12 => k_is)
    (case a13 => k_is)
    (case l13 => k_is)
    (case c13 => k_is)
    (case k13 => k_is)
    (case a14 => k_is)
    (case l14 => k_is)
    (case c14 => k_is)
    (case k14 => k_is)
    (case a15 => k_is)
    (case l15 => k_is)
    (case c15 => k_is)
    (case k15 => k_is)
    (case i16 => k_is)
    (case l16 => k_is)
    (case c16 => k_is)
    (case k16 => k_is)
    (case a17 => k_is)
    (case l17 => k_is)
    (case c17 => k_is)
    (case k17 => k_is)
    (case a18 => k_is)
    (case l18 => k_is)
    (case c18 => k_is)
    (case k18 => k_is)
    (case a19 => k_is)
    (case l19 => k_is)
    (case c19 => k_is)
    (case k19 => k_is)
    (case a20 => k_is)
    (case l20 => k_is)
    (case c20 => k_is)
    (case k20 => k_is)
    (case a21 => k_is)
    (case l21 => k_is)
    (case c21 => k_is)
    (case k21 => k_is)
    (case a22 => k_is)
    (case l22 => k_is)
    (case c22 => k_is)
    (case k22 => k_is)
    (case a23 => k_is)
    (case l23 => k_is)
    (case c23 => k_is)
    (case k23 => k_is)
    (case a24 => k_is)
    (case l24 => k_is)
    (case c24 => k_is)
    (case k24 => k_is)
    (case a25 => k_is)
    (case l25 => k_is)
    (case c25 => k_is)
    (case k25 => k_is)
    (case z_isinstance => k_is)
    (case z_int => k_is)
    (case z_bool => k_is)
    (case z_abs => k_is)
    (case z_len => k_is)
    (case z_range => k_is)
    (case z_sorted => k_is)
    (case z_enumerate => k_is)
    (case z_list => k_is)
    (case z_tuple => k_is)
    (case z_max => k_is)
    (case z_min => k_is)
