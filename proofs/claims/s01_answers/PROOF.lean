import PyProof.Rows.All
import Wide.All
import OpenK.AllK
import Wide.FinOn
import PyProof.EqAt
import PyProof.EqKinds
import PyProof.TupleCall
import KE.OsGo
import PySem.Challenge.RW_shiplock_s01_answers
set_option Elab.async false
set_option linter.all false
set_option maxRecDepth 100000
/-! THE HAND LAYER, for ints, bools, texts, own classes, LISTS and tuples (index, slices, in, append, pop ..), calls, loops. Paste it whole ahead of your own text; what your proof does not reach may be deleted. -/
namespace L2
open PySem PySem.Spec PyProof.Rows

/-- a key: an int or a str -/
abbrev Key := Sum Int Str
def keyIs : Key → Value → Bool
  | .inl k, v => Value.isInt k v
  | .inr x, v => Value.isStrOf x v
def keyH (w : World) : Key → Int
  | .inl k => hashInt k
  | .inr x => hashStr w x
theorem keyIs_shape : ∀ {k : Key} {v : Value}, keyIs k v = true → (∃ i t, k = Sum.inl i ∧ v = Value.int i t) ∨ (∃ x t, k = Sum.inr x ∧ v = Value.str x t)
  | .inl i, v, h => by
    obtain ⟨t, e⟩ := Value.isInt_shape (k := i) (v := v) h
    exact .inl ⟨i, t, rfl, e⟩
  | .inr x, v, h => by
    obtain ⟨t, e⟩ := Value.isStrOf_shape (x := x) (v := v) h
    exact .inr ⟨x, t, rfl, e⟩
theorem keyIs_int (i : Int) (t : Tok) : keyIs (.inl i) (.int i t) = true := by simp [keyIs, Value.isInt]
theorem keyIs_str (x : Str) (t : Tok) : keyIs (.inr x) (.str x t) = true := by simp [keyIs, Value.isStrOf]
theorem key_ll (a b : Int) : decide ((Sum.inl a : Key) = Sum.inl b) = (a == b) := by
  by_cases e : a = b
  · subst e; simp
  · have h : ¬ (Sum.inl a : Key) = Sum.inl b := fun q => e (Sum.inl.inj q)
    rw [decide_eq_false h]
    exact (beq_eq_false_iff_ne.mpr e).symm
theorem key_rr (a b : Str) : decide ((Sum.inr a : Key) = Sum.inr b) = decide (a = b) := by
  by_cases e : a = b
  · subst e; simp
  · have h : ¬ (Sum.inr a : Key) = Sum.inr b := fun q => e (Sum.inr.inj q)
    rw [decide_eq_false h, decide_eq_false e]
theorem key_lr (a : Int) (b : Str) : decide ((Sum.inl a : Key) = Sum.inr b) = false := decide_eq_false (fun q => nomatch q)
theorem key_rl (a : Str) (b : Int) : decide ((Sum.inr a : Key) = Sum.inl b) = false := decide_eq_false (fun q => nomatch q)

def mixKind (prog : Program) (w : World) : PySem.KeyKind prog w Key where
  is := keyIs
  hash := keyH w
  inj := fun v a b ha hb => by
    rcases keyIs_shape ha with ⟨i, t, rfl, rfl⟩ | ⟨x, t, rfl, rfl⟩
    · rcases keyIs_shape hb with ⟨j, u, rfl, e⟩ | ⟨y, u, rfl, e⟩
      · injection e with e1 _; rw [e1]
      · exact nomatch e
    · rcases keyIs_shape hb with ⟨j, u, rfl, e⟩ | ⟨y, u, rfl, e⟩
      · exact nomatch e
      · injection e with e1 _; rw [e1]
  byValue := fun k v h => by
    rcases keyIs_shape h with ⟨i, t, rfl, rfl⟩ | ⟨x, t, rfl, rfl⟩ <;> rfl
  pyHash := fun hv h => by
    rcases keyIs_shape hv with ⟨i, t, rfl, rfl⟩ | ⟨x, t, rfl, rfl⟩
    · exact wpAny_pyHash_int h
    · exact wpAny_pyHash_str h
  eqBool := fun hu hv h => by
    rcases keyIs_shape hu with ⟨i, t, rfl, rfl⟩ | ⟨x, t, rfl, rfl⟩
    · rcases keyIs_shape hv with ⟨j, u, rfl, rfl⟩ | ⟨y, u, rfl, rfl⟩
      · rw [key_ll] at h; exact wpAny_eqBool_int h
      · rw [key_lr] at h; exact SeqAt.EqAt.int_str i t y u _ _ _ _ h
    · rcases keyIs_shape hv with ⟨j, u, rfl, rfl⟩ | ⟨y, u, rfl, rfl⟩
      · rw [key_rl] at h; exact SeqAt.EqAt.str_int x t j u _ _ _ _ h
      · rw [key_rr] at h; exact wpAny_eqBool_str h
  «strs» := fun k x t v h => by
    rcases keyIs_shape h with ⟨i, u, rfl, e⟩ | ⟨y, u, rfl, e⟩
    · exact nomatch e
    · injection e with e1 _
      subst e1
      cases v <;> rfl

theorem mixKind_is (prog : Program) (w : World) (k : Key) (v : Value) : (mixKind prog w).is k v = keyIs k v := rfl
theorem mixKind_int (prog : Program) (w : World) (i : Int) (t : Tok) : (mixKind prog w).is (.inl i) (.int i t) = true := keyIs_int i t
theorem mixKind_str (prog : Program) (w : World) (x : Str) (t : Tok) : (mixKind prog w).is (.inr x) (.str x t) = true := keyIs_str x t
end L2

namespace L2
open PySem PySem.Spec PyProof.Rows

/-- a value, without the heap -/
inductive V where
  | non | bl (b : Bool) | int (i : Int) | str (x : Str) | byt (b : Array UInt8) | flt (b : UInt64) | ref (a : Addr) | ty (n : String)
  deriving DecidableEq

def RelV : V → Value → Prop
  | .non, u => u = Value.none
  | .bl b, u => u = Value.bool b
  | .int i, u => ∃ t, u = Value.int i t
  | .str x, u => ∃ t, u = Value.str x t
  | .byt b, u => ∃ t, u = Value.bytes b t
  | .flt b, u => ∃ t, u = Value.float b t
  | .ref a, u => u = Value.ref a
  | .ty n, u => u = Value.type n

abbrev Vals : List V → List Value → Prop := Paired RelV
theorem Vals.length {xs : List V} {us : List Value} (r : Vals xs us) : xs.length = us.length := Paired.length r
theorem Vals.get : ∀ {xs : List V} {us : List Value} {i : Nat} {x : V}, Vals xs us → xs[i]? = some x → ∃ u, us[i]? = some u ∧ RelV x u
  | _, _, _, _, .nil, e => by simp at e
  | _, _, 0, _, .cons r _, e => by simp at e; subst e; exact ⟨_, rfl, r⟩
  | _, _, i + 1, x, .cons _ t, e => by
    obtain ⟨u, h1, h2⟩ := Vals.get (i := i) (x := x) t (by simpa using e)
    exact ⟨u, by simpa using h1, h2⟩
theorem Vals.set {x : V} {u : Value} (r : RelV x u) : ∀ {xs : List V} {us : List Value} (i : Nat), Vals xs us → Vals (xs.set i x) (us.set i u)
  | _, _, _, .nil => .nil
  | _, _, 0, .cons _ t => .cons r t
  | _, _, i + 1, .cons q t => .cons q (Vals.set r i t)
theorem Vals.append : ∀ {xs ys : List V} {us ws : List Value}, Vals xs us → Vals ys ws → Vals (xs ++ ys) (us ++ ws)
  | _, _, _, _, .nil, s => s
  | _, _, _, _, .cons r t, s => .cons r (Vals.append t s)
theorem Vals.take : ∀ {xs : List V} {us : List Value} (n : Nat), Vals xs us → Vals (xs.take n) (us.take n)
  | _, _, 0, _ => .nil
  | _, _, _ + 1, .nil => .nil
  | _, _, n + 1, .cons r t => .cons r (Vals.take n t)
theorem Vals.drop : ∀ {xs : List V} {us : List Value} (n : Nat), Vals xs us → Vals (xs.drop n) (us.drop n)
  | _, _, 0, r => r
  | _, _, _ + 1, .nil => .nil
  | _, _, n + 1, .cons _ t => Vals.drop n t
theorem Vals.none_of : ∀ {xs : List V} {us : List Value} {i : Nat}, Vals xs us → xs[i]? = none → us[i]? = none := fun {xs us i} r e => by
  have h1 := r.length
  have h2 : xs.length ≤ i := List.getElem?_eq_none_iff.mp e
  exact List.getElem?_eq_none_iff.mpr (by omega)

def RelO : Option V → Option Value → Prop
  | some v, some u => RelV v u
  | none, none => True
  | _, _ => False
def KV {κ : Type} : List (κ × V) → List (κ × Value) → Prop := Paired fun (p : κ × V) (q : κ × Value) => p.1 = q.1 ∧ RelV p.2 q.2

/-- a key of a dict (00_mix): an int or a text -/
def kV : Key → V
  | .inl i => .int i
  | .inr x => .str x

/-- what stands at a tracked address -/
inductive HO where
  /-- a list -/
  | lst (xs : List V)
  /-- a tuple (never changes) -/
  | tup (xs : List V)
  /-- a dict whose keys are ints and texts; one whose keys are tuples of ints and texts (the empty one is both) -/
  | dK (kvs : List (Key × V)) | dT (kvs : List (List Key × V))
  /-- a set of ints: its members, its size -/
  | set (S : Int → Bool) (n : Nat)
  /-- an instance of the class at C, its dict at dx, its attributes -/
  | ins (C dx : Addr) (fs : List (Str × V))
  /-- the dict of the instance at x -/
  | own (x : Addr)
  /-- the dict of an exception -/
  | xd (fs : List (Str × V))
  /-- a bound method, f of x -/
  | met (f x : Addr)
  /-- a range object lo, lo + 1, .. below hi -/
  | rng (lo hi : Int)
  /-- a thing that is known to the object (the script; a dict while a loop walks it): read, never written while it is so -/
  | frz (o : Obj) (u : HO)
  /-- a code object's table -/
  | tbl (ps : Array Value)
  /-- any other thing, by what is true of its one object (a def of one's own: SetO a S n := HO.ext fun h => ..) -/
  | ext (φ : Heap → Prop)

abbrev Hp := Addr → Option HO
def upd (H : Hp) (a : Addr) (o : HO) : Hp := fun b => if b = a then some o else H b
theorem upd_same {H : Hp} {a : Addr} {o : HO} : upd H a o a = some o := by unfold upd; rw [if_pos rfl]
theorem upd_ne {H : Hp} {a b : Addr} {o : HO} (h : b ≠ a) : upd H a o b = H b := by unfold upd; rw [if_neg h]
theorem upd_upd {H : Hp} {a : Addr} {o u : HO} : upd (upd H a o) a u = upd H a u := by
  funext b; unfold upd; split <;> rfl
/-- two objects of different content stand apart -/
theorem ne_of {H : Hp} {a b : Addr} {o u : HO} (h : H a = some o) (h' : H b = some u) (d : o ≠ u) : a ≠ b := by
  intro e; subst e; rw [h] at h'; exact d (Option.some.inj h')
theorem ne_of_none {H : Hp} {a b : Addr} {o : HO} (h : H a = some o) (h' : H b = none) : a ≠ b := by
  intro e; subst e; rw [h] at h'; cases h'

section
variable (P : Program) (w : World)
def ObjOk (H : Hp) (h : Heap) (a : Addr) : HO → Prop
  | .lst xs => xs.length ≤ sizeLine ∧ ∃ (its : List Value) (n : Nat), Vals xs its ∧ h.get? a = some { cls := .type "list", data := .seq its.toArray n }
  | .tup xs => xs.length ≤ sizeLine ∧ ∃ its : List Value, Vals xs its ∧ IsTup h a its.toArray
  | .dK kvs => kvs.length ≤ sizeLine ∧ (a == sysModules) = false ∧ ∃ vs, KV kvs vs ∧ h.DictOf (mixKind P w) a vs
  | .dT kvs => kvs.length ≤ sizeLine ∧ (a == sysModules) = false ∧ ∃ xs : List (List Key × Addr × Value),
      Paired (fun (p : List Key × V) (q : List Key × Addr × Value) => p.1 = q.1 ∧ H q.2.1 = some (.tup (p.1.map kV)) ∧ RelV p.2 q.2.2) kvs xs ∧
      ∃ o es ep, h.get? a = some o ∧ o.ExactDict ∧ o.data = .dict es ep ∧ es.toList = xs.map (entryOfKey (tupleKind (mixKind P w))) ∧ (xs.map (·.1)).Nodup
  | .set S n => h.SetOf (intKind P w) a S n
  | .ins C dx fs => H dx = some (.own a) ∧ fs.length ≤ 1000 ∧ dx ≠ a ∧ h.get? a = some (PySem.W.instObj C dx) ∧
      ∃ mA, h.Ns1 dx mA ∧ (∀ f, RelO (fs.lookup f) (mA f)) ∧ PySem.Within mA (fs.map (·.1))
  | .own _ => ∃ o, h.get? a = some o
  | .xd fs => ∃ mA, h.Ns1 a mA ∧ ∀ f, RelO (fs.lookup f) (mA f)
  | .rng lo hi => ∃ t u v, h.get? a = some { cls := .type "range", data := .fields #[.int lo t, .int hi u, .int 1 v] }
  | .frz o u => h.get? a = some o ∧ ObjOk H h a u
  | .tbl ps => h.get? a = some { cls := .none, data := .fields ps }
  | .met f x => h.get? a = some (PySem.W.methodObj (.ref f) (.ref x))
  | .ext φ => φ h ∧ (∃ o, h.get? a = some o) ∧ ∀ h1 h2 : Heap, φ h1 → (∀ o, h1.get? a = some o → h2.get? a = some o) → φ h2
/-- the abstract heap is held -/
def HOk (H : Hp) (h : Heap) : Prop := ∀ a o, H a = some o → ObjOk P w H h a o
end

section
variable {P : Program} {w : World} {H H' : Hp} {h h' : Heap} {a : Addr} {o : HO}
theorem ObjOk.lt (x : ObjOk P w H h a o) : a < h.objs.size := by
  cases o with
  | lst xs => obtain ⟨_, _, _, _, e⟩ := x; exact Heap.lt_size e
  | tup xs => obtain ⟨_, _, _, p⟩ := x; exact p.lt
  | dK kvs => obtain ⟨_, _, _, _, o, _, _, e, _⟩ := x; exact Heap.lt_size e
  | dT kvs => obtain ⟨_, _, _, _, o, _, _, e, _⟩ := x; exact Heap.lt_size e
  | set S n => obtain ⟨o, _, _, _, e, _⟩ := x; exact Heap.lt_size e
  | ins C dx fs => obtain ⟨_, _, _, e, _⟩ := x; exact Heap.lt_size e
  | own y => obtain ⟨_, e⟩ := x; exact Heap.lt_size e
  | xd fs => obtain ⟨_, ⟨_, _, _, e, _⟩, _⟩ := x; exact Heap.lt_size e
  | rng lo hi => obtain ⟨_, _, _, e⟩ := x; exact Heap.lt_size e
  | frz ob u => obtain ⟨e, _⟩ := x; exact Heap.lt_size e
  | tbl ps => exact Heap.lt_size (show h.get? a = some _ from x)
  | met f y => exact Heap.lt_size (show h.get? a = some _ from x)
  | ext φ => obtain ⟨_, ⟨_, e⟩, _⟩ := x; exact Heap.lt_size e
theorem Paired.mapP {α β : Type} {F G : α → β → Prop} : ∀ {l₁ : List α} {l₂ : List β}, Paired F l₁ l₂ → (∀ a b, F a b → G a b) → Paired G l₁ l₂
  | _, _, .nil, _ => .nil
  | _, _, .cons r t, f => .cons (f _ _ r) (Paired.mapP t f)
theorem Paired.imp' {α β : Type} {F G : α → β → Prop} (f : ∀ a b, F a b → G a b) {l₁ : List α} {l₂ : List β} (r : Paired F l₁ l₂) : Paired G l₁ l₂ := Paired.mapP r f
/-- what an object's description leans on: its own object, its own dict, the tuples -/
theorem ObjOk.stay (x : ObjOk P w H h a o) (k : ∀ b u, (b = a ∨ H b = some (.own a)) → h.get? b = some u → h'.get? b = some u)
    (ho : ∀ b, H b = some (.own a) → H' b = some (.own a)) (ht : ∀ b xs, H b = some (.tup xs) → H' b = some (.tup xs)) : ObjOk P w H' h' a o := by
  induction o with
  | lst xs => obtain ⟨z, its, n, r, e⟩ := x; exact ⟨z, its, n, r, k _ _ (.inl rfl) e⟩
  | tup xs => obtain ⟨z, its, r, ob, e, c⟩ := x; exact ⟨z, its, r, ob, k _ _ (.inl rfl) e, c⟩
  | dK kvs => obtain ⟨z, y, vs, r, ob, es, ep, e, c⟩ := x; exact ⟨z, y, vs, r, ob, es, ep, k _ _ (.inl rfl) e, c⟩
  | dT kvs =>
    obtain ⟨z, y, xs, r, ob, es, ep, e, c⟩ := x
    exact ⟨z, y, xs, Paired.mapP r fun p q z => ⟨z.1, ht _ _ z.2.1, z.2.2⟩, ob, es, ep, k _ _ (.inl rfl) e, c⟩
  | set S n => obtain ⟨ob, es, ep, t, e, c⟩ := x; exact ⟨ob, es, ep, t, k _ _ (.inl rfl) e, c⟩
  | ins C dx fs =>
    obtain ⟨d, z, ne, e, mA, ⟨od, es, ep, e2, c⟩, r⟩ := x
    exact ⟨ho _ d, z, ne, k _ _ (.inl rfl) e, mA, ⟨od, es, ep, k _ _ (.inr d) e2, c⟩, r⟩
  | own y => obtain ⟨ob, e⟩ := x; exact ⟨ob, k _ _ (.inl rfl) e⟩
  | xd fs => obtain ⟨mA, ⟨od, es, ep, e, c⟩, r⟩ := x; exact ⟨mA, ⟨od, es, ep, k _ _ (.inl rfl) e, c⟩, r⟩
  | rng lo hi => obtain ⟨t, u, v, e⟩ := x; exact ⟨t, u, v, k _ _ (.inl rfl) e⟩
  | frz ob u ih => obtain ⟨e, q⟩ := x; exact ⟨k _ _ (.inl rfl) e, ih q⟩
  | tbl ps =>
    have e : h.get? a = some { cls := .none, data := .fields ps } := x
    show h'.get? a = some { cls := .none, data := .fields ps }
    exact k a _ (.inl rfl) e
  | met f y =>
    have e : h.get? a = some (PySem.W.methodObj (.ref f) (.ref y)) := x
    show h'.get? a = some (PySem.W.methodObj (.ref f) (.ref y))
    exact k a _ (.inl rfl) e
  | ext φ => obtain ⟨p, ⟨o, e⟩, st⟩ := x; exact ⟨st _ _ p fun o q => k _ _ (.inl rfl) q, ⟨o, k _ _ (.inl rfl) e⟩, st⟩
theorem HOk.lt (x : HOk P w H h) (e : H a = some o) : a < h.objs.size := (x a o e).lt
theorem HOk.fresh (x : HOk P w H h) (e : h.objs.size ≤ a) : H a = none := by
  cases q : H a with
  | none => rfl
  | some u => exact absurd (Nat.lt_of_lt_of_le (x.lt q) e) (Nat.lt_irrefl _)
/-- every object of the heap is kept -/
theorem HOk.kept (x : HOk P w H h) (k : ∀ b u, h.get? b = some u → h'.get? b = some u) : HOk P w H h' := fun a o e =>
  (x a o e).stay (fun b u _ q => k b u q) (fun _ q => q) fun _ _ q => q
/-- a new object is laid and tracked -/
theorem HOk.laid (x : HOk P w H h) (k : ∀ b u, h.get? b = some u → h'.get? b = some u) (hp : h.objs.size ≤ a) (new : ObjOk P w (upd H a o) h' a o) : HOk P w (upd H a o) h' := fun b u e => by
  have hn := x.fresh hp
  by_cases hb : b = a
  · subst hb; rw [upd_same] at e; cases e; exact new
  · rw [upd_ne hb] at e
    exact (x b u e).stay (fun c v _ q => k c v q) (fun c q => by rw [upd_ne (ne_of_none q hn)]; exact q) fun c xs q => by rw [upd_ne (ne_of_none q hn)]; exact q
end

/-- what may be read as u: it is u, or a known u -/
def Rd (H : Hp) (a : Addr) (u : HO) : Prop := H a = some u ∨ ∃ o, H a = some (.frz o u)
theorem Rd.of {H : Hp} {a : Addr} {u : HO} (h : H a = some u) : Rd H a u := .inl h
theorem Rd.ok {P : Program} {w : World} {H : Hp} {h : Heap} {a : Addr} {u : HO} (r : Rd H a u) (x : HOk P w H h) : ObjOk P w H h a u := by
  rcases r with r | ⟨o, r⟩
  · exact x a u r
  · obtain ⟨_, q⟩ := x a _ r
    exact q
/-- what may be written -/
def Mut : Option HO → Prop
  | some (.lst _) => True
  | some (.dK _) => True
  | some (.dT _) => True
  | some (.set _ _) => True
  | some (.ins _ _ _) => True
  | some (.ext _) => True
  | _ => False
section
variable {P : Program} {w : World} {H : Hp} {h h' : Heap} {x e : Addr} {o' : HO}
/-- the object at e is changed: x itself, or the dict of the instance x -/
theorem HOk.write (ok : HOk P w H h) (mu : Mut (H x)) (he : e = x ∨ H e = some (.own x)) (k : ∀ b u, b ≠ e → h.get? b = some u → h'.get? b = some u) (heo : ∃ u, h'.get? e = some u)
    (new : ObjOk P w (upd H x o') h' x o') : HOk P w (upd H x o') h' := fun b u q => by
  have nown : ∀ c y, H c = some (.own y) → c ≠ x := fun c y r z => by subst z; rw [r] at mu; exact mu
  have ntup : ∀ c xs, H c = some (.tup xs) → c ≠ x := fun c xs r z => by subst z; rw [r] at mu; exact mu
  by_cases hb : b = x
  · subst hb; rw [upd_same] at q; cases q; exact new
  · rw [upd_ne hb] at q
    by_cases hbe : b = e
    · have q' : H b = some (.own x) := by
        rcases he with z | z
        · exact absurd (hbe.trans z) hb
        · rw [hbe]; exact z
      rw [q] at q'; cases q'
      obtain ⟨v, hv⟩ := heo
      exact ⟨v, by rw [hbe]; exact hv⟩
    · refine (ok b u q).stay (fun c v hc r => k c v ?_ r) (fun c r => by rw [upd_ne (nown c b r)]; exact r) fun c xs r => by rw [upd_ne (ntup c xs r)]; exact r
      rcases hc with rfl | hc
      · exact hbe
      · rintro rfl
        rcases he with z | z
        · exact nown c b hc z
        · rw [hc] at z; cases z; exact hb rfl
end

/-! ### kept unless tracked; of the frames at fs (the callers') the slots may change (an exception that passes writes there); of the records at ex (iterators) nothing is said -/
structure Un (fs ex : List Addr) (H H' : Hp) (h h' : Heap) : Prop where
  keep : ∀ b o, h.get? b = some o → H b = none → b ∉ fs → b ∉ ex → h'.get? b = some o
  slot : ∀ b o, h.get? b = some o → H b = none → b ∈ fs → b ∉ ex → ∃ sl, h'.get? b = some { o with slots := sl }
  free : ∀ b o, h.get? b = some o → H b = none → b ∉ ex → H' b = none
  there : ∀ b o, h.get? b = some o → b ∉ ex → ∃ o', h'.get? b = some o'
  tups : ∀ b xs, H b = some (.tup xs) → H' b = some (.tup xs)
  frzs : ∀ b o u, H b = some (.frz o u) → H' b = some (.frz o u)
  tbls : ∀ b ps, H b = some (.tbl ps) → ∃ more, H' b = some (.tbl (ps ++ more))
section
variable {fs fs' ex ex' : List Addr} {H H1 H2 : Hp} {h h1 h2 h' : Heap} {a x e : Addr} {o : HO}
theorem Un.any (u : Un fs ex H H1 h h1) {b : Addr} {ob : Obj} (q : h.get? b = some ob) (n : H b = none) (hx : b ∉ ex) : ∃ sl, h1.get? b = some { ob with slots := sl } := by
  by_cases hb : b ∈ fs
  · exact u.slot b ob q n hb hx
  · exact ⟨ob.slots, u.keep b ob q n hb hx⟩
theorem Un.trans (a : Un fs ex H H1 h h1) (b : Un fs ex H1 H2 h1 h2) : Un fs ex H H2 h h2 where
  keep := fun c ob q n hc hx => b.keep c ob (a.keep c ob q n hc hx) (a.free c ob q n hx) hc hx
  slot := fun c ob q n hc hx => by
    obtain ⟨sl, e1⟩ := a.slot c ob q n hc hx
    obtain ⟨sl', e2⟩ := b.slot c _ e1 (a.free c ob q n hx) hc hx
    exact ⟨sl', e2⟩
  free := fun c ob q n hx => by
    obtain ⟨o', e1⟩ := a.there c ob q hx
    exact b.free c o' e1 (a.free c ob q n hx) hx
  there := fun c ob q hx => by
    obtain ⟨o', e1⟩ := a.there c ob q hx
    exact b.there c o' e1 hx
  tups := fun c xs q => b.tups c xs (a.tups c xs q)
  frzs := fun c ob xs q => b.frzs c ob xs (a.frzs c ob xs q)
  tbls := fun c ps q => by
    obtain ⟨m1, e1⟩ := a.tbls c ps q
    obtain ⟨m2, e2⟩ := b.tbls c _ e1
    exact ⟨m1 ++ m2, by rw [e2, Array.append_assoc]⟩
theorem Un.kept (k : ∀ b u, h.get? b = some u → h'.get? b = some u) : Un fs ex H H h h' :=
  ⟨fun b ob q _ _ _ => k b ob q, fun b ob q _ _ _ => ⟨ob.slots, k b ob q⟩, fun _ _ _ n _ => n, fun b ob q _ => ⟨ob, k b ob q⟩, fun _ _ q => q, fun _ _ _ q => q, fun _ ps q => ⟨#[], by rw [q]; simp⟩⟩
theorem Un.refl : Un fs ex H H h h := Un.kept fun _ _ q => q
theorem Un.laid (k : ∀ b u, h.get? b = some u → h'.get? b = some u) (hp : h.objs.size ≤ a) (hn : H a = none) : Un fs ex H (upd H a o) h h' where
  keep := fun b u q _ _ _ => k b u q
  slot := fun b u q _ _ _ => ⟨u.slots, k b u q⟩
  free := fun b u q n _ => by rw [upd_ne (Nat.ne_of_lt (Nat.lt_of_lt_of_le (Heap.lt_size q) hp))]; exact n
  there := fun b u q _ => ⟨u, k b u q⟩
  tups := fun b xs q => by rw [upd_ne (ne_of_none q hn)]; exact q
  frzs := fun b u xs q => by rw [upd_ne (ne_of_none q hn)]; exact q
  tbls := fun b ps q => ⟨#[], by rw [upd_ne (ne_of_none q hn), q]; simp⟩
theorem Un.write (mu : Mut (H x)) (he : e = x ∨ H e = some (.own x)) (k : ∀ b u, b ≠ e → h.get? b = some u → h'.get? b = some u) (heo : ∃ u, h'.get? e = some u) : Un fs ex H (upd H x o) h h' := by
  have hx : ∀ b, H b = none → b ≠ x := fun b n z => by subst z; rw [n] at mu; exact mu
  have hb : ∀ b, H b = none → b ≠ e := fun b n z => by
    subst z
    rcases he with r | r
    · exact hx b n r
    · rw [n] at r; cases r
  have hm : ∀ b u, H b = some u → ¬ Mut (some u) → b ≠ x := fun b u q nm z => by subst z; rw [q] at mu; exact nm mu
  refine ⟨fun b u q n _ _ => k b u (hb b n) q, fun b u q n _ _ => ⟨u.slots, k b u (hb b n) q⟩, fun b u q n _ => by rw [upd_ne (hx b n)]; exact n, fun b u q _ => ?_,
    fun b xs q => by rw [upd_ne (hm b _ q fun z => z)]; exact q, fun b u xs q => by rw [upd_ne (hm b _ q fun z => z)]; exact q, fun b ps q => ⟨#[], by rw [upd_ne (hm b _ q fun z => z), q]; simp⟩⟩
  by_cases hbe : b = e
  · subst hbe; exact heo
  · exact ⟨u, k b u hbe q⟩
theorem Un.mono (u : Un fs ex H H1 h h1) (hs : ∀ b ∈ fs, b ∈ fs') (hx : ∀ b ∈ ex, b ∈ ex') : Un fs' ex' H H1 h h1 :=
  ⟨fun b ob q n hb he => u.keep b ob q n (fun z => hb (hs b z)) fun z => he (hx b z), fun _ _ q n _ he => u.any q n fun z => he (hx _ z), fun b ob q n he => u.free b ob q n fun z => he (hx b z), fun b ob q he => u.there b ob q fun z => he (hx b z), u.tups, u.frzs, u.tbls⟩
end

/-! ### the heap without what is tracked -/
def trk (h : Heap) (H : Hp) : List Addr := (List.range h.objs.size).filter fun a => (H a).isSome
def hidT (h : Heap) (H : Hp) : Heap := PySem.W.hideAll h (trk h H)
theorem hidT_size (h : Heap) (H : Hp) : (hidT h H).objs.size = h.objs.size := PySem.W.hideAll_size _ _
theorem hidT_get {h : Heap} {H : Hp} {b : Addr} {o : Obj} (e : h.get? b = some o) (n : H b = none) : (hidT h H).get? b = some o :=
  PySem.W.hideAll_get _ e fun hm => by
    have q : (H b).isSome = true := (List.mem_filter.mp hm).2
    rw [n] at q; simp at q
theorem of_hidT {h : Heap} {H : Hp} {b : Addr} {o : Obj} (e : (hidT h H).get? b = some o) : h.get? b = some o ∧ H b = none := by
  have e' : h.get? b = some o := PySem.W.of_hideAll (trk h H) e
  refine ⟨e', ?_⟩
  cases q : H b with
  | none => rfl
  | some x =>
    have hm : b ∈ trk h H := List.mem_filter.mpr ⟨List.mem_range.mpr (Heap.lt_size e'), by simp [q]⟩
    have z : (hidT h H).get? b = none := PySem.W.hideAll_none (trk h H) hm
    rw [z] at e; cases e

/-! ### OpenK's ledger, filled with every new object but one -/
def allNews (g h : Heap) (L : Addr) : List (Addr × Obj) := (List.range h.objs.size).filterMap fun a => if a = L ∨ (g.get? a).isSome = true then none else (h.get? a).map fun o => (a, o)
theorem mem_allNews {g h : Heap} {L a : Addr} {o : Obj} (h1 : a ≠ L) (h2 : g.get? a = none) (h3 : h.get? a = some o) : (a, o) ∈ allNews g h L :=
  List.mem_filterMap.mpr ⟨a, List.mem_range.mpr (Heap.lt_size h3), by simp [h1, h2, h3]⟩
theorem of_mem_allNews {g h : Heap} {L : Addr} {p : Addr × Obj} (hp : p ∈ allNews g h L) : p.1 ≠ L ∧ g.get? p.1 = none ∧ h.get? p.1 = some p.2 := by
  obtain ⟨b, _, e⟩ := List.mem_filterMap.mp hp
  split at e
  · cases e
  · rename_i hn
    cases q : h.get? b with
    | none => rw [q] at e; simp at e
    | some u =>
      rw [q] at e
      simp only [Option.map_some, Option.some.injEq] at e
      subst e
      refine ⟨fun z => hn (.inl z), ?_, q⟩
      show g.get? b = none
      cases r : g.get? b with
      | none => rfl
      | some v => exact (hn (.inr (by simp [r]))).elim
def rest (g h : Heap) (L d : Addr) : List (Addr × Obj) := (allNews g h L).filter fun p => decide (p.1 ≠ d)
theorem rest_ne {g h : Heap} {L d : Addr} : ∀ p ∈ rest g h L d, p.1 ≠ d := fun p hp => of_decide_eq_true (List.mem_filter.mp hp).2
theorem mem_rest {g h : Heap} {L d a : Addr} {o : Obj} (h1 : a ≠ L) (h2 : g.get? a = none) (h3 : h.get? a = some o) (h4 : a ≠ d) : (a, o) ∈ rest g h L d :=
  List.mem_filter.mpr ⟨mem_allNews h1 h2 h3, decide_eq_true h4⟩
theorem news_all {g h : Heap} {L : Addr} : News g L h (allNews g h L) := fun p hp => let ⟨a, b, c⟩ := of_mem_allNews hp; ⟨c, a, b⟩
theorem news_at {g h : Heap} {L d : Addr} {o : Obj} (h1 : d ≠ L) (h2 : g.get? d = none) (h3 : h.get? d = some o) : News g L h ((d, o) :: rest g h L d) := fun p hp => by
  rcases List.mem_cons.mp hp with rfl | hp
  · exact ⟨h3, h1, h2⟩
  · exact news_all p (List.mem_filter.mp hp).1
/-- behind a rule that changed d alone: all else but the frame is kept -/
theorem kept_of_news {g h h' : Heap} {L d : Addr} {m : Str → Option Value} (k : ∀ b o, g.get? b = some o → h.get? b = some o) (F : Fr g L h' m) (N : News g L h' (rest g h L d)) :
    ∀ b o, b ≠ L → b ≠ d → h.get? b = some o → h'.get? b = some o := fun b o h1 h2 e => by
  cases q : g.get? b with
  | some u =>
    have := k b u q
    rw [e] at this; cases this
    exact F.keep b _ q
  | none => exact (N (b, o) (mem_rest h1 q e h2)).1
end L2

namespace L2
open PySem PySem.Spec PyProof.Rows

/-- the module's facts, over the base: the heap at the law's entry without what is tracked there -/
structure Mod (K : PySem.W.Frag) (mg : Str → Option Value) (base : Heap) : Prop where
  kin : K.In base
  glob : base.Ns mainGlobals mg
  blt : ∃ mb, base.Ns builtinsNs mb ∧ ∀ x : Str, x ≠ "__name__" → mb x = bootBuiltins x
  nolimit : base.NoLimit

/-- the context: a def's body (or a comprehension's block) running. base: fixed through the whole law; s₀, H₀: the entry; outer: the frames whose slots others may change (a def's callers); stack: all frames that run;
   ex: iterators that were made ahead of the entry and are walked here (a comprehension's); fn: the names whose cells were made at the entry (a def: all; a comprehension's block: its own); calm: not within an except suite; pn: pins that every state bears; xe: what is wanted of an exception that leaves the code -/
structure Cx where
  prog : Program
  w : World
  K : PySem.W.Frag
  mg : Str → Option Value
  base : Heap
  A : Around
  N : List Str
  s₀ : Shared
  H₀ : Hp
  env : Env
  outer : List Env
  stack : List Env
  ex : List Addr
  fn : Str → Bool
  calm : Bool
  pn : List (Addr × Obj)
  xe : Value → Shared → Prop
/-- the callers' frames -/
def frs (l : List Env) : List Addr := l.filterMap (·.frame)
abbrev Cx.fs (X : Cx) : List Addr := frs X.outer

def Vis (sc : Scope) (x : Str) : Prop := sc.names.lookup x = some .local ∨ sc.names.lookup x = some .cell ∨ sc.names.lookup x = some .free
def Loc (sc : Scope) (x : Str) : Prop := sc.names.lookup x = some .local ∨ sc.names.lookup x = some .cell
def Look (env : Env) (h : Heap) (m : Str → Option Value) (x : Str) (u : Value) : Prop :=
  (env.kindOf x = some .local ∧ m x = some u) ∨ ((env.kindOf x = some .cell ∨ env.kindOf x = some .free) ∧ ∃ c, env.cells.lookup x = some c ∧ h.IsCell c (some u))

structure Cx.Ok (X : Cx) : Prop where
  mod : Mod X.K X.mg X.base
  kind : X.env.scope.kind = .function
  glob : X.env.globals = mainGlobals
  blt : X.env.builtins = builtinsNs
  above : X.s₀.heap.objs.size ≤ X.env.locals
  inj : ∀ x y c, X.env.cells.lookup x = some c → X.env.cells.lookup y = some c → x = y
  has : ∀ x, (X.env.kindOf x = some .cell ∨ X.env.kindOf x = some .free) → ∃ c, X.env.cells.lookup x = some c
  cab : ∀ x c, X.fn x = true → X.env.cells.lookup x = some c → X.s₀.heap.objs.size ≤ c
  hd : X.calm = true → X.A.handled = none
  frames : X.A.frames = some X.stack
  stk : X.stack = X.outer ∨ (X.stack = X.env :: X.outer ∧ X.env.frame = some X.env.locals)
  exf : ∀ b ∈ X.ex, b ≠ X.env.locals ∧ ∀ x c, X.env.cells.lookup x = some c → c ≠ b
  bs : ∀ b o, X.base.get? b = some o → X.s₀.heap.get? b = some o ∧ X.H₀ b = none
  bsz : X.base.objs.size ≤ X.s₀.heap.objs.size
  noex : ∀ b o, X.base.get? b = some o → b ∉ X.ex
  exfs : ∀ b ∈ X.ex, b ∉ X.fs
  funs : X.s₀.heap.FunFrames X.base X.outer
  frf : ∀ b ∈ X.fs, X.H₀ b = none

structure Inv (X : Cx) (pins : List (Addr × Obj)) (σ : List (Option V)) (H : Hp) (s : Shared) : Prop where
  ok : X.Ok
  os : s.os = X.s₀.os
  bare : AllBare s.gens
  base : Un X.fs X.ex X.H₀ H X.s₀.heap s.heap
  loc : ∃ m, s.heap.Ns X.env.locals m ∧ ∀ (i : Nat) (x : Str) (v : V), X.N[i]? = some x → σ[i]? = some (some v) → Vis X.env.scope x → ∃ u, RelV v u ∧ Look X.env s.heap m x u
  cell : ∀ x c, X.env.cells.lookup x = some c → ∃ v, s.heap.IsCell c v
  free : H X.env.locals = none
  freeC : ∀ x c, X.env.cells.lookup x = some c → H c = none
  pin : ∀ p ∈ X.pn ++ pins, s.heap.get? p.1 = some p.2 ∧ H p.1 = none ∧ p.1 ≠ X.env.locals ∧ p.1 ∉ X.fs ∧ ∀ v, p.2.data ≠ .cell v
  hok : HOk X.prog X.w H s.heap
  len : σ.length = X.N.length

section
variable {X : Cx} {pins : List (Addr × Obj)} {σ : List (Option V)} {H H' : Hp} {s : Shared} {h' : Heap}

theorem Cx.Ok.nofr (ok : X.Ok) {b : Addr} {o : Obj} (e : X.base.get? b = some o) : b ∉ X.fs := fun hb => by
  have := (ok.funs.mem hb).1
  rw [e] at this; cases this
theorem Inv.bs (I : Inv X pins σ H s) : ∀ b o, X.base.get? b = some o → s.heap.get? b = some o ∧ H b = none := fun b o e =>
  ⟨I.base.keep b o (I.ok.bs b o e).1 (I.ok.bs b o e).2 (I.ok.nofr e) (I.ok.noex b o e), I.base.free b o (I.ok.bs b o e).1 (I.ok.bs b o e).2 (I.ok.noex b o e)⟩
theorem Inv.bk (I : Inv X pins σ H s) : ∀ b o, X.base.get? b = some o → s.heap.get? b = some o := fun b o e => (I.bs b o e).1
theorem Inv.mod (I : Inv X pins σ H s) : Mod X.K X.mg X.base := I.ok.mod
theorem Inv.kIn (I : Inv X pins σ H s) : X.K.In s.heap := I.ok.mod.kin.keeps I.bk
theorem Inv.nolimit (I : Inv X pins σ H s) : s.heap.NoLimit := I.ok.mod.nolimit.keeps I.bk
/-- the frame over the base: for OpenK's rules (K.In X.base is I.mod.kin) -/
theorem Inv.fr (I : Inv X pins σ H s) : ∃ m, Fr X.base X.env.locals s.heap m :=
  let ⟨m, hn, _⟩ := I.loc
  ⟨m, hn, I.bk, Nat.le_trans I.ok.bsz I.ok.above⟩
theorem Inv.lt (I : Inv X pins σ H s) : X.env.locals < s.heap.objs.size := let ⟨_, hn, _⟩ := I.loc; hn.lt
theorem Inv.sz (I : Inv X pins σ H s) : X.s₀.heap.objs.size ≤ s.heap.objs.size := Nat.le_trans I.ok.above (Nat.le_of_lt I.lt)
theorem Inv.nofs (I : Inv X pins σ H s) {a : Addr} (h : s.heap.objs.size ≤ a) : a ∉ X.fs := fun hb => by
  obtain ⟨_, o, ho, _⟩ := I.ok.funs.mem hb
  exact absurd (Nat.lt_of_lt_of_le (Heap.lt_size ho) (Nat.le_trans I.sz h)) (Nat.lt_irrefl _)
theorem Inv.cne (I : Inv X pins σ H s) : ∀ x c, X.env.cells.lookup x = some c → c ≠ X.env.locals := fun x c e z => by
  obtain ⟨v, o, ho, hd⟩ := I.cell x c e
  obtain ⟨m, ⟨o', es, ep, ho', hd', _⟩, _⟩ := I.loc
  rw [z, ho'] at ho; cases ho; rw [hd'] at hd; cases hd
theorem Inv.funs (I : Inv X pins σ H s) : s.heap.FunFrames X.base X.outer := by
  have all : ∀ (l : List Env), (∀ b ∈ frs l, b ∈ X.fs) → X.s₀.heap.FunFrames X.base l → s.heap.FunFrames X.base l := by
    intro l
    induction l with
    | nil => intro _ _; trivial
    | cons env r ih =>
      intro hs hl
      obtain ⟨hk, ⟨L, o, hf, hn, ho, hd⟩, hr⟩ := hl
      have hL : L ∈ X.fs := hs L (by unfold frs; rw [List.filterMap_cons, hf]; exact List.mem_cons_self)
      obtain ⟨sl, e⟩ := I.base.slot L o ho (I.ok.frf L hL) hL fun z => I.ok.exfs L z hL
      exact ⟨hk, ⟨L, _, hf, hn, e, hd⟩, ih (fun b hb => hs b (by unfold frs; rw [List.filterMap_cons, hf]; exact List.mem_cons_of_mem _ hb)) hr⟩
  exact all X.outer (fun _ hb => hb) I.ok.funs

/-- the frames that run, for a call -/
theorem Inv.stack (I : Inv X pins σ H s) : s.heap.FunFrames X.base X.stack := by
  rcases I.ok.stk with e | ⟨e, hf⟩
  · rw [e]; exact I.funs
  · rw [e]
    obtain ⟨m, hn, _⟩ := I.loc
    refine .cons (by rw [I.ok.kind]; decide) hf hn ?_ I.funs
    exact Heap.get?_none_of_le (Nat.le_trans I.ok.bsz I.ok.above)
theorem Inv.stkSub (I : Inv X pins σ H s) : ∀ b ∈ frs X.stack, b ∈ X.env.locals :: X.fs := fun b hb => by
  rcases I.ok.stk with e | ⟨e, hf⟩
  · rw [e] at hb; exact List.mem_cons_of_mem _ hb
  · rw [e] at hb
    unfold frs at hb
    rw [List.filterMap_cons, hf] at hb
    exact hb
theorem Inv.stkFree (I : Inv X pins σ H s) : ∀ b ∈ frs X.stack, H b = none := fun b hb => by
  rcases List.mem_cons.mp (I.stkSub b hb) with e | hb
  · rw [e]; exact I.free
  · obtain ⟨_, o, ho, _⟩ := I.ok.funs.mem hb
    exact I.base.free b o ho (I.ok.frf b hb) fun z => I.ok.exfs b z hb

/-- THE STEP: the untracked objects but the frame and the records at ch are kept (the callers' frames up to slots), the frame's map is kept, the new abstract heap is held -/
theorem Inv.step {g' : Array GenState} {t' : Nat} {d' : Drawn} {ch : List Addr} (I : Inv X pins σ H s)
    (hch : ∀ b ∈ ch, (b ∈ X.ex ∨ X.s₀.heap.objs.size ≤ b) ∧ b ≠ X.env.locals ∧ (∀ x c, X.env.cells.lookup x = some c → c ≠ b) ∧ ∀ p ∈ X.pn ++ pins, p.1 ≠ b)
    (keep : ∀ b o, b ≠ X.env.locals → b ∉ X.fs → b ∉ ch → s.heap.get? b = some o → H b = none → h'.get? b = some o)
    (slot : ∀ b o, b ≠ X.env.locals → b ∈ X.fs → b ∉ ch → s.heap.get? b = some o → H b = none → ∃ sl, h'.get? b = some { o with slots := sl }) (free : ∀ b o, b ∉ ch → s.heap.get? b = some o → H b = none → H' b = none)
    (there : ∀ b o, b ∉ ch → s.heap.get? b = some o → ∃ o', h'.get? b = some o')
    (tups : ∀ b xs, H b = some (.tup xs) → H' b = some (.tup xs)) (frzs : ∀ b o u, H b = some (.frz o u) → H' b = some (.frz o u)) (tbls : ∀ b ps, H b = some (.tbl ps) → ∃ more, H' b = some (.tbl (ps ++ more)))
    (ns : ∀ m, s.heap.Ns X.env.locals m → h'.Ns X.env.locals m) (hok : HOk X.prog X.w H' h') (hg : AllBare g') :
    Inv X pins σ H' { s with heap := h', gens := g', drawn := d', toks := t' } := by
  have neL : ∀ b o, X.s₀.heap.get? b = some o → b ≠ X.env.locals := fun b o e => Nat.ne_of_lt (Nat.lt_of_lt_of_le (Heap.lt_size e) I.ok.above)
  have neC : ∀ b o, X.s₀.heap.get? b = some o → b ∉ X.ex → b ∉ ch := fun b o e hx hb => by
    rcases (hch b hb).1 with z | z
    · exact hx z
    · exact absurd (Nat.lt_of_lt_of_le (Heap.lt_size e) z) (Nat.lt_irrefl _)
  have cellK : ∀ x c, X.env.cells.lookup x = some c → ∀ v, s.heap.IsCell c v → h'.IsCell c v := fun x c e v ⟨o, ho, hd⟩ => by
    have nch : c ∉ ch := fun z => (hch c z).2.2.1 x c e rfl
    by_cases hc : c ∈ X.fs
    · obtain ⟨sl, q⟩ := slot c o (I.cne x c e) hc nch ho (I.freeC x c e)
      exact ⟨_, q, hd⟩
    · exact ⟨o, keep c o (I.cne x c e) hc nch ho (I.freeC x c e), hd⟩
  refine ⟨I.ok, I.os, hg, ⟨fun b o e n hb hx => ?_, fun b o e n hb hx => ?_, fun b o e n hx => ?_, fun b o e hx => ?_, fun b xs e => tups b xs (I.base.tups b xs e), fun b o xs e => frzs b o xs (I.base.frzs b o xs e), fun b ps e => ?_⟩, ?_, fun x c e => ?_, ?_, fun x c e => ?_, fun p hp => ?_, hok, I.len⟩
  · exact keep b o (neL b o e) hb (neC b o e hx) (I.base.keep b o e n hb hx) (I.base.free b o e n hx)
  · obtain ⟨sl, e1⟩ := I.base.slot b o e n hb hx
    obtain ⟨sl', e2⟩ := slot b _ (neL b o e) hb (neC b o e hx) e1 (I.base.free b o e n hx)
    exact ⟨sl', e2⟩
  · obtain ⟨o', e1⟩ := I.base.there b o e hx
    exact free b o' (neC b o e hx) e1 (I.base.free b o e n hx)
  · obtain ⟨o', e1⟩ := I.base.there b o e hx
    exact there b o' (neC b o e hx) e1
  · obtain ⟨m1, e1⟩ := I.base.tbls b ps e
    obtain ⟨m2, e2⟩ := tbls b _ e1
    exact ⟨m1 ++ m2, by rw [e2, Array.append_assoc]⟩
  · obtain ⟨m, hn, hl⟩ := I.loc
    refine ⟨m, ns m hn, fun i x v e1 e2 e3 => ?_⟩
    obtain ⟨u, r, l⟩ := hl i x v e1 e2 e3
    refine ⟨u, r, ?_⟩
    rcases l with l | ⟨k, c, e, z⟩
    · exact .inl l
    · exact .inr ⟨k, c, e, cellK x c e _ z⟩
  · obtain ⟨v, z⟩ := I.cell x c e
    exact ⟨v, cellK x c e v z⟩
  · obtain ⟨m, ⟨o, _, _, ho, _⟩, _⟩ := I.loc
    exact free _ o (fun z => (hch _ z).2.1 rfl) ho I.free
  · obtain ⟨v, o, ho, hd⟩ := I.cell x c e
    exact free c o (fun z => (hch c z).2.2.1 x c e rfl) ho (I.freeC x c e)
  · obtain ⟨e, n, ne, nf, d⟩ := I.pin p hp
    have nch : p.1 ∉ ch := fun z => (hch p.1 z).2.2.2 p hp rfl
    exact ⟨keep p.1 p.2 ne nf nch e n, free p.1 p.2 nch e n, ne, nf, d⟩
/-- .. where the frame's own object is kept too -/
theorem Inv.un {t' : Nat} (I : Inv X pins σ H s) (u : Un X.fs [] H H' s.heap h') (hok : HOk X.prog X.w H' h') : Inv X pins σ H' { s with heap := h', toks := t' } := by
  obtain ⟨m, ⟨o, es, ep, ho, r⟩, _⟩ := id I.loc
  obtain ⟨sl, hL⟩ := u.any ho I.free (by simp)
  exact I.step (g' := s.gens) (d' := s.drawn) (ch := []) (fun _ z => nomatch z) (fun b o _ hb _ e n => u.keep b o e n hb (by simp)) (fun b o _ hb _ e n => u.slot b o e n hb (by simp)) (fun b o _ e n => u.free b o e n (by simp)) (fun b o _ e => u.there b o e (by simp)) u.tups u.frzs u.tbls (fun m' hm => by
    obtain ⟨o', es', ep', ho', r'⟩ := hm
    rw [ho] at ho'; cases ho'
    exact ⟨_, es', ep', hL, r'⟩) hok I.bare
/-- behind a call (or a comprehension's block): the slots of this frame may have changed too, the records at ch may have turned -/
theorem Inv.call {g' : Array GenState} {t' : Nat} {d' : Drawn} {ch : List Addr} (I : Inv X pins σ H s) (u : Un (frs X.stack) ch H H' s.heap h') (hok : HOk X.prog X.w H' h') (hg : AllBare g')
    (hch : ∀ b ∈ ch, (b ∈ X.ex ∨ X.s₀.heap.objs.size ≤ b) ∧ b ≠ X.env.locals ∧ (∀ x c, X.env.cells.lookup x = some c → c ≠ b) ∧ ∀ p ∈ X.pn ++ pins, p.1 ≠ b) :
    Inv X pins σ H' { s with heap := h', gens := g', drawn := d', toks := t' } := by
  obtain ⟨m, ⟨o, es, ep, ho, r⟩, _⟩ := id I.loc
  obtain ⟨sl, hL⟩ := u.any ho I.free fun z => (hch _ z).2.1 rfl
  exact I.step (ch := ch) hch (fun b o hL hb hc e n => u.keep b o e n (fun z => (List.mem_cons.mp (I.stkSub b z)).elim hL hb) hc) (fun b o _ _ hc e n => u.any e n hc) (fun b o hc e n => u.free b o e n hc) (fun b o hc e => u.there b o e hc) u.tups u.frzs u.tbls (fun m' hm => by
    obtain ⟨o', es', ep', ho', r'⟩ := hm
    rw [ho] at ho'; cases ho'
    exact ⟨_, es', ep', hL, r'⟩) hok hg
/-- an untracked record of ours (an iterator) has turned -/
theorem Inv.turned {t' : Nat} {it : Addr} (I : Inv X pins σ H s) (k : ∀ b o, b ≠ it → s.heap.get? b = some o → h'.get? b = some o) (hn : H it = none) (hL : it ≠ X.env.locals)
    (h1 : it ∈ X.ex ∨ X.s₀.heap.objs.size ≤ it) (h2 : ∀ x c, X.env.cells.lookup x = some c → c ≠ it) (h3 : ∀ p ∈ X.pn ++ pins, p.1 ≠ it) : Inv X pins σ H { s with heap := h', toks := t' } := by
  have nit : ∀ b u, H b = some u → b ≠ it := fun b u e z => by rw [z, hn] at e; cases e
  refine I.step (g' := s.gens) (d' := s.drawn) (ch := [it]) (fun b hb => ?_) (fun b o _ _ hc e _ => k b o (fun z => hc (by simp [z])) e) (fun b o _ _ hc e _ => ⟨o.slots, k b o (fun z => hc (by simp [z])) e⟩) (fun _ _ _ _ n => n)
    (fun b o hc e => ⟨o, k b o (fun z => hc (by simp [z])) e⟩) (fun _ _ e => e) (fun _ _ _ e => e) (fun b ps e => ⟨#[], by rw [e]; simp⟩) (fun m hm => ?_) (fun b u e => ?_) I.bare
  · have e : b = it := by simpa using hb
    subst e
    exact ⟨h1, hL, h2, h3⟩
  · obtain ⟨o, es, ep, ho, r⟩ := hm
    exact ⟨o, es, ep, k _ o (Ne.symm hL) ho, r⟩
  · refine (I.hok b u e).stay (fun c v hc q => k c v ?_ q) (fun _ q => q) fun _ _ q => q
    rcases hc with z | z
    · rw [z]; exact nit b u e
    · exact nit c _ z
theorem Inv.tok (I : Inv X pins σ H s) (t : Nat) : Inv X pins σ H { s with toks := t } := I.un (h' := s.heap) (t' := t) Un.refl I.hok
/-- all objects kept -/
theorem Inv.kept {t' : Nat} (I : Inv X pins σ H s) (k : ∀ b u, s.heap.get? b = some u → h'.get? b = some u) : Inv X pins σ H { s with heap := h', toks := t' } := I.un (Un.kept k) (I.hok.kept k)
/-- a new object laid and tracked -/
theorem Inv.laid {a : Addr} {o : HO} {t' : Nat} (I : Inv X pins σ H s) (k : ∀ b u, s.heap.get? b = some u → h'.get? b = some u) (hp : s.heap.objs.size ≤ a) (new : ObjOk X.prog X.w (upd H a o) h' a o) :
    Inv X pins σ (upd H a o) { s with heap := h', toks := t' } := I.un (Un.laid k hp (I.hok.fresh hp)) (I.hok.laid k hp new)
/-- an object written -/
theorem Inv.write {x e : Addr} {o : HO} {t' : Nat} (I : Inv X pins σ H s) (mu : Mut (H x)) (he : e = x ∨ H e = some (.own x)) (k : ∀ b u, b ≠ e → s.heap.get? b = some u → h'.get? b = some u) (heo : ∃ u, h'.get? e = some u)
    (new : ObjOk X.prog X.w (upd H x o) h' x o) : Inv X pins σ (upd H x o) { s with heap := h', toks := t' } := I.un (Un.write mu he k heo) (I.hok.write mu he k heo new)
/-- forgetting slots, pins -/
theorem Inv.weak {σ' : List (Option V)} (I : Inv X pins σ H s) (hl : σ'.length = σ.length) (w : ∀ (i : Nat) v, σ'[i]? = some (some v) → σ[i]? = some (some v)) : Inv X pins σ' H s :=
  ⟨I.ok, I.os, I.bare, I.base, let ⟨m, hn, hl'⟩ := I.loc; ⟨m, hn, fun i x v e1 e2 e3 => hl' i x v e1 (w i v e2) e3⟩, I.cell, I.free, I.freeC, I.pin, I.hok, hl.trans I.len⟩
theorem Inv.pins_of {pins' : List (Addr × Obj)} (I : Inv X pins σ H s) (h : ∀ p ∈ pins', s.heap.get? p.1 = some p.2 ∧ H p.1 = none ∧ p.1 ≠ X.env.locals ∧ p.1 ∉ X.fs ∧ ∀ v, p.2.data ≠ .cell v) : Inv X pins' σ H s :=
  ⟨I.ok, I.os, I.bare, I.base, I.loc, I.cell, I.free, I.freeC, fun p hp => (List.mem_append.mp hp).elim (fun z => I.pin p (List.mem_append_left _ z)) (h p), I.hok, I.len⟩

theorem nodup_ix {N : List Str} (hN : N.Nodup) {i j : Nat} {x : Str} (a : N[i]? = some x) (b : N[j]? = some x) : i = j := by
  obtain ⟨h1, e1⟩ := List.getElem?_eq_some_iff.mp a
  obtain ⟨h2, e2⟩ := List.getElem?_eq_some_iff.mp b
  exact (List.getElem_inj hN).mp (e1.trans e2.symm)

/-- a name is stored; what changed -/
theorem store_ok2 {M : Model} {A : Around} {E : Value → Shared → Prop} {i : Nat} {x : Str} {v : V} {u : Value} {Q : Unit → Shared → Prop} (I : Inv X pins σ H s) (hN : X.N.Nodup) (hi : X.N[i]? = some x) (hx : Loc X.env.scope x) (r : RelV v u)
    (h : ∀ s', Inv X pins (σ.set i (some v)) H s' → (∃ a, Heap.SameBut a s.heap s'.heap ∧ (a = X.env.locals ∨ X.env.cells.lookup x = some a)) → Q () s') (hf : X.fn x = true ∨ X.env.scope.names.lookup x = some .local := by first | exact .inl rfl | exact .inr rfl | assumption) : wpAny M A (storeName X.env x u) Q E s := by
  obtain ⟨m, hn, hl⟩ := id I.loc
  have hcls : (X.env.scope.kind == .class || (X.env.scope.kind == .module && X.env.locals != X.env.globals)) = false := by rw [I.ok.kind]; rfl
  have hiσ : i < σ.length := by rw [I.len]; exact (List.getElem?_eq_some_iff.mp hi).1
  have cne := I.cne
  have tracked : ∀ {a : Addr} {h' : Heap}, (∃ o, s.heap.get? a = some o ∧ H a = none) → Heap.SameBut a s.heap h' → HOk X.prog X.w H h' := fun {a h'} ha hs b ob e => by
    obtain ⟨_, _, hfree⟩ := ha
    refine (I.hok b ob e).stay (fun c w' hc q => (hs.2 c ?_).trans q) (fun _ q => q) fun _ _ q => q
    rintro rfl
    rcases hc with rfl | hc
    · rw [hfree] at e; cases e
    · rw [hfree] at hc; cases hc
  rcases hx with hk | hk
  · refine wpAny_storeName_local hk hn (fun h' hn' hs => ?_) hcls
    obtain ⟨oL, _, _, hoL, _⟩ := id hn
    refine h _ ⟨I.ok, I.os, I.bare, ⟨fun b o e n hb hx => ?_, fun b o e n hb hx => ?_, I.base.free, fun b o e hx => ?_, I.base.tups, I.base.frzs, I.base.tbls⟩, ⟨_, hn', fun j y v' e1 e2 e3 => ?_⟩, fun y c e => ?_, I.free, I.freeC, fun p hp => ?_, tracked ⟨oL, hoL, I.free⟩ hs, by simpa using I.len⟩ ⟨_, hs, .inl rfl⟩
    · exact (hs.2 b (Nat.ne_of_lt (Nat.lt_of_lt_of_le (Heap.lt_size e) I.ok.above))).trans (I.base.keep b o e n hb hx)
    · obtain ⟨sl, e1⟩ := I.base.slot b o e n hb hx
      exact ⟨sl, (hs.2 b (Nat.ne_of_lt (Nat.lt_of_lt_of_le (Heap.lt_size e) I.ok.above))).trans e1⟩
    · obtain ⟨o', e1⟩ := I.base.there b o e hx
      exact ⟨o', (hs.2 b (Nat.ne_of_lt (Nat.lt_of_lt_of_le (Heap.lt_size e) I.ok.above))).trans e1⟩
    · by_cases hj : j = i
      · subst hj
        rw [hi] at e1; cases e1
        rw [List.getElem?_set_self hiσ] at e2
        cases e2
        exact ⟨u, r, .inl ⟨hk, by simp⟩⟩
      · rw [List.getElem?_set_ne (Ne.symm hj)] at e2
        obtain ⟨u', r', q⟩ := hl j y v' e1 e2 e3
        refine ⟨u', r', ?_⟩
        rcases q with ⟨k, e⟩ | ⟨k, c, e, z⟩
        · refine .inl ⟨k, ?_⟩
          have : y ≠ x := fun e => hj (nodup_ix hN e1 (e ▸ hi))
          simp [this, e]
        · exact .inr ⟨k, c, e, z.sameBut hs (cne y c e)⟩
    · obtain ⟨w', z⟩ := I.cell y c e
      exact ⟨w', z.sameBut hs (cne y c e)⟩
    · obtain ⟨e, n, ne, nf, d⟩ := I.pin p hp
      exact ⟨(hs.2 p.1 ne).trans e, n, ne, nf, d⟩
  · have hfn : X.fn x = true := by
      rcases hf with z | z
      · exact z
      · rw [z] at hk; cases hk
    obtain ⟨c, hc⟩ := I.ok.has x (.inl hk)
    obtain ⟨w', z⟩ := I.cell x c hc
    refine wpAny_storeName_cell I.ok.kind hk hc z (fun h' hc' hs => ?_)
    obtain ⟨oc, hoc, hocd⟩ := id z
    refine h { s with heap := h' } ⟨I.ok, I.os, I.bare, ⟨fun b o e n hb hx => ?_, fun b o e n hb hx => ?_, I.base.free, fun b o e hx => ?_, I.base.tups, I.base.frzs, I.base.tbls⟩, ⟨m, hn.sameBut hs (Ne.symm (cne x c hc)), fun j y v' e1 e2 e3 => ?_⟩, fun y c' e => ?_, I.free, I.freeC, fun p hp => ?_, tracked ⟨oc, hoc, I.freeC x c hc⟩ hs, by simpa using I.len⟩ ⟨c, hs, .inr hc⟩
    · exact (hs.2 b (Nat.ne_of_lt (Nat.lt_of_lt_of_le (Heap.lt_size e) (I.ok.cab x c hfn hc)))).trans (I.base.keep b o e n hb hx)
    · obtain ⟨sl, e1⟩ := I.base.slot b o e n hb hx
      exact ⟨sl, (hs.2 b (Nat.ne_of_lt (Nat.lt_of_lt_of_le (Heap.lt_size e) (I.ok.cab x c hfn hc)))).trans e1⟩
    · obtain ⟨o', e1⟩ := I.base.there b o e hx
      exact ⟨o', (hs.2 b (Nat.ne_of_lt (Nat.lt_of_lt_of_le (Heap.lt_size e) (I.ok.cab x c hfn hc)))).trans e1⟩
    · by_cases hj : j = i
      · subst hj
        rw [hi] at e1; cases e1
        rw [List.getElem?_set_self hiσ] at e2
        cases e2
        exact ⟨u, r, .inr ⟨.inl hk, c, hc, hc'⟩⟩
      · rw [List.getElem?_set_ne (Ne.symm hj)] at e2
        obtain ⟨u', r', q⟩ := hl j y v' e1 e2 e3
        refine ⟨u', r', ?_⟩
        rcases q with q | ⟨k, c', e, z'⟩
        · exact .inl q
        · refine .inr ⟨k, c', e, z'.sameBut hs ?_⟩
          rintro rfl
          exact hj (nodup_ix hN e1 (I.ok.inj _ _ _ e hc ▸ hi))
    · by_cases hcc : c' = c
      · subst hcc; exact ⟨_, hc'⟩
      · obtain ⟨w2, z2⟩ := I.cell y c' e
        exact ⟨w2, z2.sameBut hs hcc⟩
    · obtain ⟨e, n, ne, nf, d⟩ := I.pin p hp
      refine ⟨(hs.2 p.1 ?_).trans e, n, ne, nf, d⟩
      intro q
      rw [q, hoc] at e
      have q' : oc = p.2 := Option.some.inj e
      exact d w' (by rw [← q']; exact hocd)
theorem store_ok {M : Model} {A : Around} {E : Value → Shared → Prop} {i : Nat} {x : Str} {v : V} {u : Value} {Q : Unit → Shared → Prop} (I : Inv X pins σ H s) (hN : X.N.Nodup) (hi : X.N[i]? = some x) (hx : Loc X.env.scope x) (r : RelV v u)
    (h : ∀ s', Inv X pins (σ.set i (some v)) H s' → Q () s') (hf : X.fn x = true ∨ X.env.scope.names.lookup x = some .local := by first | exact .inl rfl | exact .inr rfl | assumption) : wpAny M A (storeName X.env x u) Q E s :=
  store_ok2 I hN hi hx r (fun s' I' _ => h s' I') hf
/-- behind a call or a block, the state as it is -/
theorem Inv.call' {s' : Shared} {ch : List Addr} (I : Inv X pins σ H s) (ho : s'.os = s.os) (u : Un (frs X.stack) ch H H' s.heap s'.heap) (hok : HOk X.prog X.w H' s'.heap) (hg : AllBare s'.gens)
    (hch : ∀ b ∈ ch, (b ∈ X.ex ∨ X.s₀.heap.objs.size ≤ b) ∧ b ≠ X.env.locals ∧ (∀ x c, X.env.cells.lookup x = some c → c ≠ b) ∧ ∀ p ∈ X.pn ++ pins, p.1 ≠ b) : Inv X pins σ H' s' := by
  obtain ⟨h', g', d', t', o'⟩ := s'
  have e : o' = s.os := ho
  subst e
  exact I.call (g' := g') (t' := t') (d' := d') u hok hg hch
end

/-! ### the judgements -/
/-- an exception: its class, its own dict's address (where it has one), the abstract heap behind it -/
abbrev XK := Value → Option Addr → Hp → Prop
abbrev St := List (Option V)
abbrev VK := V → Hp → Prop
/-- an expression's reading; a test's; an argument list's -/
abbrev TE := St → Hp → VK → Prop
abbrev TT := St → Hp → (Bool → Hp → Prop) → Prop
abbrev TA := St → Hp → (List V → Hp → Prop) → Prop
/-- what is wanted behind a statement -/
structure Ends where
  nx : St → Hp → Prop
  rt : VK
  bk : St → Hp → Prop := fun _ _ => False
  ct : St → Hp → Prop := fun _ _ => False
abbrev TS := Ends → St → Hp → Prop

def EP (X : Cx) (pins : List (Addr × Obj)) (σ : St) (Q : VK) (u : Value) (s' : Shared) : Prop := ∃ v H', Inv X pins σ H' s' ∧ RelV v u ∧ Q v H'
def TP (X : Cx) (pins : List (Addr × Obj)) (σ : St) (Q : Bool → Hp → Prop) (b : Bool) (s' : Shared) : Prop := ∃ H', Inv X pins σ H' s' ∧ Q b H'
def AP (X : Cx) (pins : List (Addr × Obj)) (σ : St) (Q : List V → Hp → Prop) (us : List Value) (s' : Shared) : Prop := ∃ vs H', Inv X pins σ H' s' ∧ Vals vs us ∧ Q vs H'
def SP (X : Cx) (pins : List (Addr × Obj)) (D : Ends) (f : Flow) (s' : Shared) : Prop :=
  match f with
  | .next => ∃ σ' H', Inv X pins σ' H' s' ∧ D.nx σ' H'
  | .brk => ∃ σ' H', Inv X pins σ' H' s' ∧ D.bk σ' H'
  | .cont => ∃ σ' H', Inv X pins σ' H' s' ∧ D.ct σ' H'
  | .ret u => ∃ v σ' H', Inv X pins σ' H' s' ∧ RelV v u ∧ D.rt v H'

def PE (X : Cx) (e : Expr) (t : TE) : Prop :=
  ∀ (pins : List (Addr × Obj)) (s : Shared) (σ : St) (H : Hp) (Q : VK), Inv X pins σ H s → t σ H Q → wpAny (model X.prog X.w) X.A (eval e X.env) (EP X pins σ Q) X.xe s
def PT (X : Cx) (e : Expr) (t : TT) : Prop :=
  ∀ (pins : List (Addr × Obj)) (s : Shared) (σ : St) (H : Hp) (Q : Bool → Hp → Prop), Inv X pins σ H s → t σ H Q → wpAny (model X.prog X.w) X.A (isTrue e X.env (eval e X.env)) (TP X pins σ Q) X.xe s
/-- a test whatever its 'whole' is (and, or) -/
def PW (X : Cx) (e : Expr) (t : TT) : Prop :=
  ∀ (whole : Sem Value) (pins : List (Addr × Obj)) (s : Shared) (σ : St) (H : Hp) (Q : Bool → Hp → Prop), Inv X pins σ H s → t σ H Q → wpAny (model X.prog X.w) X.A (isTrue e X.env whole) (TP X pins σ Q) X.xe s
theorem PW.pt {X : Cx} {e : Expr} {t : TT} (h : PW X e t) : PT X e t := h _
/-- an argument list (no star), from the left -/
def PA (X : Cx) (es : List Expr) (t : TA) : Prop :=
  ∀ (pos : Pos) (pins : List (Addr × Obj)) (s : Shared) (σ : St) (H : Hp) (Q : List V → Hp → Prop), Inv X pins σ H s → t σ H Q → wpAny (model X.prog X.w) X.A (spliced (backTo pos (starEach es X.env))) (AP X pins σ Q) X.xe s
def PS (X : Cx) (st : Stmt) (t : TS) : Prop :=
  ∀ (pins : List (Addr × Obj)) (s : Shared) (σ : St) (H : Hp) (D : Ends), Inv X pins σ H s → t D σ H → wpAny (model X.prog X.w) X.A (exec st X.env) (SP X pins D) X.xe s
def PSs (X : Cx) (st : List Stmt) (t : TS) : Prop :=
  ∀ (pins : List (Addr × Obj)) (s : Shared) (σ : St) (H : Hp) (D : Ends), Inv X pins σ H s → t D σ H → wpAny (model X.prog X.w) X.A (execs st X.env) (SP X pins D) X.xe s
/-- weaken the end -/
theorem thn {α : Type} {t : Sem α} {Q Q' : α → Shared → Prop} {M : Model} {A : Around} {E : Value → Shared → Prop} {s : Shared} (h : wpAny M A t Q E s) (hQ : ∀ a s, Q a s → Q' a s) : wpAny M A t Q' E s := wpAny_mono h hQ fun _ _ x => x
end L2

namespace L2
open PySem PySem.Spec PyProof.Rows
section
variable {X : Cx}

/-- two expressions in a row -/
theorem bin {a b : Expr} {ta tb : TE} (ha : PE X a ta) (hb : PE X b tb) {pins : List (Addr × Obj)} {s : Shared} {σ : St} {H : Hp} {R : V → V → Hp → Prop} (I : Inv X pins σ H s) (h : ta σ H fun x H1 => tb σ H1 fun y H2 => R x y H2)
    {α : Type} {Q : α → Shared → Prop} {f : Value → Value → Sem α}
    (hf : ∀ v u s2 x y H2, Inv X pins σ H2 s2 → RelV x v → RelV y u → R x y H2 → wpAny (model X.prog X.w) X.A (f v u) Q X.xe s2) :
    wpAny (model X.prog X.w) X.A (eval a X.env) (fun v s₁ => wpAny (model X.prog X.w) X.A (eval b X.env) (fun u s₂ => wpAny (model X.prog X.w) X.A (f v u) Q X.xe s₂) X.xe s₁) X.xe s := by
  refine thn (ha pins s σ H _ I h) fun v s1 ⟨x, H1, I1, r1, q1⟩ => ?_
  refine thn (hb pins s1 σ H1 _ I1 q1) fun u s2 ⟨y, H2, I2, r2, q2⟩ => ?_
  exact hf v u s2 x y H2 I2 r1 r2 q2

/-! ### names and constants -/
def tVar (i : Nat) : TE := fun σ H Q => ∃ v, σ[i]? = some (some v) ∧ Q v H
def tC (v : V) : TE := fun _ H Q => Q v H
theorem pe_var {i : Nat} {x : Str} {pos : Pos} (hN : X.N[i]? = some x) (hv : Vis X.env.scope x) (hd : (x == ("__debug__" : Str)) = false := by decide) (hcd : (x == ("__classdict__" : Str)) = false := by decide) : PE X (.Name x pos) (tVar i) := by
  intro pins s σ H Q I h
  obtain ⟨v, e, h⟩ := h
  obtain ⟨m, hn, hl⟩ := I.loc
  obtain ⟨u, r, l⟩ := hl i x v hN e hv
  have fin : EP X pins σ Q u s := ⟨v, H, I, r, h⟩
  rcases l with ⟨hk, hm⟩ | ⟨hk, c, hc, hcell⟩
  · exact wpAny_Name (wpAny_loadName_local I.ok.kind hk hn hm fin) hd
  · rcases hk with hk | hk
    · exact wpAny_Name (wpAny_loadName_cell I.ok.kind hk hc hcell fin) hd
    · exact wpAny_Name (wpAny_loadName_free I.ok.kind hk hc hcell fin hcd) hd
theorem pe_int {i j pos} : PE X (.Constant (.int i) j pos) (tC (.int i)) := fun _ _ _ H _ I h => wpAny_Constant_int ⟨.int i, H, I.tok _, ⟨_, rfl⟩, h⟩
theorem pe_bl {b j pos} : PE X (.Constant (.bool b) j pos) (tC (.bl b)) := fun _ _ _ H _ I h => Constant_bool ⟨.bl b, H, I, rfl, h⟩
theorem pe_non {j pos} : PE X (.Constant .none j pos) (tC .non) := fun _ _ _ H _ I h => Constant_none ⟨.non, H, I, rfl, h⟩
theorem pe_str {x j pos} : PE X (.Constant (.str x) j pos) (tC (.str x)) := fun _ _ _ H _ I h => Calls.Constant_str ⟨.str x, H, I.tok _, ⟨_, rfl⟩, h⟩

/-- a global name of the def -/
def Gl (X : Cx) (x : Str) : Prop := X.env.kindOf x = some .globalImplicit
theorem ld_glob {E : Value → Shared → Prop} {pins : List (Addr × Obj)} {s : Shared} {σ : St} {H : Hp} {x : Str} {u : Value} {pos : Pos} {Q : Value → Shared → Prop} (I : Inv X pins σ H s) (hg : Gl X x) (hm : X.mg x = some u) (h : Q u s)
    (hd : (x == ("__debug__" : Str)) = false := by decide) : wpAny (model X.prog X.w) X.A (eval (.Name x pos) X.env) Q E s :=
  Calls.Name_function_global I.ok.kind hg (Calls.loadGlobal_global (by rw [I.ok.glob]; exact I.mod.glob.keeps I.bk) hm h) hd
theorem ld_blt {E : Value → Shared → Prop} {pins : List (Addr × Obj)} {s : Shared} {σ : St} {H : Hp} {x : Str} {u : Value} {pos : Pos} {Q : Value → Shared → Prop} (I : Inv X pins σ H s) (hg : Gl X x) (hm : X.mg x = none) (hv : bootBuiltins x = some u) (h : Q u s)
    (hn : x ≠ "__name__" := by decide) (hd : (x == ("__debug__" : Str)) = false := by decide) : wpAny (model X.prog X.w) X.A (eval (.Name x pos) X.env) Q E s := by
  obtain ⟨mb, h1, h2⟩ := I.mod.blt
  exact Calls.Name_function_global I.ok.kind hg (Calls.loadGlobal_builtin (by rw [I.ok.glob]; exact I.mod.glob.keeps I.bk) hm (by rw [I.ok.blt]; exact h1.keeps I.bk) ((h2 x hn).trans hv) h) hd
/-- a module's constant, a class, a function, as a value -/
theorem pe_glob {x : Str} {v : V} {u : Value} {pos : Pos} (hg : Gl X x) (hm : X.mg x = some u) (r : RelV v u) (hd : (x == ("__debug__" : Str)) = false := by decide) : PE X (.Name x pos) (tC v) :=
  fun _ _ _ H _ I h => ld_glob I hg hm ⟨v, H, I, r, h⟩ hd
theorem pe_bltn {x : Str} {v : V} {u : Value} {pos : Pos} (hg : Gl X x) (hm : X.mg x = none) (hv : bootBuiltins x = some u) (r : RelV v u) (hn : x ≠ "__name__" := by decide) (hd : (x == ("__debug__" : Str)) = false := by decide) : PE X (.Name x pos) (tC v) :=
  fun _ _ _ H _ I h => ld_blt I hg hm hv ⟨v, H, I, r, h⟩ hn hd

/-! ### arithmetic -/
/-- two ints -/
def t2I (ta tb : TE) (k : Int → Int → Hp → Prop) : St → Hp → Prop := fun σ H => ta σ H fun x H1 => tb σ H1 fun y H2 => ∃ i j, x = .int i ∧ y = .int j ∧ k i j H2
def tAdd (ta tb : TE) : TE := fun σ H Q => t2I ta tb (fun i j H2 => Q (.int (i + j)) H2) σ H
def tSub (ta tb : TE) : TE := fun σ H Q => t2I ta tb (fun i j H2 => Q (.int (i - j)) H2) σ H
/-- the left factor below 2^64 -/
def tMul (ta tb : TE) : TE := fun σ H Q => t2I ta tb (fun i j H2 => (-(2 ^ 64) < i ∧ i < 2 ^ 64) ∧ Q (.int (i * j)) H2) σ H
variable {a b : Expr} {ta tb : TE} {pos : Pos}
theorem pe_add (ha : PE X a ta) (hb : PE X b tb) : PE X (.BinOp a .Add b pos) (tAdd ta tb) := by
  intro pins s σ H Q I h
  refine wpAny_BinOp (bin ha hb I h fun v u s2 x y H2 I2 rx ry q => ?_)
  obtain ⟨i, j, rfl, rfl, q⟩ := q
  obtain ⟨t, rfl⟩ := rx
  obtain ⟨t', rfl⟩ := ry
  exact add_int ⟨.int _, H2, I2.tok _, ⟨_, rfl⟩, q⟩
theorem pe_sub (ha : PE X a ta) (hb : PE X b tb) : PE X (.BinOp a .Sub b pos) (tSub ta tb) := by
  intro pins s σ H Q I h
  refine wpAny_BinOp (bin ha hb I h fun v u s2 x y H2 I2 rx ry q => ?_)
  obtain ⟨i, j, rfl, rfl, q⟩ := q
  obtain ⟨t, rfl⟩ := rx
  obtain ⟨t', rfl⟩ := ry
  exact sub_int ⟨.int _, H2, I2.tok _, ⟨_, rfl⟩, q⟩
theorem pe_mul (ha : PE X a ta) (hb : PE X b tb) : PE X (.BinOp a .Mult b pos) (tMul ta tb) := by
  intro pins s σ H Q I h
  refine wpAny_BinOp (bin ha hb I h fun v u s2 x y H2 I2 rx ry q => ?_)
  obtain ⟨i, j, rfl, rfl, ⟨q1, q2⟩, q⟩ := q
  obtain ⟨t, rfl⟩ := rx
  obtain ⟨t', rfl⟩ := ry
  exact mul_int ⟨.int _, H2, I2.tok _, ⟨_, rfl⟩, q⟩ (.of_left (intBits_le_64 q1 q2))

/-! ### comparisons -/
def PC (X : Cx) (op : CmpOp) (a b : Expr) (t : TE) : Prop :=
  ∀ (pins : List (Addr × Obj)) (s : Shared) (σ : St) (H : Hp) (Q : VK), Inv X pins σ H s → t σ H Q →
    wpAny (model X.prog X.w) X.A (eval a X.env) (fun v s₁ => wpAny (model X.prog X.w) X.A (eval b X.env) (fun u s₂ => wpAny (model X.prog X.w) X.A (compareOp op v u) (EP X pins σ Q) X.xe s₂) X.xe s₁) X.xe s
theorem nobehind (b : Expr) {op : CmpOp} (h : op ≠ .In) (h2 : op ≠ .NotIn) : behindInMarks op b = false := by
  have e1 : (op == CmpOp.In) = false := by cases op <;> first | rfl | exact absurd rfl h
  have e2 : (op == CmpOp.NotIn) = false := by cases op <;> first | rfl | exact absurd rfl h2
  cases b <;> simp [behindInMarks, e1, e2]
def tCmp (p : Int → Int → Bool) (ta tb : TE) : TE := fun σ H Q => t2I ta tb (fun i j H2 => Q (.bl (p i j)) H2) σ H
abbrev tLt : TE → TE → TE := tCmp fun i j => decide (i < j)
abbrev tLe : TE → TE → TE := tCmp fun i j => decide (i ≤ j)
abbrev tGt : TE → TE → TE := tCmp fun i j => decide (j < i)
abbrev tGe : TE → TE → TE := tCmp fun i j => decide (j ≤ i)
abbrev tEqI : TE → TE → TE := tCmp fun i j => decide (i = j)
abbrev tNeI : TE → TE → TE := tCmp fun i j => !decide (i = j)
/-- a comparison of two ints, by its rule -/
theorem pc_int {op : CmpOp} {p : Int → Int → Bool} (ha : PE X a ta) (hb : PE X b tb)
    (rule : ∀ (i j : Int) (t u : Tok) (Q : Value → Shared → Prop) (s : Shared), Q (.bool (p i j)) s → wpAny (model X.prog X.w) X.A (compareOp op (.int i t) (.int j u)) Q X.xe s) : PC X op a b (tCmp p ta tb) := by
  intro pins s σ H Q I h
  refine bin ha hb I h fun v u s2 x y H2 I2 rx ry q => ?_
  obtain ⟨i, j, rfl, rfl, q⟩ := q
  obtain ⟨t, rfl⟩ := rx
  obtain ⟨t', rfl⟩ := ry
  exact rule i j t t' _ s2 ⟨.bl _, H2, I2, rfl, q⟩
theorem pc_lt (ha : PE X a ta) (hb : PE X b tb) : PC X .Lt a b (tLt ta tb) := pc_int ha hb fun _ _ _ _ _ _ h => lt_int h
theorem pc_le (ha : PE X a ta) (hb : PE X b tb) : PC X .LtE a b (tLe ta tb) := pc_int ha hb fun _ _ _ _ _ _ h => le_int h
theorem pc_gt (ha : PE X a ta) (hb : PE X b tb) : PC X .Gt a b (tGt ta tb) := pc_int ha hb fun _ _ _ _ _ _ h => gt_int h
theorem pc_ge (ha : PE X a ta) (hb : PE X b tb) : PC X .GtE a b (tGe ta tb) := pc_int ha hb fun _ _ _ _ _ _ h => ge_int h
theorem pc_eqI (ha : PE X a ta) (hb : PE X b tb) : PC X .Eq a b (tEqI ta tb) := pc_int ha hb fun _ _ _ _ _ _ h => eq_int (by rw [Bool.beq_eq_decide_eq]; exact h)
theorem pc_neI (ha : PE X a ta) (hb : PE X b tb) : PC X .NotEq a b (tNeI ta tb) := pc_int ha hb fun _ _ _ _ _ _ h => ne_int (by rw [bne, Bool.beq_eq_decide_eq]; exact h)
/-- is None -/
def tIsN (ta : TE) : TE := fun σ H Q => ta σ H fun x H1 => Q (.bl (decide (x = .non))) H1
def tNotN (ta : TE) : TE := fun σ H Q => ta σ H fun x H1 => Q (.bl (!decide (x = .non))) H1
theorem RelV.none_iff {x : V} {v : Value} (r : RelV x v) : (v == Value.none) = decide (x = .non) := by
  cases x with
  | non => cases r; rfl
  | bl _ => cases r; rfl
  | int _ => obtain ⟨t, rfl⟩ := r; rfl
  | str _ => obtain ⟨t, rfl⟩ := r; rfl
  | byt _ => obtain ⟨t, rfl⟩ := r; rfl
  | flt _ => obtain ⟨t, rfl⟩ := r; rfl
  | ref _ => cases r; rfl
  | ty _ => cases r; rfl
theorem pc_isN {j pos'} (ha : PE X a ta) : PC X .Is a (.Constant .none j pos') (tIsN ta) := by
  intro pins s σ H Q I h
  refine thn (ha pins s σ H _ I h) fun v s1 ⟨x, H1, I1, r1, q1⟩ => ?_
  exact Constant_none (is_none_gen ⟨.bl _, H1, I1, by rw [r1.none_iff]; rfl, q1⟩)
theorem pc_notN {j pos'} (ha : PE X a ta) : PC X .IsNot a (.Constant .none j pos') (tNotN ta) := by
  intro pins s σ H Q I h
  refine thn (ha pins s σ H _ I h) fun v s1 ⟨x, H1, I1, r1, q1⟩ => ?_
  exact Constant_none (isnot_none_gen ⟨.bl _, H1, I1, by rw [r1.none_iff]; rfl, q1⟩)
/-- a comparison as a value, as a test -/
def tB (t : TE) : TT := fun σ H Q => t σ H fun x H1 => ∃ c, x = .bl c ∧ Q c H1
theorem pe_cmp {op : CmpOp} {t : TE} (h : PC X op a b t) (h1 : behindInMarks op b = false := by first | exact nobehind _ (by decide) (by decide) | rfl) : PE X (.Compare a [op] [b] pos) t := fun pins s σ H Q I hw => wpAny_Compare1 (h pins s σ H Q I hw) h1
theorem pt_cmp {op : CmpOp} {t : TE} (h : PC X op a b t) (h1 : behindInMarks op b = false := by first | exact nobehind _ (by decide) (by decide) | rfl) : PT X (.Compare a [op] [b] pos) (tB t) := by
  intro pins s σ H Q I hw
  refine wpAny_isTrue_Compare1 (thn (h pins s σ H _ I hw) fun v s1 h1 => thn h1 fun u s2 h2 => thn h2 fun c s3 ⟨x, H1, I1, r1, q1⟩ => ?_) h1
  obtain ⟨d, rfl, q⟩ := q1
  cases r1
  exact wpAny_truthy_bool ⟨H1, I1, q⟩
/-- an expression whose value is a bool, as a test -/
theorem pt_val {e : Expr} {t : TE} (h : PE X e t) (he : ∀ whole, isTrue e X.env whole = (do let v ← whole; standAt e.pos; holding [v] (truthy v)) := by intro _; rfl) : PT X e (tB t) := by
  intro pins s σ H Q I hw
  refine isTrue_plain (thn (h pins s σ H _ I hw) fun v s1 ⟨x, H1, I1, r1, q1⟩ => ?_) (he _)
  obtain ⟨d, rfl, q⟩ := q1
  cases r1
  exact wpAny_truthy_bool ⟨H1, I1, q⟩

/-! ### and, or, not -/
variable {tA tB' : TT} {rest : List Expr}
def tAnd (t u : TT) : TT := fun σ H Q => t σ H fun c H1 => if c = true then u σ H1 Q else Q false H1
def tOr (t u : TT) : TT := fun σ H Q => t σ H fun c H1 => if c = true then Q true H1 else u σ H1 Q
def tNot (t : TT) : TT := fun σ H Q => t σ H fun c H1 => Q (!c) H1
theorem pw_and1 (ha : PT X a tA) : PW X (.BoolOp .And [a] pos) tA := by
  intro wh pins s σ H Q I h
  refine isTrue_and (thn (ha pins s σ H Q I h) fun c s1 e => ?_)
  cases c with
  | true => exact isTrue_and_nil e
  | false => exact e
theorem pw_or1 (ha : PT X a tA) : PW X (.BoolOp .Or [a] pos) tA := by
  intro wh pins s σ H Q I h
  refine isTrue_or (thn (ha pins s σ H Q I h) fun c s1 e => ?_)
  cases c with
  | false => exact isTrue_or_nil e
  | true => exact e
theorem pw_and (ha : PT X a tA) (hb : PW X (.BoolOp .And (b :: rest) pos) tB') : PW X (.BoolOp .And (a :: b :: rest) pos) (tAnd tA tB') := by
  intro wh pins s σ H Q I h
  refine isTrue_and (thn (ha pins s σ H _ I h) fun c s1 ⟨H1, I1, q1⟩ => ?_)
  cases c with
  | true => exact hb wh pins s1 σ H1 Q I1 q1
  | false => exact ⟨H1, I1, q1⟩
theorem pw_or (ha : PT X a tA) (hb : PW X (.BoolOp .Or (b :: rest) pos) tB') : PW X (.BoolOp .Or (a :: b :: rest) pos) (tOr tA tB') := by
  intro wh pins s σ H Q I h
  refine isTrue_or (thn (ha pins s σ H _ I h) fun c s1 ⟨H1, I1, q1⟩ => ?_)
  cases c with
  | true => exact ⟨H1, I1, q1⟩
  | false => exact hb wh pins s1 σ H1 Q I1 q1
theorem pt_not (ha : PT X a tA) : PT X (.UnaryOp .Not a pos) (tNot tA) := by
  intro pins s σ H Q I h
  exact isTrue_not (ha pins s σ H (fun c H1 => Q (!c) H1) I h)
/-- .. as values (bools) -/
def tAndV (ta tb : TE) : TE := fun σ H Q => ta σ H fun x H1 => ∃ c, x = .bl c ∧ if c = true then tb σ H1 Q else Q (.bl false) H1
def tOrV (ta tb : TE) : TE := fun σ H Q => ta σ H fun x H1 => ∃ c, x = .bl c ∧ if c = true then Q (.bl true) H1 else tb σ H1 Q
def tNotV (ta : TE) : TE := fun σ H Q => ta σ H fun x H1 => ∃ c, x = .bl c ∧ Q (.bl (!c)) H1
theorem pe_one {op} {t : TE} (h : PE X a t) : PE X (.BoolOp op [a] pos) t := fun pins s σ H Q I hw => BoolOp_one (h pins s σ H Q I hw)
theorem pe_and (ha : PE X a ta) (hb : PE X (.BoolOp .And (b :: rest) pos) tb) : PE X (.BoolOp .And (a :: b :: rest) pos) (tAndV ta tb) := by
  intro pins s σ H Q I h
  refine BoolOp_and (thn (ha pins s σ H _ I h) fun v s1 ⟨x, H1, I1, r1, q1⟩ => ?_)
  obtain ⟨c, rfl, q1⟩ := q1
  cases r1
  refine wpAny_truthy_bool ?_
  cases c with
  | true => exact hb pins s1 σ H1 Q I1 q1
  | false => exact ⟨.bl false, H1, I1, rfl, q1⟩
theorem pe_or (ha : PE X a ta) (hb : PE X (.BoolOp .Or (b :: rest) pos) tb) : PE X (.BoolOp .Or (a :: b :: rest) pos) (tOrV ta tb) := by
  intro pins s σ H Q I h
  refine BoolOp_or (thn (ha pins s σ H _ I h) fun v s1 ⟨x, H1, I1, r1, q1⟩ => ?_)
  obtain ⟨c, rfl, q1⟩ := q1
  cases r1
  refine wpAny_truthy_bool ?_
  cases c with
  | false => exact hb pins s1 σ H1 Q I1 q1
  | true => exact ⟨.bl true, H1, I1, rfl, q1⟩
theorem pe_not (ha : PE X a ta) : PE X (.UnaryOp .Not a pos) (tNotV ta) := by
  intro pins s σ H Q I h
  refine UnaryOp_ (thn (ha pins s σ H _ I h) fun v s1 ⟨x, H1, I1, r1, q1⟩ => ?_)
  obtain ⟨c, rfl, q1⟩ := q1
  cases r1
  exact not_of (wpAny_truthy_bool ⟨.bl (!c), H1, I1, rfl, q1⟩)
/-- a if t else b -/
def tIf (t : TT) (ta tb : TE) : TE := fun σ H Q => t σ H fun c H1 => if c = true then ta σ H1 Q else tb σ H1 Q
theorem pe_ifExp {c : Expr} (hc : PT X c tA) (ha : PE X a ta) (hb : PE X b tb) : PE X (.IfExp c a b pos) (tIf tA ta tb) := by
  intro pins s σ H Q I h
  refine wpAny_IfExp (thn (hc pins s σ H _ I h) fun d s1 ⟨H1, I1, q1⟩ => ?_)
  cases d with
  | true => exact ha pins s1 σ H1 Q I1 q1
  | false => exact hb pins s1 σ H1 Q I1 q1
end
end L2

namespace L2
open PySem PySem.Spec PyProof.Rows

/-! ### a list, a tuple that is read: tracked, frozen, or an object of the module -/
def SqL (K : PySem.W.Frag) (H : Hp) (a : Addr) (xs : List V) : Prop :=
  Rd H a (.lst xs) ∨
    ∃ (o : Obj) (its : Array Value) (n : Nat), K.lookup a = some o ∧ o.cls = .type "list" ∧ o.dict = none ∧ o.data = .seq its n ∧ its.size ≤ sizeLine ∧ Vals xs its.toList
def SqT (K : PySem.W.Frag) (H : Hp) (a : Addr) (xs : List V) : Prop :=
  Rd H a (.tup xs) ∨
    ∃ (o : Obj) (its : Array Value) (n : Nat), K.lookup a = some o ∧ o.cls = .type "tuple" ∧ o.data = .seq its n ∧ its.size ≤ sizeLine ∧ Vals xs its.toList
def absV : Value → Option V
  | .none => some .non
  | .bool b => some (.bl b)
  | .int i _ => some (.int i)
  | .str x _ => some (.str x)
  | .bytes b _ => some (.byt b)
  | .float b _ => some (.flt b)
  | .ref a => some (.ref a)
  | .type n => some (.ty n)
  | _ => none
theorem RelV.abs {x : V} {u : Value} (r : RelV x u) : absV u = some x := by
  cases x with
  | non => cases r; rfl
  | bl _ => cases r; rfl
  | int _ => obtain ⟨t, rfl⟩ := r; rfl
  | str _ => obtain ⟨t, rfl⟩ := r; rfl
  | byt _ => obtain ⟨t, rfl⟩ := r; rfl
  | flt _ => obtain ⟨t, rfl⟩ := r; rfl
  | ref _ => cases r; rfl
  | ty _ => cases r; rfl
theorem RelV.inj {x y : V} {u : Value} (r : RelV x u) (q : RelV y u) : x = y := Option.some.inj (r.abs.symm.trans q.abs)
theorem Vals.inj : ∀ {xs ys : List V} {us : List Value}, Vals xs us → Vals ys us → xs = ys
  | _, _, _, .nil, .nil => rfl
  | _, _, _, .cons r t, .cons r' t' => by rw [r.inj r', Vals.inj t t']
section
variable {X : Cx} {pins : List (Addr × Obj)} {σ : St} {H : Hp} {s : Shared} {a : Addr} {xs ys : List V}
theorem SqL.of {K : PySem.W.Frag} (h : H a = some (.lst xs)) : SqL K H a xs := .inl (.inl h)
theorem SqT.of {K : PySem.W.Frag} (h : H a = some (.tup xs)) : SqT K H a xs := .inl (.inl h)
theorem Inv.list (I : Inv X pins σ H s) (h : SqL X.K H a xs) : ∃ its : List Value, Vals xs its ∧ PlainL s.heap a its.toArray ∧ xs.length ≤ sizeLine := by
  rcases h with h | ⟨o, its, n, hk, hc, hd, hs, hz, r⟩
  · obtain ⟨z, its, n, r, e⟩ := h.ok I.hok
    exact ⟨its, r, ⟨_, n, e, rfl, rfl, rfl⟩, z⟩
  · refine ⟨its.toList, r, ⟨o, n, I.kIn a o hk, hc, hd, by simpa using hs⟩, ?_⟩
    have e := r.length
    simp only [Array.length_toList] at e
    omega
theorem Inv.tuple (I : Inv X pins σ H s) (h : SqT X.K H a xs) : ∃ its : List Value, Vals xs its ∧ IsTup s.heap a its.toArray ∧ xs.length ≤ sizeLine := by
  rcases h with h | ⟨o, its, n, hk, hc, hs, hz, r⟩
  · obtain ⟨z, its, r, p⟩ := h.ok I.hok
    exact ⟨its, r, p, z⟩
  · refine ⟨its.toList, r, ⟨o, I.kIn a o hk, hc, n, by simpa using hs⟩, ?_⟩
    have e := r.length
    simp only [Array.length_toList] at e
    omega
theorem Inv.list_inj (I : Inv X pins σ H s) (h : SqL X.K H a xs) (h' : SqL X.K H a ys) : xs = ys := by
  obtain ⟨its, r, ⟨o, n, e, _, _, d⟩, _⟩ := I.list h
  obtain ⟨its', r', ⟨o', n', e', _, _, d'⟩, _⟩ := I.list h'
  rw [e] at e'; cases e'
  rw [d] at d'
  injection d' with d1 _
  have : its = its' := by simpa using congrArg Array.toList d1
  subst this
  exact r.inj r'
theorem Inv.tuple_inj (I : Inv X pins σ H s) (h : SqT X.K H a xs) (h' : SqT X.K H a ys) : xs = ys := by
  obtain ⟨its, r, ⟨o, e, _, n, d⟩, _⟩ := I.tuple h
  obtain ⟨its', r', ⟨o', e', _, n', d'⟩, _⟩ := I.tuple h'
  rw [e] at e'; cases e'
  rw [d] at d'
  injection d' with d1 _
  have : its = its' := by simpa using congrArg Array.toList d1
  subst this
  exact r.inj r'
end

/-! ### another wish about exceptions -/
abbrev Cx.wish (X : Cx) (E : Value → Shared → Prop) : Cx := { X with xe := E }
/-- no exception leaves -/
abbrev Cx.nox (X : Cx) : Cx := X.wish fun _ _ => False
theorem Cx.Ok.wish {X : Cx} (ok : X.Ok) (E : Value → Shared → Prop) : (X.wish E).Ok :=
  ⟨ok.mod, ok.kind, ok.glob, ok.blt, ok.above, ok.inj, ok.has, ok.cab, ok.hd, ok.frames, ok.stk, ok.exf, ok.bs, ok.bsz, ok.noex, ok.exfs, ok.funs, ok.frf⟩
theorem Cx.Ok.unwish {X : Cx} {E : Value → Shared → Prop} (ok : (X.wish E).Ok) : X.Ok :=
  ⟨ok.mod, ok.kind, ok.glob, ok.blt, ok.above, ok.inj, ok.has, ok.cab, ok.hd, ok.frames, ok.stk, ok.exf, ok.bs, ok.bsz, ok.noex, ok.exfs, ok.funs, ok.frf⟩
section
variable {X : Cx} {pins : List (Addr × Obj)} {σ : St} {H : Hp} {s : Shared} {E : Value → Shared → Prop}
theorem Inv.wish (I : Inv X pins σ H s) (E : Value → Shared → Prop) : Inv (X.wish E) pins σ H s := ⟨I.ok.wish E, I.os, I.bare, I.base, I.loc, I.cell, I.free, I.freeC, I.pin, I.hok, I.len⟩
theorem Inv.unwish (I : Inv (X.wish E) pins σ H s) : Inv X pins σ H s := ⟨I.ok.unwish, I.os, I.bare, I.base, I.loc, I.cell, I.free, I.freeC, I.pin, I.hok, I.len⟩
theorem SP.unwish {D : Ends} {f : Flow} {s' : Shared} (h : SP (X.wish E) pins D f s') : SP X pins D f s' := by
  cases f with
  | next => obtain ⟨σ', H', I, q⟩ := h; exact ⟨σ', H', I.unwish, q⟩
  | brk => obtain ⟨σ', H', I, q⟩ := h; exact ⟨σ', H', I.unwish, q⟩
  | cont => obtain ⟨σ', H', I, q⟩ := h; exact ⟨σ', H', I.unwish, q⟩
  | ret u => obtain ⟨v, σ', H', I, r, q⟩ := h; exact ⟨v, σ', H', I.unwish, r, q⟩
theorem PE.nox {e : Expr} {t : TE} (h : PE X.nox e t) : PE X e t := fun pins s σ H Q I hw =>
  wpAny_mono (h pins s σ H Q (I.wish _) hw) (fun _ _ ⟨v, H', I', r, q⟩ => ⟨v, H', I'.unwish, r, q⟩) fun _ _ z => False.elim z
theorem PT.nox {e : Expr} {t : TT} (h : PT X.nox e t) : PT X e t := fun pins s σ H Q I hw =>
  wpAny_mono (h pins s σ H Q (I.wish _) hw) (fun _ _ ⟨H', I', q⟩ => ⟨H', I'.unwish, q⟩) fun _ _ z => False.elim z
theorem PSs.nox {st : List Stmt} {t : TS} (h : PSs X.nox st t) : PSs X st t := fun pins s σ H D I hw =>
  wpAny_mono (h pins s σ H D (I.wish _) hw) (fun _ _ q => q.unwish) fun _ _ z => False.elim z
end

/-! ### blocks and small statements -/
section
variable {X : Cx} {st : Stmt} {rest : List Stmt} {t u : TS} {e : Expr} {te : TE} {pos : Pos}
def tNext : TS := fun D σ H => D.nx σ H
def tSeq (t u : TS) : TS := fun D σ H => t { D with nx := u D } σ H
theorem pss_nil : PSs X [] tNext := fun _ _ σ H _ I h => wpAny_execs_nil ⟨σ, H, I, h⟩
theorem pss_cons (h1 : PS X st t) (h2 : PSs X rest u) : PSs X (st :: rest) (tSeq t u) := by
  intro pins s σ H D I h
  refine wpAny_execs_cons (thn (h1 pins s σ H { D with nx := u D } I h) fun f s1 q => ?_)
  cases f with
  | next =>
    obtain ⟨σ', H', I', q⟩ := q
    exact h2 pins s1 σ' H' D I' q
  | ret v => exact q
  | brk => exact q
  | cont => exact q
theorem pss_one (h1 : PS X st t) : PSs X [st] t := by
  intro pins s σ H D I h
  refine wpAny_execs_cons (thn (h1 pins s σ H D I h) fun f s1 q => ?_)
  cases f with
  | next => exact wpAny_execs_nil q
  | ret v => exact q
  | brk => exact q
  | cont => exact q
def tBreak : TS := fun D σ H => D.bk σ H
def tCont : TS := fun D σ H => D.ct σ H
theorem ps_pass : PS X (.Pass pos) tNext := fun _ _ σ H _ I h => wpAny_Pass ⟨σ, H, I, h⟩
theorem ps_break : PS X (.Break pos) tBreak := fun _ _ σ H _ I h => wpAny_Break ⟨σ, H, I, h⟩
theorem ps_continue : PS X (.Continue pos) tCont := fun _ _ σ H _ I h => wpAny_Continue ⟨σ, H, I, h⟩
/-- in a def's body nothing is shown -/
theorem Inv.quiet {pins : List (Addr × Obj)} {σ : St} {H : Hp} {s : Shared} (I : Inv X pins σ H s) : interactive X.env = false := by simp [interactive, I.ok.kind]
/-- a docstring -/
theorem ps_doc {x j pos pos'} : PS X (.Expr (.Constant (.str x) j pos) pos') tNext := fun _ s σ H _ I h => wpAny_Expr (Calls.Constant_str (show SP X _ _ .next { s with toks := s.toks + 1 } from ⟨σ, H, I.tok _, h⟩)) I.quiet
/-- an expression whose value is dropped -/
def tDrop (te : TE) : TS := fun D σ H => te σ H fun _ H1 => D.nx σ H1
theorem ps_expr (he : PE X e te) (hs : swapsWith e none pos.line X.env = pure false := by rfl) : PS X (.Expr e pos) (tDrop te) := by
  intro pins s σ H D I h
  exact wpAny_Expr_any (thn (he pins s σ H _ I h) fun v s1 ⟨x, H1, I1, r1, q1⟩ => ⟨σ, H1, I1, q1⟩) I.quiet hs
def tRet (te : TE) : TS := fun D σ H => te σ H D.rt
theorem ps_ret (he : PE X e te) : PS X (.Return (some e) pos) (tRet te) := by
  intro pins s σ H D I h
  exact wpAny_Return_some (thn (he pins s σ H _ I h) fun v s1 ⟨x, H1, I1, r1, q1⟩ => ⟨x, σ, H1, I1, r1, q1⟩)
def tRetN : TS := fun D _ H => D.rt .non H
theorem ps_retN : PS X (.Return none pos) tRetN := fun _ _ σ H _ I h => wpAny_Return_none ⟨.non, σ, H, I, rfl, h⟩
def tIfS (c : TT) (t u : TS) : TS := fun D σ H => c σ H fun b H1 => if b = true then t D σ H1 else u D σ H1
theorem ps_if {c : Expr} {a b : List Stmt} {tc : TT} (hc : PT X c tc) (ha : PSs X a t) (hb : PSs X b u) : PS X (.If c a b pos) (tIfS tc t u) := by
  intro pins s σ H D I h
  refine wpAny_If (thn (hc pins s σ H _ I h) fun d s1 ⟨H1, I1, q1⟩ => ?_)
  cases d with
  | true => exact ha pins s1 σ H1 D I1 q1
  | false => exact hb pins s1 σ H1 D I1 q1
/-- code that the proof never comes to -/
def tNever : TS := fun _ _ _ => False
theorem ps_never : PS X st tNever := fun _ _ _ _ _ _ h => h.elim
theorem pss_never {sts : List Stmt} : PSs X sts tNever := fun _ _ _ _ _ _ h => h.elim
end

/-! ### targets -/
abbrev TG := V → St → Hp → (St → Hp → Prop) → Prop
abbrev TGs := List V → St → Hp → (St → Hp → Prop) → Prop
def PG (X : Cx) (target : Expr) (t : TG) : Prop :=
  ∀ (pins : List (Addr × Obj)) (s : Shared) (σ : St) (H : Hp) (v : V) (u : Value) (Q : St → Hp → Prop), Inv X pins σ H s → RelV v u → t v σ H Q →
    wpAny (model X.prog X.w) X.A (assign target X.env u) (fun _ s' => ∃ σ' H', Inv X pins σ' H' s' ∧ Q σ' H') X.xe s
/-- several targets, one after another -/
def PGs (X : Cx) (ts : List Expr) (t : TGs) : Prop :=
  ∀ (pins : List (Addr × Obj)) (s : Shared) (σ : St) (H : Hp) (vs : List V) (us : List Value) (Q : St → Hp → Prop), Inv X pins σ H s → Vals vs us → t vs σ H Q →
    wpAny (model X.prog X.w) X.A (assignInOrder ((assignEach ts X.env).map (·.2)) us) (fun _ s' => ∃ σ' H', Inv X pins σ' H' s' ∧ Q σ' H') X.xe s
/-- o[i] = v, by values -/
abbrev TSet := V → V → V → Hp → (Hp → Prop) → Prop
def PSet (X : Cx) (t : TSet) : Prop :=
  ∀ (pins : List (Addr × Obj)) (s : Shared) (σ : St) (H : Hp) (o i v : V) (ov iv u : Value) (Q : Hp → Prop), Inv X pins σ H s → RelV o ov → RelV i iv → RelV v u → t o i v H Q →
    wpAny (model X.prog X.w) X.A (setItem ov iv u) (fun _ s' => ∃ H', Inv X pins σ H' s' ∧ Q H') X.xe s
/-- a op= b, by values -/
abbrev TIp := V → V → Hp → VK → Prop
def PIp (X : Cx) (op : Operator) (t : TIp) : Prop :=
  ∀ (pins : List (Addr × Obj)) (s : Shared) (σ : St) (H : Hp) (x y : V) (v u : Value) (Q : VK), Inv X pins σ H s → RelV x v → RelV y u → t x y H Q →
    wpAny (model X.prog X.w) X.A (inplaceOp op v u) (EP X pins σ Q) X.xe s
section
variable {X : Cx} {pos : Pos}
def gName (i : Nat) : TG := fun v σ H Q => Q (σ.set i (some v)) H
theorem pg_name {i : Nat} {x : Str} (hN : X.N.Nodup) (hi : X.N[i]? = some x) (hx : Loc X.env.scope x) (hf : X.fn x = true ∨ X.env.scope.names.lookup x = some .local := by first | exact .inl rfl | exact .inr rfl | assumption) : PG X (.Name x pos) (gName i) := by
  intro pins s σ H v u Q I r h
  exact wpAny_assign_Name (store_ok I hN hi hx r (fun s' I' => ⟨_, H, I', h⟩) hf)
def gNil : TGs := fun vs σ H Q => vs = [] ∧ Q σ H
def gCons (t : TG) (u : TGs) : TGs := fun vs σ H Q => ∃ v r, vs = v :: r ∧ t v σ H fun σ' H' => u r σ' H' Q
theorem pgs_nil : PGs X [] gNil := by
  intro pins s σ H vs us Q I r h
  obtain ⟨e, h⟩ := h
  subst e
  cases r
  exact assignInOrder_nil ⟨σ, H, I, h⟩
theorem pgs_cons {e : Expr} {es : List Expr} {t : TG} {u : TGs} (h1 : PG X e t) (h2 : PGs X es u)
    (hs : (assignEach (e :: es) X.env).map (·.2) = assign e X.env :: (assignEach es X.env).map (·.2) := by rfl) : PGs X (e :: es) (gCons t u) := by
  intro pins s σ H vs us Q I r h
  obtain ⟨v, vr, e1, h⟩ := h
  subst e1
  cases r with
  | cons r rr =>
    rw [hs]
    refine assignInOrder_cons (thn (h1 pins s σ H _ _ _ I r h) fun _ s1 ⟨σ1, H1, I1, q1⟩ => ?_)
    exact h2 pins s1 σ1 H1 _ _ Q I1 rr q1
/-- (a, b, ..) = a tuple of that length -/
def gTup (K : PySem.W.Frag) (n : Nat) (t : TGs) : TG := fun v σ H Q => ∃ a xs, v = .ref a ∧ SqT K H a xs ∧ xs.length = n ∧ t xs σ H Q
theorem pg_tup {es : List Expr} {k : Nat} {t : TGs} {n : Nat} (hc : X.calm = true) (h : PGs X es t)
    (hn : (assignEach es X.env).length = n := by rfl) (hst : (assignEach es X.env).findIdx? (·.1) = none := by rfl) : PG X (.Tuple es k pos) (gTup X.K n t) := by
  intro pins s σ H v u Q I r hw
  obtain ⟨a, xs, e1, hq, hl, hw⟩ := hw
  subst e1
  cases r
  obtain ⟨its, rv, ht, hz⟩ := I.tuple hq
  refine assign_Tuple_tuple (I.ok.hd hc) ht (by simp [hn, ← hl, rv.length]) hst fun h' hx => ?_
  have I1 : Inv X pins σ H { s with heap := h' } := I.kept (t' := s.toks) fun b o e => hx b o (Nat.ne_of_lt (Heap.lt_size e)) e
  exact h pins _ σ H xs _ Q I1 (by simpa using rv) hw
/-- o[i] = .. -/
def gSub (to ti : TE) (t : TSet) : TG := fun v σ H Q => to σ H fun o H1 => ti σ H1 fun i H2 => t o i v H2 fun H3 => Q σ H3
theorem pg_sub {o i : Expr} {to ti : TE} {t : TSet} (ho : PE X o to) (hi : PE X i ti) (hs : PSet X t)
    (ha : ∀ v, assign (.Subscript o i pos) X.env v = (do
      let ov ← holding [v] (eval o X.env)
      let iv ← holding [v, ov] (eval i X.env)
      standAt pos
      holding [v, ov, iv] (setItem ov iv v)
      release [v, ov, iv] []) := by intro _; rfl) : PG X (.Subscript o i pos) (gSub to ti t) := by
  intro pins s σ H v u Q I r h
  rw [ha]
  refine wpAny_bind (wpAny_holding (thn (ho pins s σ H _ I h) fun ov s1 ⟨x, H1, I1, r1, q1⟩ => ?_))
  refine wpAny_bind (wpAny_holding (thn (hi pins s1 σ H1 _ I1 q1) fun iv s2 ⟨y, H2, I2, r2, q2⟩ => ?_))
  refine wpAny_bind (wpAny_standAt (wpAny_bind (wpAny_holding (thn (hs pins s2 σ H2 x y v ov iv u _ I2 r1 r2 r q2) fun _ s3 ⟨H3, I3, q3⟩ => ?_))))
  exact wpAny_release ⟨σ, H3, I3, q3⟩
/-- target = value -/
def tAsg (te : TE) (g : TG) : TS := fun D σ H => te σ H fun x H1 => g x σ H1 D.nx
theorem ps_asg {tg e : Expr} {te : TE} {g : TG} (he : PE X e te) (hg : PG X tg g) (hs : swapsWithSole [tg] e pos.line X.env = pure false := by rfl) (hw : swappedStores [tg] e X.env = pure none := by rfl)
    (h1 : (assignEach [tg] X.env).map (·.2) = [assign tg X.env] := by rfl) : PS X (.Assign [tg] e pos) (tAsg te g) := by
  intro pins s σ H D I h
  refine wpAny_Assign_stores (thn (he pins s σ H _ I h) fun v s1 ⟨x, H1, I1, r1, q1⟩ => ?_) hs hw
  rw [h1]
  exact thn (hg pins s1 σ H1 x v _ I1 r1 q1) fun _ s2 q => q
/-- name = value -/
theorem ps_set {i : Nat} {x : Str} {e : Expr} {te : TE} {pos' : Pos} (hN : X.N.Nodup) (hi : X.N[i]? = some x) (hx : Loc X.env.scope x) (he : PE X e te) (hs : swapsWith e (some (.Name x pos')) pos.line X.env = pure false := by rfl) (hf : X.fn x = true ∨ X.env.scope.names.lookup x = some .local := by first | exact .inl rfl | exact .inr rfl | assumption) :
    PS X (.Assign [.Name x pos'] e pos) (tAsg te (gName i)) := by
  intro pins s σ H D I h
  refine wpAny_Assign_Name (thn (he pins s σ H _ I h) fun v s1 ⟨y, H1, I1, r1, q1⟩ => ?_) hs
  exact store_ok I1 hN hi hx r1 (fun s2 I2 => ⟨_, H1, I2, q1⟩) hf
/-- a, b = x, y with plain local names: stored from the right; the pair itself is not tracked (the opening rows as in PyProof/Rows/TupAssign.lean:23) -/
def tPar (i j : Nat) (ta : TA) : TS := fun D σ H => ta σ H fun vs H1 => ∃ v w, vs = [v, w] ∧ D.nx ((σ.set i (some v)).set j (some w)) H1
theorem ps_par {i j : Nat} {x y : Str} {a b : Expr} {ta : TA} {px py pt : Pos} {kt k2 pt2} (hc : X.calm = true) (hN : X.N.Nodup) (hi : X.N[i]? = some x) (hj : X.N[j]? = some y) (hij : i ≠ j)
    (hx : X.env.scope.names.lookup x = some .local) (hy : X.env.scope.names.lookup y = some .local) (ha : PA X [a, b] ta)
    (hw : swappedStores [.Tuple [.Name x px, .Name y py] kt pt] (.Tuple [a, b] k2 pt2) X.env = pure (some [x, y]))
    (hs : swapsWithSole [.Tuple [.Name x px, .Name y py] kt pt] (.Tuple [a, b] k2 pt2) pos.line X.env = pure false := by rfl) :
    PS X (.Assign [.Tuple [.Name x px, .Name y py] kt pt] (.Tuple [a, b] k2 pt2) pos) (tPar i j ta) := by
  intro pins s σ H D I h
  rw [exec_Assign_arm]
  refine wpAny_bind (wpAny_standAt ?_)
  rw [hs]
  refine wpAny_bind (wpAny_pure ?_)
  rw [if_neg (by decide)]
  refine wpAny_bind (Tuple_ (thn (ha _ pins s σ H _ I h) fun us s1 ⟨vs, H1, I1, r1, q1⟩ => ?_))
  obtain ⟨v, w, e1, q1⟩ := q1
  subst e1
  obtain ⟨u1, u2, rfl, rv, rw'⟩ : ∃ u1 u2, us = [u1, u2] ∧ RelV v u1 ∧ RelV w u2 := by
    cases r1 with
    | cons p q =>
      cases q with
      | cons p' q' =>
        cases q'
        exact ⟨_, _, rfl, p, p'⟩
  refine wpAny_newObj_type ?_ (by show 2 ≤ sizeLine; decide)
  have I2 : Inv X pins σ H1 { s1 with heap := s1.heap.push { cls := .type "tuple", data := .seq [u1, u2].toArray } } := I1.kept (t' := s1.toks) fun b o e => Heap.get?_push_of_some _ e
  rw [hw]
  refine wpAny_bind (wpAny_pure ?_)
  show wpAny (model X.prog X.w) X.A (do rule "assign.swapped-stores"; let items ← unpackItems (.ref s1.heap.objs.size) 2 none; assignInOrder [fun v => bindName X.env y v, fun v => bindName X.env x v] items.reverse; pure Flow.next) _ _ _
  refine wpAny_bind (wpAny_rule (wpAny_bind (unpackItems_tuple (items := #[u1, u2]) (I.ok.hd hc) (IsTup.new s1.heap _) fun h' hx' => ?_)))
  have I3 := I2.kept (h' := h') (t' := s1.toks) fun b o e => hx' b o (Nat.ne_of_lt (Heap.lt_size e)) e
  show wpAny _ _ (assignInOrder [fun v => bindName X.env y v, fun v => bindName X.env x v] [u2, u1] >>= fun _ => pure Flow.next) _ _ _
  refine wpAny_bind (assignInOrder_cons (wpAny_bindName (store_ok I3 hN hj (.inl hy) rw' (fun s2 I4 => ?_) (.inr hy))))
  refine assignInOrder_cons (wpAny_bindName (store_ok I4 hN hi (.inl hx) rv (fun s3 I5 => assignInOrder_nil (wpAny_pure ?_)) (.inr hx)))
  rw [List.set_comm _ _ (Ne.symm hij)] at I5
  exact ⟨_, H1, I5, q1⟩
/-- name op= e -/
def tAug (i : Nat) (te : TE) (ti : TIp) : TS := fun D σ H => ∃ x, σ[i]? = some (some x) ∧ te σ H fun y H1 => ti x y H1 fun z H2 => D.nx (σ.set i (some z)) H2
theorem ps_aug {i : Nat} {x : Str} {e : Expr} {te : TE} {op : Operator} {ti : TIp} {pos' : Pos} (hN : X.N.Nodup) (hi : X.N[i]? = some x) (hx : Loc X.env.scope x) (he : PE X e te) (ho : PIp X op ti) (hf : X.fn x = true ∨ X.env.scope.names.lookup x = some .local := by first | exact .inl rfl | exact .inr rfl | assumption) :
    PS X (.AugAssign (.Name x pos') op e pos) (tAug i te ti) := by
  intro pins s σ H D I h
  obtain ⟨v, e1, h⟩ := h
  obtain ⟨m, hn, hl⟩ := I.loc
  have vis : Vis X.env.scope x := by rcases hx with k | k; exact .inl k; exact .inr (.inl k)
  obtain ⟨u, r, l⟩ := hl i x v hi e1 vis
  refine wpAny_AugAssign_Name ?_
  have go : wpAny (model X.prog X.w) X.A (eval e X.env) (fun w s₂ => wpAny (model X.prog X.w) X.A (inplaceOp op u w) (fun r s₃ => wpAny (model X.prog X.w) X.A (storeName X.env x r) (fun _ => SP X pins D .next) X.xe s₃) X.xe s₂) X.xe s := by
    refine thn (he pins s σ H _ I h) fun w s1 ⟨y, H1, I1, r1, q1⟩ => ?_
    refine thn (ho pins s1 σ H1 v y u w _ I1 r r1 q1) fun z s2 ⟨zv, H2, I2, r2, q2⟩ => ?_
    exact store_ok I2 hN hi hx r2 (fun s3 I3 => ⟨_, H2, I3, q2⟩) hf
  rcases l with ⟨hk, hm⟩ | ⟨hk, c, hc, hcell⟩
  · exact wpAny_loadName_local I.ok.kind hk hn hm go
  · rcases hk with hk | hk
    · exact wpAny_loadName_cell I.ok.kind hk hc hcell go
    · rcases hx with k | k
      · have : X.env.scope.names.lookup x = some .free := hk
        rw [k] at this; cases this
      · have : X.env.scope.names.lookup x = some .free := hk
        rw [k] at this; cases this
/-- o[i] op= e -/
def tAugS (to ti te : TE) (tget : V → V → Hp → VK → Prop) (tip : TIp) (tset : TSet) : TS := fun D σ H => to σ H fun o H1 => ti σ H1 fun i H2 => tget o i H2 fun x H3 => te σ H3 fun y H4 => tip x y H4 fun z H5 => tset o i z H5 fun H6 => D.nx σ H6
/-- o[i], by values -/
def PGet (X : Cx) (t : V → V → Hp → VK → Prop) : Prop :=
  ∀ (pins : List (Addr × Obj)) (s : Shared) (σ : St) (H : Hp) (o i : V) (ov iv : Value) (Q : VK), Inv X pins σ H s → RelV o ov → RelV i iv → t o i H Q →
    wpAny (model X.prog X.w) X.A (getItem ov iv) (EP X pins σ Q) X.xe s
theorem ps_augS {o i e : Expr} {to ti te : TE} {tget : V → V → Hp → VK → Prop} {tip : TIp} {tset : TSet} {op : Operator} {tpos : Pos} (ho : PE X o to) (hi : PE X i ti) (hg : PGet X tget) (he : PE X e te) (hp : PIp X op tip) (hs : PSet X tset)
    (ha : ∀ ov iv new, augStore i ov iv new = (do holding [new, ov, iv] (setItem ov iv new); release [new, ov, iv] []; pure .next) := by intros; rfl) : PS X (.AugAssign (.Subscript o i tpos) op e pos) (tAugS to ti te tget tip tset) := by
  intro pins s σ H D I h
  refine wpAny_AugAssign_SubscriptAny (thn (ho pins s σ H _ I h) fun ov s1 ⟨x1, H1, I1, r1, q1⟩ => ?_) ha
  refine thn (hi pins s1 σ H1 _ I1 q1) fun iv s2 ⟨x2, H2, I2, r2, q2⟩ => ?_
  refine thn (hg pins s2 σ H2 x1 x2 ov iv _ I2 r1 r2 q2) fun old s3 ⟨x3, H3, I3, r3, q3⟩ => ?_
  refine thn (he pins s3 σ H3 _ I3 q3) fun v s4 ⟨x4, H4, I4, r4, q4⟩ => ?_
  refine thn (hp pins s4 σ H4 x3 x4 old v _ I4 r3 r4 q4) fun new s5 ⟨x5, H5, I5, r5, q5⟩ => ?_
  exact thn (hs pins s5 σ H5 x1 x2 x5 ov iv new _ I5 r1 r2 r5 q5) fun _ s6 ⟨H6, I6, q6⟩ => ⟨σ, H6, I6, q6⟩
/-- ints -/
def ipI (f : Int → Int → Int) : TIp := fun x y H Q => ∃ i j, x = .int i ∧ y = .int j ∧ Q (.int (f i j)) H
theorem ip_add : PIp X .Add (ipI fun i j => i + j) := by
  intro pins s σ H x y v u Q I r1 r2 h
  obtain ⟨i, j, e1, e2, q⟩ := h
  subst e1; subst e2
  obtain ⟨t, rfl⟩ := r1
  obtain ⟨t', rfl⟩ := r2
  exact iadd_int ⟨.int _, H, I.tok _, ⟨_, rfl⟩, q⟩
theorem ip_sub : PIp X .Sub (ipI fun i j => i - j) := by
  intro pins s σ H x y v u Q I r1 r2 h
  obtain ⟨i, j, e1, e2, q⟩ := h
  subst e1; subst e2
  obtain ⟨t, rfl⟩ := r1
  obtain ⟨t', rfl⟩ := r2
  exact isub_int ⟨.int _, H, I.tok _, ⟨_, rfl⟩, q⟩
end

/-! ### while -/
section
variable {X : Cx} {pos : Pos}
/-- the invariant W with its measure -/
def tWhile (c : TT) (tb : TS) : TS := fun D σ H => ∃ W : Nat → St → Hp → Prop, (∃ m, W m σ H) ∧ ∀ m σ H, W m σ H →
  c σ H fun b H1 => if b = true then ∃ N : St → Hp → Prop, (∀ σ' H', N σ' H' → ∃ m', m' < m ∧ W m' σ' H') ∧ tb { D with nx := N, ct := N, bk := D.nx } σ H1 else D.nx σ H1
theorem ps_while {c : Expr} {body : List Stmt} {tc : TT} {tb : TS} (hp : PassesOwn (model X.prog X.w) X.A X.env X.xe) (hc : PT X c tc) (hb : PSs X body tb) : PS X (.While c body [] pos) (tWhile tc tb) := by
  intro pins s σ H D I h
  obtain ⟨W, ⟨m0, w0⟩, turn⟩ := h
  refine wpAny_While (codeAny_whileLoop (fun n s' => ∃ σ' H', Inv X pins σ' H' s' ∧ W n σ' H') ?_ m0 ⟨σ, H, I, w0⟩)
  rintro n s1 ⟨σ1, H1, I1, w1⟩
  refine wpAny_passesOwn hp (thn (hc pins s1 σ1 H1 _ I1 (turn n σ1 H1 w1)) fun b s2 ⟨H2, I2, q2⟩ => ?_)
  cases b with
  | true =>
    obtain ⟨N, hN, q2⟩ := q2
    rw [if_pos rfl]
    refine wpAny_passesOwn hp (thn (hb pins s2 σ1 H2 _ I2 q2) fun f s3 q3 => ?_)
    cases f with
    | next =>
      obtain ⟨σ3, H3, I3, n3⟩ := q3
      obtain ⟨m', hm, w3⟩ := hN σ3 H3 n3
      exact ⟨m', hm, σ3, H3, I3, w3⟩
    | cont =>
      obtain ⟨σ3, H3, I3, n3⟩ := q3
      obtain ⟨m', hm, w3⟩ := hN σ3 H3 n3
      exact ⟨m', hm, σ3, H3, I3, w3⟩
    | brk => exact q3
    | ret v => exact q3
  | false =>
    rw [if_neg Bool.false_ne_true]
    exact wpAny_execs_nil ⟨σ1, H2, I2, q2⟩
end

/-! ### what a loop or a comprehension walks -/
/-- at turn i: it yields x (the heap may grow), or it stops -/
structure It where
  go : Nat → Hp → Prop
  yld : Nat → Hp → V → Hp → Prop
  stop : Nat → Hp → Prop
/-- the iterator's own objects may turn: they are not the frame's, not pinned, younger than the entry (or a comprehension's own) -/
def FpOk (X : Cx) (pins : List (Addr × Obj)) (H : Hp) (b : Addr) : Prop :=
  H b = none ∧ b ≠ X.env.locals ∧ b ∉ X.fs ∧ (b ∈ X.ex ∨ X.s₀.heap.objs.size ≤ b) ∧ (∀ x c, X.env.cells.lookup x = some c → c ≠ b) ∧ ∀ p ∈ X.pn ++ pins, p.1 ≠ b
theorem Inv.fpOk {X : Cx} {pins : List (Addr × Obj)} {σ : St} {H H' : Hp} {s : Shared} {b : Addr} (I : Inv X pins σ H s) (hb : s.heap.objs.size ≤ b) (hn : H' b = none) : FpOk X pins H' b := by
  refine ⟨hn, Nat.ne_of_gt (Nat.lt_of_lt_of_le I.lt hb), I.nofs hb, .inr (Nat.le_trans I.sz hb), fun x c e z => ?_, fun p hp z => ?_⟩
  · obtain ⟨v, q⟩ := I.cell x c e
    exact absurd (Nat.lt_of_lt_of_le q.lt (by rw [z]; exact hb)) (Nat.lt_irrefl _)
  · exact absurd (Nat.lt_of_lt_of_le (Heap.lt_size (I.pin p hp).1) (by rw [z]; exact hb)) (Nat.lt_irrefl _)
structure Turn (P : Program) (w : World) (K : PySem.W.Frag) (tg : Expr) (J : It) (fp : List Addr) (it : Addr) (tn : Nat → Heap → Prop) : Prop where
  mem : it ∈ fp
  obj : ∀ i h, tn i h → ∀ b ∈ fp, ∃ o, h.get? b = some o ∧ ∀ v, o.data ≠ .cell v
  keep : ∀ i h h', tn i h → (∀ b ∈ fp, ∀ o, h.get? b = some o → h'.get? b = some o) → tn i h'
  item : ∀ (X : Cx), X.prog = P → X.w = w → X.K = K → X.calm = true → ∀ (i : Nat) (pins : List (Addr × Obj)) (s : Shared) (σ : St) (H : Hp) (E : Value → Shared → Prop), Inv X pins σ H s → (∀ b ∈ fp, FpOk X pins H b) → tn i s.heap → J.go i H →
    wpAny (model P w) X.A (pyNext (.ref it)) (fun r s1 => ∃ u, r = some u ∧
      wpAny (model P w) X.A (letOwnedTupleGo tg (.ref it) u) (fun _ s2 => ∃ x H', Inv X pins σ H' s2 ∧ RelV x u ∧ J.yld i H x H' ∧ tn (i + 1) s2.heap ∧ ∀ b ∈ fp, H' b = none) E s1) E s
  done : ∀ (X : Cx), X.prog = P → X.w = w → X.K = K → X.calm = true → ∀ (i : Nat) (pins : List (Addr × Obj)) (s : Shared) (σ : St) (H : Hp) (E : Value → Shared → Prop), Inv X pins σ H s → (∀ b ∈ fp, FpOk X pins H b) → tn i s.heap → J.stop i H →
    wpAny (model P w) X.A (pyNext (.ref it)) (fun r s1 => r = none ∧ Inv X pins σ H s1) E s
  self : ∀ (A : Around) (i : Nat) (s : Shared) (Q : Value → Shared → Prop) (E : Value → Shared → Prop), tn i s.heap → Q (.ref it) s → wpAny (model P w) A (pyIter (.ref it)) Q E s
abbrev TI := St → Hp → (It → Hp → Prop) → Prop
/-- an iterator has come -/
def PIE (X : Cx) (pins : List (Addr × Obj)) (σ : St) (tg : Expr) (R : It → Hp → Prop) (itv : Value) (s2 : Shared) : Prop :=
  ∃ (it : Addr) (fp : List Addr) (tn : Nat → Heap → Prop) (J : It) (H' : Hp), itv = .ref it ∧ Inv X pins σ H' s2 ∧ Turn X.prog X.w X.K tg J fp it tn ∧ tn 0 s2.heap ∧ (∀ b ∈ fp, FpOk X pins H' b) ∧ R J H'
def PI (X : Cx) (tg iter : Expr) (wi : TI) : Prop :=
  ∀ (pins : List (Addr × Obj)) (s : Shared) (σ : St) (H : Hp) (R : It → Hp → Prop), Inv X pins σ H s → wi σ H R →
    wpAny (model X.prog X.w) X.A (eval iter X.env) (fun v s1 => wpAny (model X.prog X.w) X.A (pyIter v) (PIE X pins σ tg R) X.xe s1) X.xe s

/-- the step ahead of the store is nothing for an iterator that keeps no tuple -/
theorem go_of {M : Model} {A : Around} {E : Value → Shared → Prop} {s : Shared} {tg : Expr} {it : Addr} {u : Value} {o : Obj} {n : String} {vs : Array Value} {Q : Unit → Shared → Prop} (ho : s.heap.get? it = some o) (hc : o.cls = .type n) (hd : o.data = .fields vs)
    (hn : ["enumerate", "zip", "dict_itemiterator", "dict_reverseitemiterator", "odict_iterator", "itertools.zip_longest", "itertools.pairwise"].contains n = false) (hQ : Q () s) : wpAny M A (letOwnedTupleGo tg (.ref it) u) Q E s := by
  unfold letOwnedTupleGo
  cases tg <;> first
    | exact wpAny_pure hQ
    | (cases u <;> first
        | exact wpAny_pure hQ
        | (refine wpAny_bind (wpAny_load ho ?_)
           rw [hc, hd]
           show wpAny M A (if (["enumerate", "zip", "dict_itemiterator", "dict_reverseitemiterator", "odict_iterator", "itertools.zip_longest", "itertools.pairwise"].contains n && vs[0]? == some (rawInt _)) = true then _ else _) Q E s
           rw [if_neg (by intro h; rw [hn, Bool.false_and] at h; cases h)]
           exact wpAny_pure hQ))

/-- the list at a, as it stands at each turn (a loop may append to it) -/
def Itl (K : PySem.W.Frag) (a : Addr) : It :=
  ⟨fun i H => ∃ xs x, SqL K H a xs ∧ xs[i]? = some x, fun i H x H' => H' = H ∧ ∀ xs, SqL K H a xs → xs[i]? = some x, fun i H => ∃ xs, SqL K H a xs ∧ xs.length ≤ i⟩
def Itt (K : PySem.W.Frag) (a : Addr) : It :=
  ⟨fun i H => ∃ xs x, SqT K H a xs ∧ xs[i]? = some x, fun i H x H' => H' = H ∧ ∀ xs, SqT K H a xs → xs[i]? = some x, fun i H => ∃ xs, SqT K H a xs ∧ xs.length ≤ i⟩
/-- lo, lo + 1, .. (n of them) -/
def Itr (lo : Int) (n : Nat) : It := ⟨fun i _ => i < n, fun i H x H' => H' = H ∧ x = .int (lo + i), fun i _ => n ≤ i⟩
theorem turn_list {P : Program} {w : World} {K : PySem.W.Frag} {tg : Expr} (a it : Addr) : Turn P w K tg (Itl K a) [it] it (fun i h => h.IsListIter it a i) where
  mem := by simp
  obj := fun i h st b hb => by
    have e : b = it := by simpa using hb
    subst e
    obtain ⟨o, e, c, d⟩ := st
    exact ⟨o, e, fun v z => by rw [d] at z; cases z⟩
  keep := fun i h h' st k => st.at fun o e => k it (by simp) o e
  item := by
    intro X hP hw hK hc i pins s σ H E I hf st hg
    subst hP hw hK
    obtain ⟨xs, x, hq, hx⟩ := hg
    obtain ⟨its, rv, p, hz⟩ := I.list hq
    obtain ⟨u, hu, ru⟩ := rv.get hx
    obtain ⟨f0, f1, f2, f3, f4, f5⟩ := hf it (by simp)
    refine wpAny_pyNext_list_item st p.isList (x := u) (by simpa using hu) fun h' st' sb => ?_
    have I1 : Inv X pins σ H { s with heap := h' } := I.turned (t' := s.toks) (fun b o hb e => (sb.2 b hb).trans e) f0 f1 f3 f4 f5
    obtain ⟨o, e, c, d⟩ := id st'
    exact ⟨u, rfl, go_of (s := { s with heap := h' }) e c d (by decide) ⟨x, H, I1, ru, ⟨rfl, fun ys hy => by rw [I.list_inj hy hq]; exact hx⟩, st', fun b hb => (hf b hb).1⟩⟩
  done := by
    intro X hP hw hK hc i pins s σ H E I hf st hg
    subst hP hw hK
    obtain ⟨xs, hq, hx⟩ := hg
    obtain ⟨its, rv, p, hz⟩ := I.list hq
    obtain ⟨f0, f1, f2, f3, f4, f5⟩ := hf it (by simp)
    have hl := rv.length
    exact wpAny_pyNext_list_end (I.ok.hd hc) st p.isList (by simp; omega) fun h' eb => ⟨rfl, I.turned (t' := s.toks) (fun b o hb e => eb b o hb e) f0 f1 f3 f4 f5⟩
  self := fun _ _ _ _ _ st h => wpAny_pyIter_listiter st h
theorem turn_tuple {P : Program} {w : World} {K : PySem.W.Frag} {tg : Expr} (a it : Addr) : Turn P w K tg (Itt K a) [it] it (fun i h => h.IsTupleIter it a i) where
  mem := by simp
  obj := fun i h st b hb => by
    have e : b = it := by simpa using hb
    subst e
    obtain ⟨o, e, c, d⟩ := st
    exact ⟨o, e, fun v z => by rw [d] at z; cases z⟩
  keep := fun i h h' st k => st.at fun o e => k it (by simp) o e
  item := by
    intro X hP hw hK hc i pins s σ H E I hf st hg
    subst hP hw hK
    obtain ⟨xs, x, hq, hx⟩ := hg
    obtain ⟨its, rv, p, hz⟩ := I.tuple hq
    obtain ⟨u, hu, ru⟩ := rv.get hx
    obtain ⟨f0, f1, f2, f3, f4, f5⟩ := hf it (by simp)
    refine wpAny_pyNext_tuple_item st (show s.heap.IsTuple a its.toArray from p) (x := u) (by simpa using hu) fun h' st' sb => ?_
    have I1 : Inv X pins σ H { s with heap := h' } := I.turned (t' := s.toks) (fun b o hb e => (sb.2 b hb).trans e) f0 f1 f3 f4 f5
    obtain ⟨o, e, c, d⟩ := id st'
    exact ⟨u, rfl, go_of (s := { s with heap := h' }) e c d (by decide) ⟨x, H, I1, ru, ⟨rfl, fun ys hy => by rw [I.tuple_inj hy hq]; exact hx⟩, st', fun b hb => (hf b hb).1⟩⟩
  done := by
    intro X hP hw hK hc i pins s σ H E I hf st hg
    subst hP hw hK
    obtain ⟨xs, hq, hx⟩ := hg
    obtain ⟨its, rv, p, hz⟩ := I.tuple hq
    obtain ⟨f0, f1, f2, f3, f4, f5⟩ := hf it (by simp)
    have hl := rv.length
    exact wpAny_pyNext_tuple_end (I.ok.hd hc) st (show s.heap.IsTuple a its.toArray from p) (by simp; omega) fun h' eb => ⟨rfl, I.turned (t' := s.toks) (fun b o hb e => eb b o hb e) f0 f1 f3 f4 f5⟩
  self := fun _ _ _ _ _ st h => wpAny_pyIter_tupleiter st h
theorem turn_range {P : Program} {w : World} {K : PySem.W.Frag} {tg : Expr} (it : Addr) (lo : Int) (n : Nat) : Turn P w K tg (Itr lo n) [it] it (fun i h => IsRangeIter h it (lo + (i : Nat) * 1) ((n : Int) - (i : Nat)) 1) where
  mem := by simp
  obj := fun i h st b hb => by
    have e : b = it := by simpa using hb
    subst e
    exact ⟨_, st, fun v z => by
      have z' : Data.fields _ = Data.cell v := z
      cases z'⟩
  keep := fun i h h' st k => k it (by simp) _ st
  item := by
    intro X hP hw hK hc i pins s σ H E I hf st hg
    subst hP hw hK
    obtain ⟨f0, f1, f2, f3, f4, f5⟩ := hf it (by simp)
    have W := Walks.range (prog := X.prog) (w := X.w) (I.ok.hd hc) it lo 1 n
    refine W.item i s _ _ hg st fun v h' tk hv st' kk => ?_
    obtain ⟨t, rfl⟩ := hv
    have I1 : Inv X pins σ H { s with heap := h', toks := tk } := I.turned (fun b o hb e => kk b o (by simpa using hb) e) f0 f1 f3 f4 f5
    refine ⟨_, rfl, go_of (s := { s with heap := h', toks := tk }) (n := "range_iterator") st' rfl rfl (by decide) ⟨.int (lo + i), H, I1, ⟨t, ?_⟩, ⟨rfl, rfl⟩, st', fun b hb => (hf b hb).1⟩⟩
    rw [Int.mul_one]
  done := by
    intro X hP hw hK hc i pins s σ H E I hf st hg
    subst hP hw hK
    obtain ⟨f0, f1, f2, f3, f4, f5⟩ := hf it (by simp)
    exact wpAny_pyNext_range_end (I.ok.hd hc) st (by have : n ≤ i := hg; omega) fun h' eb => ⟨rfl, I.turned (t' := s.toks) (fun b o hb e => eb b o hb e) f0 f1 f3 f4 f5⟩
  self := fun _ _ _ _ _ st h => wpAny_pyIter_rangeiter st h
end L2

namespace L2
open PySem PySem.Spec PyProof.Rows
section
variable {X : Cx} {tg : Expr}
def iList (K : PySem.W.Frag) (tl : TE) : TI := fun σ H R => tl σ H fun x H1 => ∃ a, x = .ref a ∧ (∃ xs, SqL K H1 a xs) ∧ R (Itl K a) H1
def iTup (K : PySem.W.Frag) (tl : TE) : TI := fun σ H R => tl σ H fun x H1 => ∃ a, x = .ref a ∧ (∃ xs, SqT K H1 a xs) ∧ R (Itt K a) H1
theorem pi_list {l : Expr} {tl : TE} (hl : PE X l tl) : PI X tg l (iList X.K tl) := by
  intro pins s σ H R I h
  refine thn (hl pins s σ H _ I h) fun v s1 ⟨x, H1, I1, r1, q1⟩ => ?_
  obtain ⟨a, e, ⟨xs, hq⟩, q⟩ := q1
  subst e
  cases r1
  obtain ⟨its, rv, p, hz⟩ := I1.list hq
  refine wpAny_pyIter_list p.isList ?_
  refine ⟨s1.heap.objs.size, [s1.heap.objs.size], _, _, H1, rfl, I1.kept (t' := s1.toks) fun b o e => Heap.get?_push_of_some _ e, turn_list a _, ⟨_, Heap.get?_push_size _ rfl, rfl, rfl⟩, fun b hb => ?_, q⟩
  have e : b = s1.heap.objs.size := by simpa using hb
  subst e
  exact I1.fpOk (Nat.le_refl _) (I1.hok.fresh (Nat.le_refl _))
theorem pi_tup {l : Expr} {tl : TE} (hl : PE X l tl) : PI X tg l (iTup X.K tl) := by
  intro pins s σ H R I h
  refine thn (hl pins s σ H _ I h) fun v s1 ⟨x, H1, I1, r1, q1⟩ => ?_
  obtain ⟨a, e, ⟨xs, hq⟩, q⟩ := q1
  subst e
  cases r1
  obtain ⟨its, rv, p, hz⟩ := I1.tuple hq
  refine wpAny_pyIter_tuple (show s1.heap.IsTuple a its.toArray from p) ?_
  refine ⟨s1.heap.objs.size, [s1.heap.objs.size], _, _, H1, rfl, I1.kept (t' := s1.toks) fun b o e => Heap.get?_push_of_some _ e, turn_tuple a _, ⟨_, Heap.get?_push_size _ rfl, rfl, rfl⟩, fun b hb => ?_, q⟩
  have e : b = s1.heap.objs.size := by simpa using hb
  subst e
  exact I1.fpOk (Nat.le_refl _) (I1.hok.fresh (Nat.le_refl _))
/-- a range object just made, walked -/
theorem range_it {pins : List (Addr × Obj)} {σ : St} {H : Hp} {s : Shared} {R : It → Hp → Prop} {E : Value → Shared → Prop} {lo hi : Int} {t u v : Tok} {tk : Nat} (I : Inv X pins σ H s) (h1 : -(2 ^ 62) ≤ lo) (h2 : lo < 2 ^ 62) (h3 : -(2 ^ 62) ≤ hi) (h4 : hi < 2 ^ 62)
    (q : R (Itr lo (hi - lo).toNat) H) : wpAny (model X.prog X.w) X.A (pyIter (.ref s.heap.objs.size)) (PIE X pins σ tg R) E { s with heap := s.heap.push { cls := .type "range", data := .fields #[.int lo t, .int hi u, .int 1 v] }, toks := tk } := by
  refine wpAny_pyIter_range (IsRange.new ..) (small_one h1 h2 h3 h4) ?_
  have I1 : Inv X pins σ H { s with heap := s.heap.push { cls := .type "range", data := .fields #[.int lo t, .int hi u, .int 1 v] }, toks := tk } := I.kept fun b o e => Heap.get?_push_of_some _ e
  refine ⟨(s.heap.push { cls := .type "range", data := .fields #[.int lo t, .int hi u, .int 1 v] }).objs.size, [(s.heap.push { cls := .type "range", data := .fields #[.int lo t, .int hi u, .int 1 v] }).objs.size], _, _, H, rfl,
    I1.kept (t' := tk) fun b o e => Heap.get?_push_of_some _ e, turn_range _ lo (hi - lo).toNat, ?_, fun b hb => ?_, q⟩
  · have e1 : lo + ((0 : Nat) : Int) * 1 = lo := by simp
    have e2 : (((hi - lo).toNat : Nat) : Int) - ((0 : Nat) : Int) = Builtin.Range.rangeSize lo hi 1 := by rw [rangeSize_one]; split <;> omega
    show IsRangeIter _ _ (lo + ((0 : Nat) : Int) * 1) ((((hi - lo).toNat : Nat) : Int) - ((0 : Nat) : Int)) 1
    rw [e1, e2]
    exact Heap.get?_push_size _ rfl
  · have e : b = (s.heap.push { cls := .type "range", data := .fields #[.int lo t, .int hi u, .int 1 v] }).objs.size := by simpa using hb
    subst e
    exact I1.fpOk (Nat.le_refl _) (I1.hok.fresh (Nat.le_refl _))
def iRng1 (ta : TA) : TI := fun σ H R => ta σ H fun vs H1 => ∃ j : Int, vs = [.int j] ∧ -(2 ^ 62) ≤ j ∧ j < 2 ^ 62 ∧ R (Itr 0 j.toNat) H1
def iRng2 (ta : TA) : TI := fun σ H R => ta σ H fun vs H1 => ∃ i j : Int, vs = [.int i, .int j] ∧ (-(2 ^ 62) ≤ i ∧ i < 2 ^ 62 ∧ -(2 ^ 62) ≤ j ∧ j < 2 ^ 62) ∧ R (Itr i (j - i).toNat) H1
theorem pi_range1 {a : Expr} {ta : TA} {p pos : Pos} (hg : Gl X "range") (hm : X.mg "range" = none) (ha : PA X [a] ta) (hs : starEach [a] X.env = [(false, eval a X.env)] := by rfl) : PI X tg (.Call (.Name "range" p) [a] [] pos) (iRng1 ta) := by
  intro pins s σ H R I h
  refine Call_ (ld_blt I hg hm boot_range (PyProof.Rows.callWith_type1 (thn (ha pos pins s σ H _ I h) fun us s1 ⟨vs, H1, I1, r1, q1⟩ => ?_) hs rfl))
  obtain ⟨j, e, q1, q2, q⟩ := q1
  subst e
  cases r1 with
  | cons r rr =>
    cases rr
    obtain ⟨t, rfl⟩ := r
    exact call_range_1 (range_it I1 (by omega) (by omega) q1 q2 (by simpa using q))
theorem pi_range2 {a b : Expr} {ta : TA} {p pos : Pos} (hg : Gl X "range") (hm : X.mg "range" = none) (ha : PA X [a, b] ta) (hs : starEach [a, b] X.env = [(false, eval a X.env), (false, eval b X.env)] := by rfl) (hs2 : starEach [b] X.env = [(false, eval b X.env)] := by rfl) :
    PI X tg (.Call (.Name "range" p) [a, b] [] pos) (iRng2 ta) := by
  intro pins s σ H R I h
  refine Call_ (ld_blt I hg hm boot_range (PyProof.Rows.callWith_type1 (thn (ha pos pins s σ H _ I h) fun us s1 ⟨vs, H1, I1, r1, q1⟩ => ?_) (by rw [hs, hs2]) (by rw [hs2]; rfl)))
  obtain ⟨i, j, e, ⟨q1, q2, q3, q4⟩, q⟩ := q1
  subst e
  cases r1 with
  | cons r rr =>
    cases rr with
    | cons r' rr =>
      cases rr
      obtain ⟨t, rfl⟩ := r
      obtain ⟨t', rfl⟩ := r'
      exact call_range_2 (range_it I1 q1 q2 q3 q4 q)

/-! ### for -/
/-- W: the invariant by the turn and a measure; N: what the body is to reach -/
def tFor (wi : TI) (g : TG) (tb : TS) : TS := fun D σ H => wi σ H fun J H1 => ∃ W : Nat → Nat → St → Hp → Prop, (∃ m, W 0 m σ H1) ∧ ∀ i m σ H, W i m σ H →
  (J.stop i H ∧ D.nx σ H) ∨ (J.go i H ∧ ∃ N : St → Hp → Prop, (∀ σ' H', N σ' H' → ∃ m', m' < m ∧ W (i + 1) m' σ' H') ∧ ∀ x H', J.yld i H x H' → g x σ H' fun σ2 H2 => tb { D with nx := N, ct := N, bk := D.nx } σ2 H2)
/-- the records at fp as they stand -/
def pinsAt (fp : List Addr) (h : Heap) : List (Addr × Obj) := fp.filterMap fun b => (h.get? b).map fun o => (b, o)
theorem mem_pinsAt {fp : List Addr} {h : Heap} {b : Addr} {o : Obj} (hb : b ∈ fp) (e : h.get? b = some o) : (b, o) ∈ pinsAt fp h := List.mem_filterMap.mpr ⟨b, hb, by rw [e]; rfl⟩
theorem of_pinsAt {fp : List Addr} {h : Heap} {p : Addr × Obj} (hp : p ∈ pinsAt fp h) : p.1 ∈ fp ∧ h.get? p.1 = some p.2 := by
  obtain ⟨b, hb, e⟩ := List.mem_filterMap.mp hp
  cases q : h.get? b with
  | none => rw [q] at e; cases e
  | some o =>
    rw [q] at e
    have e' : (b, o) = p := Option.some.inj e
    subst e'
    exact ⟨hb, q⟩
theorem Inv.pinned {pins : List (Addr × Obj)} {σ : St} {H : Hp} {s : Shared} {fp : List Addr} (I : Inv X pins σ H s) (hf : ∀ b ∈ fp, FpOk X pins H b) (ho : ∀ b ∈ fp, ∃ o, s.heap.get? b = some o ∧ ∀ v, o.data ≠ .cell v) : Inv X (pins ++ pinsAt fp s.heap) σ H s :=
  I.pins_of fun p hp => (List.mem_append.mp hp).elim (fun z => I.pin p (List.mem_append_right _ z)) fun z => by
    obtain ⟨hb, e⟩ := of_pinsAt z
    obtain ⟨f0, f1, f2, _⟩ := hf p.1 hb
    obtain ⟨o, e', d⟩ := ho p.1 hb
    rw [e] at e'; cases e'
    exact ⟨e, f0, f1, f2, d⟩
theorem Inv.unpinned {pins pl : List (Addr × Obj)} {σ : St} {H : Hp} {s : Shared} (I : Inv X (pins ++ pl) σ H s) : Inv X pins σ H s := I.pins_of fun p hp => I.pin p (List.mem_append_right _ (List.mem_append_left _ hp))
theorem ps_for {iter : Expr} {body : List Stmt} {wi : TI} {g : TG} {tb : TS} {pos : Pos} (hp : PassesOwn (model X.prog X.w) X.A X.env X.xe) (hc : X.calm = true) (hi : PI X tg iter wi) (hg : PG X tg g) (hb : PSs X body tb)
    (hs : ∀ x, foldedSetIterable iter X.env x = pure x := by intro _; rfl) : PS X (.For tg iter body [] pos) (tFor wi g tb) := by
  intro pins s σ H D I h
  refine wpAny_For (thn (hi pins s σ H _ I h) fun v s1 h1 => thn h1 fun itv s2 h2 => ?_) hs
  obtain ⟨it, fp, tn, J, H2, e, I2, T, st2, f2, W, ⟨m0, w0⟩, turn⟩ := h2
  subst e
  -- what stays true of the iterator's objects through the loop
  have stat : ∀ {H' : Hp}, (∀ b ∈ fp, H' b = none) → ∀ b ∈ fp, FpOk X pins H' b := fun hn b hb => ⟨hn b hb, (f2 b hb).2⟩
  refine codeAny_forLoop_any (fun n s' => ∃ i σ' H', Inv X pins σ' H' s' ∧ tn i s'.heap ∧ (∀ b ∈ fp, H' b = none) ∧ W i n σ' H') ?_ m0 ⟨0, σ, H2, I2, st2, fun b hb => (f2 b hb).1, w0⟩
  rintro n s3 ⟨i, σ3, H3, I3, st3, fr3, w3⟩
  rcases turn i n σ3 H3 w3 with ⟨stop, qn⟩ | ⟨go, N, hN, step⟩
  · refine wpAny_passesOwn hp (thn (T.done X rfl rfl rfl hc i pins s3 σ3 H3 X.xe I3 (stat fr3) st3 stop) fun r s4 ⟨hr, I4⟩ => ?_)
    subst hr
    exact wpAny_execs_nil ⟨σ3, H3, I4, qn⟩
  · refine wpAny_passesOwn hp (thn (T.item X rfl rfl rfl hc i pins s3 σ3 H3 X.xe I3 (stat fr3) st3 go) fun r s4 ⟨u, hr, h4⟩ => ?_)
    subst hr
    refine wpAny_passesOwn hp (thn h4 fun _ s5 ⟨x, H5, I5, r5, y5, st5, fr5⟩ => ?_)
    have I5' := I5.pinned (stat fr5) (T.obj _ _ st5)
    refine wpAny_passesOwn hp (thn (hg _ s5 σ3 H5 x u _ I5' r5 (step x H5 y5)) fun _ s6 ⟨σ6, H6, I6, q6⟩ => ?_)
    refine wpAny_passesOwn hp (thn (hb _ s6 σ6 H6 _ I6 q6) fun f s7 q7 => ?_)
    have again : ∀ {σ7 : St} {H7 : Hp}, Inv X (pins ++ pinsAt fp s5.heap) σ7 H7 s7 → N σ7 H7 → ∃ m, m < n ∧ ∃ i σ' H', Inv X pins σ' H' s7 ∧ tn i s7.heap ∧ (∀ b ∈ fp, H' b = none) ∧ W i m σ' H' := fun {σ7 H7} I7 n7 => by
      obtain ⟨m', hm, w7⟩ := hN σ7 H7 n7
      refine ⟨m', hm, i + 1, σ7, H7, I7.unpinned, T.keep _ _ _ st5 fun b hb o e => (I7.pin (b, o) (List.mem_append_right _ (List.mem_append_right _ (mem_pinsAt hb e)))).1, fun b hb => ?_, w7⟩
      obtain ⟨o, e, d⟩ := T.obj _ _ st5 b hb
      exact (I7.pin (b, o) (List.mem_append_right _ (List.mem_append_right _ (mem_pinsAt hb e)))).2.1
    cases f with
    | next => obtain ⟨σ7, H7, I7, n7⟩ := q7; exact again I7 n7
    | cont => obtain ⟨σ7, H7, I7, n7⟩ := q7; exact again I7 n7
    | brk => obtain ⟨σ7, H7, I7, q7⟩ := q7; exact ⟨σ7, H7, I7.unpinned, q7⟩
    | ret v => obtain ⟨x7, σ7, H7, I7, r7, q7⟩ := q7; exact ⟨x7, σ7, H7, I7.unpinned, r7, q7⟩
end

/-! ### the forms one uses -/
/-- over a list that the body leaves as it is -/
theorem for_list {K : PySem.W.Frag} {a : Addr} {xs : List V} {g : TG} {tb : TS} {D : Ends} {σ : St} {H : Hp} (Pv : Nat → St → Hp → Prop) (h0 : Pv 0 σ H) (hl : ∀ i σ H, i ≤ xs.length → Pv i σ H → SqL K H a xs)
    (hs : ∀ i x σ H, xs[i]? = some x → Pv i σ H → g x σ H fun σ2 H2 => tb { D with nx := Pv (i + 1), ct := Pv (i + 1), bk := D.nx } σ2 H2) (hd : ∀ σ H, Pv xs.length σ H → D.nx σ H) :
    ∃ W : Nat → Nat → St → Hp → Prop, (∃ m, W 0 m σ H) ∧ ∀ i m σ H, W i m σ H →
      ((Itl K a).stop i H ∧ D.nx σ H) ∨ ((Itl K a).go i H ∧ ∃ N : St → Hp → Prop, (∀ σ' H', N σ' H' → ∃ m', m' < m ∧ W (i + 1) m' σ' H') ∧ ∀ x H', (Itl K a).yld i H x H' → g x σ H' fun σ2 H2 => tb { D with nx := N, ct := N, bk := D.nx } σ2 H2) := by
  refine ⟨fun i m σ H => m = xs.length - i ∧ i ≤ xs.length ∧ Pv i σ H, ⟨xs.length, by simp, Nat.zero_le _, h0⟩, ?_⟩
  rintro i m σ H ⟨rfl, hi, p⟩
  have q := hl i σ H hi p
  by_cases hlt : i < xs.length
  · refine .inr ⟨⟨xs, xs[i], q, by simp [hlt]⟩, Pv (i + 1), fun σ' H' p' => ⟨xs.length - (i + 1), by omega, rfl, hlt, p'⟩, fun x H' y => ?_⟩
    obtain ⟨e, y⟩ := y
    subst e
    exact hs i x σ _ (y xs q) p
  · have e : i = xs.length := by omega
    subst e
    exact .inl ⟨⟨xs, q, Nat.le_refl _⟩, hd σ H p⟩
theorem for_tup {K : PySem.W.Frag} {a : Addr} {xs : List V} {g : TG} {tb : TS} {D : Ends} {σ : St} {H : Hp} (Pv : Nat → St → Hp → Prop) (h0 : Pv 0 σ H) (hl : ∀ i σ H, i ≤ xs.length → Pv i σ H → SqT K H a xs)
    (hs : ∀ i x σ H, xs[i]? = some x → Pv i σ H → g x σ H fun σ2 H2 => tb { D with nx := Pv (i + 1), ct := Pv (i + 1), bk := D.nx } σ2 H2) (hd : ∀ σ H, Pv xs.length σ H → D.nx σ H) :
    ∃ W : Nat → Nat → St → Hp → Prop, (∃ m, W 0 m σ H) ∧ ∀ i m σ H, W i m σ H →
      ((Itt K a).stop i H ∧ D.nx σ H) ∨ ((Itt K a).go i H ∧ ∃ N : St → Hp → Prop, (∀ σ' H', N σ' H' → ∃ m', m' < m ∧ W (i + 1) m' σ' H') ∧ ∀ x H', (Itt K a).yld i H x H' → g x σ H' fun σ2 H2 => tb { D with nx := N, ct := N, bk := D.nx } σ2 H2) := by
  refine ⟨fun i m σ H => m = xs.length - i ∧ i ≤ xs.length ∧ Pv i σ H, ⟨xs.length, by simp, Nat.zero_le _, h0⟩, ?_⟩
  rintro i m σ H ⟨rfl, hi, p⟩
  have q := hl i σ H hi p
  by_cases hlt : i < xs.length
  · refine .inr ⟨⟨xs, xs[i], q, by simp [hlt]⟩, Pv (i + 1), fun σ' H' p' => ⟨xs.length - (i + 1), by omega, rfl, hlt, p'⟩, fun x H' y => ?_⟩
    obtain ⟨e, y⟩ := y
    subst e
    exact hs i x σ _ (y xs q) p
  · have e : i = xs.length := by omega
    subst e
    exact .inl ⟨⟨xs, q, Nat.le_refl _⟩, hd σ H p⟩
theorem for_range {lo : Int} {n : Nat} {g : TG} {tb : TS} {D : Ends} {σ : St} {H : Hp} (Pv : Nat → St → Hp → Prop) (h0 : Pv 0 σ H)
    (hs : ∀ i σ H, i < n → Pv i σ H → g (.int (lo + i)) σ H fun σ2 H2 => tb { D with nx := Pv (i + 1), ct := Pv (i + 1), bk := D.nx } σ2 H2) (hd : ∀ σ H, Pv n σ H → D.nx σ H) :
    ∃ W : Nat → Nat → St → Hp → Prop, (∃ m, W 0 m σ H) ∧ ∀ i m σ H, W i m σ H →
      ((Itr lo n).stop i H ∧ D.nx σ H) ∨ ((Itr lo n).go i H ∧ ∃ N : St → Hp → Prop, (∀ σ' H', N σ' H' → ∃ m', m' < m ∧ W (i + 1) m' σ' H') ∧ ∀ x H', (Itr lo n).yld i H x H' → g x σ H' fun σ2 H2 => tb { D with nx := N, ct := N, bk := D.nx } σ2 H2) := by
  refine ⟨fun i m σ H => m = n - i ∧ i ≤ n ∧ Pv i σ H, ⟨n, by simp, Nat.zero_le _, h0⟩, ?_⟩
  rintro i m σ H ⟨rfl, hi, p⟩
  by_cases hlt : i < n
  · refine .inr ⟨hlt, Pv (i + 1), fun σ' H' p' => ⟨n - (i + 1), by omega, rfl, hlt, p'⟩, fun x H' y => ?_⟩
    obtain ⟨e, y⟩ := y
    subst e y
    exact hs i σ _ hlt p
  · have e : i = n := by omega
    subst e
    exact .inl ⟨Nat.le_refl _, hd σ H p⟩
/-- while, by a word and a measure of the state -/
theorem while_by {c : TT} {tb : TS} {D : Ends} {σ : St} {H : Hp} (Pv : St → Hp → Prop) (μ : St → Hp → Nat) (h0 : Pv σ H)
    (hs : ∀ σ H, Pv σ H → c σ H fun b H1 => if b = true then tb { D with nx := fun σ' H' => Pv σ' H' ∧ μ σ' H' < μ σ H, ct := fun σ' H' => Pv σ' H' ∧ μ σ' H' < μ σ H, bk := D.nx } σ H1 else D.nx σ H1)
    (mono : ∀ σ H Q Q', (∀ b H1, Q b H1 → Q' b H1) → c σ H Q → c σ H Q') : tWhile c tb D σ H := by
  refine ⟨fun m σ H => m = μ σ H ∧ Pv σ H, ⟨_, rfl, h0⟩, ?_⟩
  rintro m σ H ⟨rfl, p⟩
  refine mono σ H _ _ (fun b H1 q => ?_) (hs σ H p)
  cases b with
  | true => exact ⟨_, fun σ' H' ⟨p', l⟩ => ⟨_, l, rfl, p'⟩, q⟩
  | false => exact q
end L2

namespace L2
open PySem PySem.Spec PyProof.Rows

abbrev R2 := V → V → Hp → VK → Prop
/-- a two-place operation on values: f is binaryOp op, inplaceOp op or compareOp op -/
def OpR (X : Cx) (f : Value → Value → Sem Value) (r : R2) : Prop :=
  ∀ (pins : List (Addr × Obj)) (s : Shared) (σ : St) (H : Hp) (x y : V) (v u : Value) (Q : VK), Inv X pins σ H s → RelV x v → RelV y u → r x y H Q →
    wpAny (model X.prog X.w) X.A (f v u) (EP X pins σ Q) X.xe s
/-- a one-place operation -/
def UnR (X : Cx) (f : Value → Sem Value) (r : V → Hp → VK → Prop) : Prop :=
  ∀ (pins : List (Addr × Obj)) (s : Shared) (σ : St) (H : Hp) (x : V) (v : Value) (Q : VK), Inv X pins σ H s → RelV x v → r x H Q →
    wpAny (model X.prog X.w) X.A (f v) (EP X pins σ Q) X.xe s
/-- a call of a value that is known (a builtin, a type) with values -/
def CallR (X : Cx) (f : Value) (r : List V → Hp → VK → Prop) : Prop :=
  ∀ (pins : List (Addr × Obj)) (s : Shared) (σ : St) (H : Hp) (xs : List V) (us : List Value) (Q : VK), Inv X pins σ H s → Vals xs us → r xs H Q →
    wpAny (model X.prog X.w) X.A (call f us) (EP X pins σ Q) X.xe s
/-- a value's truth -/
def TruR (X : Cx) (r : V → Hp → (Bool → Hp → Prop) → Prop) : Prop :=
  ∀ (pins : List (Addr × Obj)) (s : Shared) (σ : St) (H : Hp) (x : V) (v : Value) (Q : Bool → Hp → Prop), Inv X pins σ H s → RelV x v → r x H Q →
    wpAny (model X.prog X.w) X.A (truthy v) (TP X pins σ Q) X.xe s

def tOp (r : R2) (ta tb : TE) : TE := fun σ H Q => ta σ H fun x H1 => tb σ H1 fun y H2 => r x y H2 Q
def tUn (r : V → Hp → VK → Prop) (ta : TE) : TE := fun σ H Q => ta σ H fun x H1 => r x H1 Q
/-- ints in, under C, and a value out -/
def rI (C : Int → Int → Prop) (g : Int → Int → V) : R2 := fun x y H Q => ∃ i j, x = .int i ∧ y = .int j ∧ C i j ∧ Q (g i j) H
def rI0 (g : Int → Int → V) : R2 := fun x y H Q => ∃ i j, x = .int i ∧ y = .int j ∧ Q (g i j) H
def rU (g : Int → V) : V → Hp → VK → Prop := fun x H Q => ∃ i, x = .int i ∧ Q (g i) H

section
variable {X : Cx} {a b c : Expr} {ta tb tc : TE} {pos : Pos}

theorem binT (ha : PE X a ta) (hb : PE X b tb) {pins : List (Addr × Obj)} {s : Shared} {σ : St} {H : Hp} {R : V → V → Hp → Prop} (I : Inv X pins σ H s)
    (h : ta σ H fun x H1 => tb σ H1 fun y H2 => R x y H2) {Q : Value → Shared → Prop} {f : Value → Value → Sem Value}
    (hf : ∀ v u s2 x y H2, Inv X pins σ H2 s2 → RelV x v → RelV y u → R x y H2 → wpAny (model X.prog X.w) X.A (f v u) Q X.xe s2) :
    wpAny (model X.prog X.w) X.A (eval a X.env) (fun v s₁ => wpAny (model X.prog X.w) X.A (eval b X.env) (fun u s₂ => wpAny (model X.prog X.w) X.A (f v u) Q X.xe s₂) X.xe s₁) X.xe s := by
  refine thn (ha pins s σ H _ I h) fun v s1 ⟨x, H1, I1, r1, q1⟩ => ?_
  refine thn (hb pins s1 σ H1 _ I1 q1) fun u s2 ⟨y, H2, I2, r2, q2⟩ => ?_
  exact hf v u s2 x y H2 I2 r1 r2 q2

theorem pe_op {op : Operator} {r : R2} (ho : OpR X (binaryOp op) r) (ha : PE X a ta) (hb : PE X b tb) : PE X (.BinOp a op b pos) (tOp r ta tb) := by
  intro pins s σ H Q I h
  exact wpAny_BinOp (binT ha hb I h fun v u s2 x y H2 I2 rx ry q => ho pins s2 σ H2 x y v u Q I2 rx ry q)
theorem pe_un {op : UnaryOp} {r : V → Hp → VK → Prop} (ho : UnR X (unaryOp op) r) (ha : PE X a ta) : PE X (.UnaryOp op a pos) (tUn r ta) := by
  intro pins s σ H Q I h
  exact UnaryOp_ (thn (ha pins s σ H _ I h) fun v s1 ⟨x, H1, I1, r1, q1⟩ => ho pins s1 σ H1 x v Q I1 r1 q1)
/-- a op= e at a name: the name's slot i -/
theorem augR {op : Operator} {r : R2} (ho : OpR X (inplaceOp op) r) {pins : List (Addr × Obj)} {s : Shared} {σ : St} {H : Hp} {x y : V} {v u : Value} {Q : VK} (I : Inv X pins σ H s)
    (rx : RelV x v) (ry : RelV y u) (q : r x y H Q) : wpAny (model X.prog X.w) X.A (inplaceOp op v u) (EP X pins σ Q) X.xe s := ho pins s σ H x y v u Q I rx ry q

/-! ### ints -/
theorem opI {f : Value → Value → Sem Value} {C : Int → Int → Prop} {g : Int → Int → Int}
    (rule : ∀ (i j : Int) (t u : Tok) (s : Shared) (Q : Value → Shared → Prop) (E : Value → Shared → Prop), C i j → Q (.int (g i j) s.toks) { s with toks := s.toks + 1 } → wpAny (model X.prog X.w) X.A (f (.int i t) (.int j u)) Q E s) :
    OpR X f (rI C fun i j => .int (g i j)) := by
  intro pins s σ H x y v u Q I rx ry h
  obtain ⟨i, j, rfl, rfl, hc, q⟩ := h
  obtain ⟨t, rfl⟩ := rx
  obtain ⟨t', rfl⟩ := ry
  exact rule i j t t' s _ _ hc ⟨.int (g i j), H, I.tok _, ⟨_, rfl⟩, q⟩
theorem opI0 {f : Value → Value → Sem Value} {g : Int → Int → Int}
    (rule : ∀ (i j : Int) (t u : Tok) (s : Shared) (Q : Value → Shared → Prop) (E : Value → Shared → Prop), Q (.int (g i j) s.toks) { s with toks := s.toks + 1 } → wpAny (model X.prog X.w) X.A (f (.int i t) (.int j u)) Q E s) :
    OpR X f (rI0 fun i j => .int (g i j)) := by
  intro pins s σ H x y v u Q I rx ry h
  obtain ⟨i, j, rfl, rfl, q⟩ := h
  obtain ⟨t, rfl⟩ := rx
  obtain ⟨t', rfl⟩ := ry
  exact rule i j t t' s _ _ ⟨.int (g i j), H, I.tok _, ⟨_, rfl⟩, q⟩
theorem opB0 {f : Value → Value → Sem Value} {g : Int → Int → Bool}
    (rule : ∀ (i j : Int) (t u : Tok) (s : Shared) (Q : Value → Shared → Prop) (E : Value → Shared → Prop), Q (.bool (g i j)) s → wpAny (model X.prog X.w) X.A (f (.int i t) (.int j u)) Q E s) :
    OpR X f (rI0 fun i j => .bl (g i j)) := by
  intro pins s σ H x y v u Q I rx ry h
  obtain ⟨i, j, rfl, rfl, q⟩ := h
  obtain ⟨t, rfl⟩ := rx
  obtain ⟨t', rfl⟩ := ry
  exact rule i j t t' s _ _ ⟨.bl (g i j), H, I, rfl, q⟩

def CDiv (i j : Int) : Prop := 0 < j ∧ j < 1073741824
def CDivN (i j : Int) : Prop := j ≠ 0 ∧ j.natAbs < 1073741824
def CPow (i j : Int) : Prop := 0 ≤ j ∧ j ≤ 1000000 ∧ i.natAbs < 2 ^ 64
def CMul (i j : Int) : Prop := (-(2 ^ 64) < i ∧ i < 2 ^ 64) ∨ (-(2 ^ 64) < j ∧ j < 2 ^ 64)
theorem CMul.ok {i j : Int} (h : CMul i j) : IntMulOk i j := by
  rcases h with ⟨h1, h2⟩ | ⟨h1, h2⟩
  · exact .of_left (intBits_le_64 h1 h2)
  · exact .of_right (intBits_le_64 h1 h2)
theorem two_pow_nn (k : Nat) : (0 : Int) ≤ 2 ^ k := by
  rw [two_pow_cast]
  exact Int.natCast_nonneg _

theorem op_add : OpR X (binaryOp .Add) (rI0 fun i j => .int (i + j)) := opI0 fun _ _ _ _ _ _ _ q => add_int q
theorem op_sub : OpR X (binaryOp .Sub) (rI0 fun i j => .int (i - j)) := opI0 fun _ _ _ _ _ _ _ q => sub_int q
theorem op_mul : OpR X (binaryOp .Mult) (rI CMul fun i j => .int (i * j)) := opI fun _ _ _ _ _ _ _ hc q => mul_int q hc.ok
/-- // by a positive divisor -/
theorem op_fdiv : OpR X (binaryOp .FloorDiv) (rI CDiv fun i j => .int (i / j)) := opI fun i j _ _ _ _ _ hc q => by
  have h1 : (0 : Int) < j := hc.1
  have h2 : j < 1073741824 := hc.2
  exact floordiv_int (by omega) (by rw [Int.fdiv_eq_ediv_of_nonneg i (by omega)]; exact q) (.inl (PyProof.noPylong_small (by omega)))
theorem op_fdivN : OpR X (binaryOp .FloorDiv) (rI CDivN fun i j => .int (i.fdiv j)) := opI fun _ _ _ _ _ _ _ hc q => floordiv_int hc.1 q (.inl (PyProof.noPylong_small hc.2))
/-- % by a positive divisor of any size -/
theorem op_mod : OpR X (binaryOp .Mod) (rI (fun _ j => 0 < j) fun i j => .int (i % j)) := opI fun i j _ _ _ _ _ hc q => by
  have h1 : (0 : Int) < j := hc
  exact mod_int' (by omega) (by rw [Int.fmod_eq_emod_of_nonneg i (by omega)]; exact q)
theorem op_modN : OpR X (binaryOp .Mod) (rI (fun _ j => j ≠ 0) fun i j => .int (i.fmod j)) := opI fun _ _ _ _ _ _ _ hc q => mod_int' hc q
theorem op_pow : OpR X (binaryOp .Pow) (rI CPow fun i j => .int (i ^ j.toNat)) := opI fun _ _ _ _ _ _ _ hc q => pow_int_small hc.1 hc.2.1 hc.2.2 q
theorem op_shl : OpR X (binaryOp .LShift) (rI CPow fun i j => .int (i * 2 ^ j.toNat)) := opI fun _ _ _ _ _ _ _ hc q => lshift_int_small hc.1 hc.2.1 hc.2.2 q
theorem op_shr : OpR X (binaryOp .RShift) (rI (fun _ j => 0 ≤ j) fun i j => .int (i / 2 ^ j.toNat)) := opI fun i j _ _ _ _ _ hc q =>
  rshift_int hc (by rw [Int.fdiv_eq_ediv_of_nonneg i (two_pow_nn _)]; exact q)
theorem op_and : OpR X (binaryOp .BitAnd) (rI0 fun i j => .int (Builtin.bitAnd i j)) := opI0 fun _ _ _ _ _ _ _ q => and_int q
theorem op_or : OpR X (binaryOp .BitOr) (rI0 fun i j => .int (Builtin.bitOr i j)) := opI0 fun _ _ _ _ _ _ _ q => or_int q
theorem op_xor : OpR X (binaryOp .BitXor) (rI0 fun i j => .int (Builtin.bitXor i j)) := opI0 fun _ _ _ _ _ _ _ q => xor_int q

theorem iop_add : OpR X (inplaceOp .Add) (rI0 fun i j => .int (i + j)) := opI0 fun _ _ _ _ _ _ _ q => iadd_int q
theorem iop_sub : OpR X (inplaceOp .Sub) (rI0 fun i j => .int (i - j)) := opI0 fun _ _ _ _ _ _ _ q => isub_int q
theorem iop_mul : OpR X (inplaceOp .Mult) (rI CMul fun i j => .int (i * j)) := opI fun _ _ _ _ _ _ _ hc q => imul_int q hc.ok
theorem iop_fdiv : OpR X (inplaceOp .FloorDiv) (rI CDiv fun i j => .int (i / j)) := opI fun i j _ _ _ _ _ hc q => by
  have h1 : (0 : Int) < j := hc.1
  have h2 : j < 1073741824 := hc.2
  exact ifloordiv_int (by omega) (by rw [Int.fdiv_eq_ediv_of_nonneg i (by omega)]; exact q) (.inl (PyProof.noPylong_small (by omega)))
theorem iop_mod : OpR X (inplaceOp .Mod) (rI (fun _ j => 0 < j) fun i j => .int (i % j)) := opI fun i j _ _ _ _ _ hc q => by
  have h1 : (0 : Int) < j := hc
  exact imod_int (by omega) (by rw [Int.fmod_eq_emod_of_nonneg i (by omega)]; exact q)
theorem iop_shl : OpR X (inplaceOp .LShift) (rI CPow fun i j => .int (i * 2 ^ j.toNat)) := opI fun _ _ _ _ _ _ _ hc q => ilshift_int_small hc.1 hc.2.1 hc.2.2 q
theorem iop_shr : OpR X (inplaceOp .RShift) (rI (fun _ j => 0 ≤ j) fun i j => .int (i / 2 ^ j.toNat)) := opI fun i j _ _ _ _ _ hc q =>
  irshift_int hc (by rw [Int.fdiv_eq_ediv_of_nonneg i (two_pow_nn _)]; exact q)
theorem iop_and : OpR X (inplaceOp .BitAnd) (rI0 fun i j => .int (Builtin.bitAnd i j)) := opI0 fun _ _ _ _ _ _ _ q => iand_int q
theorem iop_or : OpR X (inplaceOp .BitOr) (rI0 fun i j => .int (Builtin.bitOr i j)) := opI0 fun _ _ _ _ _ _ _ q => ior_int q
theorem iop_xor : OpR X (inplaceOp .BitXor) (rI0 fun i j => .int (Builtin.bitXor i j)) := opI0 fun _ _ _ _ _ _ _ q => ixor_int q

theorem unI {f : Value → Sem Value} {g : Int → Int}
    (rule : ∀ (i : Int) (t : Tok) (s : Shared) (Q : Value → Shared → Prop) (E : Value → Shared → Prop), Q (.int (g i) s.toks) { s with toks := s.toks + 1 } → wpAny (model X.prog X.w) X.A (f (.int i t)) Q E s) :
    UnR X f (rU fun i => .int (g i)) := by
  intro pins s σ H x v Q I rx h
  obtain ⟨i, rfl, q⟩ := h
  obtain ⟨t, rfl⟩ := rx
  exact rule i t s _ _ ⟨.int (g i), H, I.tok _, ⟨_, rfl⟩, q⟩
theorem un_neg : UnR X (unaryOp .USub) (rU fun i => .int (-i)) := unI fun _ _ _ _ _ q => neg_int q
theorem un_inv : UnR X (unaryOp .Invert) (rU fun i => .int (Builtin.bitNot i)) := unI fun _ _ _ _ _ q => invert_int q

/-! ### bools among ints: n += (a < b) -/
theorem op_add_ib : OpR X (binaryOp .Add) (fun x y H Q => ∃ i k, x = .int i ∧ y = .bl k ∧ Q (.int (i + b2i k)) H) := by
  intro pins s σ H x y v u Q I rx ry h
  obtain ⟨i, k, rfl, rfl, q⟩ := h
  obtain ⟨t, rfl⟩ := rx
  cases ry
  exact add_int_bool ⟨.int (i + b2i k), H, I.tok _, ⟨_, rfl⟩, q⟩
end

/-! ### comparisons -/
/-- the scalars that == tells apart as data does -/
def scal : V → V → Bool
  | .non, .non => true | .non, .int _ => true | .int _, .non => true | .non, .bl _ => true | .bl _, .non => true | .non, .str _ => true | .str _, .non => true
  | .int _, .int _ => true | .bl _, .bl _ => true | .str _, .str _ => true | .byt _, .byt _ => true
  | .int _, .str _ => true | .str _, .int _ => true | .bl _, .str _ => true | .str _, .bl _ => true
  | _, _ => false
def rEq : R2 := fun x y H Q => scal x y = true ∧ Q (.bl (decide (x = y))) H
def rNe : R2 := fun x y H Q => scal x y = true ∧ Q (.bl (!decide (x = y))) H

theorem dec_int {i j : Int} : decide (V.int i = V.int j) = (i == j) := by
  rw [Bool.eq_iff_iff]
  simp
theorem dec_bl {i j : Bool} : decide (V.bl i = V.bl j) = (i == j) := by
  rw [Bool.eq_iff_iff]
  simp
theorem dec_str {i j : Str} : decide (V.str i = V.str j) = (i == j) := by
  rw [Bool.eq_iff_iff]
  simp
theorem dec_byt {i j : Array UInt8} : decide (V.byt i = V.byt j) = (i.toList == j.toList) := by
  rw [Bool.eq_iff_iff]
  cases i
  cases j
  simp

section
variable {X : Cx} {a b c : Expr} {ta tb tc : TE} {pos : Pos}
theorem fin_bl {pins : List (Addr × Obj)} {σ : St} {H : Hp} {s : Shared} {Q : VK} {k k' : Bool} (I : Inv X pins σ H s) (q : Q (.bl k) H) (e : k = k') : EP X pins σ Q (.bool k') s := by
  subst e
  exact ⟨.bl k, H, I, rfl, q⟩
theorem op_eq : OpR X (compareOp .Eq) rEq := by
  intro pins s σ H x y v u Q I rx ry h
  obtain ⟨hs, q⟩ := h
  cases x with
  | non =>
    cases rx
    cases y with
    | non => cases ry; exact PySem.EqNone.eq_none_none (fin_bl I q (by simp))
    | bl j => cases ry; exact PySem.EqNone.eq_none_bool (fin_bl I q (by simp))
    | int j => obtain ⟨t', rfl⟩ := ry; exact PySem.EqNone.eq_none_int (fin_bl I q (by simp))
    | str j => obtain ⟨t', rfl⟩ := ry; exact PySem.EqNone.eq_none_str (fin_bl I q (by simp))
    | _ => exact absurd (show false = true from hs) Bool.false_ne_true
  | bl i =>
    cases rx
    cases y with
    | non => cases ry; exact PySem.EqNone.eq_bool_none (fin_bl I q (by simp))
    | bl j => cases ry; exact eq_bool (fin_bl I q dec_bl)
    | str j => obtain ⟨t', rfl⟩ := ry; exact PySem.EqMixed.eq_bool_str (fin_bl I q (by simp))
    | _ => exact absurd (show false = true from hs) Bool.false_ne_true
  | int i =>
    obtain ⟨t, rfl⟩ := rx
    cases y with
    | non => cases ry; exact PySem.EqNone.eq_int_none (fin_bl I q (by simp))
    | int j => obtain ⟨t', rfl⟩ := ry; exact eq_int (fin_bl I q dec_int)
    | str j => obtain ⟨t', rfl⟩ := ry; exact PySem.EqMixed.eq_int_str (fin_bl I q (by simp))
    | _ => exact absurd (show false = true from hs) Bool.false_ne_true
  | str i =>
    obtain ⟨t, rfl⟩ := rx
    cases y with
    | non => cases ry; exact PySem.EqNone.eq_str_none (fin_bl I q (by simp))
    | bl j => cases ry; exact PySem.EqMixed.eq_str_bool (fin_bl I q (by simp))
    | int j => obtain ⟨t', rfl⟩ := ry; exact PySem.EqMixed.eq_str_int (fin_bl I q (by simp))
    | str j => obtain ⟨t', rfl⟩ := ry; exact eq_str (fin_bl I q dec_str)
    | _ => exact absurd (show false = true from hs) Bool.false_ne_true
  | byt i =>
    obtain ⟨t, rfl⟩ := rx
    cases y with
    | byt j => obtain ⟨t', rfl⟩ := ry; exact PySem.W.eq_bytes (fin_bl I q dec_byt)
    | _ => exact absurd (show false = true from hs) Bool.false_ne_true
  | _ => cases y <;> exact absurd (show false = true from hs) Bool.false_ne_true
theorem op_ne : OpR X (compareOp .NotEq) rNe := by
  intro pins s σ H x y v u Q I rx ry h
  obtain ⟨hs, q⟩ := h
  cases x with
  | non =>
    cases rx
    cases y with
    | non => cases ry; exact PySem.EqNone.ne_none_none (fin_bl I q (by simp))
    | bl j => cases ry; exact PySem.EqNone.ne_none_bool (fin_bl I q (by simp))
    | int j => obtain ⟨t', rfl⟩ := ry; exact PySem.EqNone.ne_none_int (fin_bl I q (by simp))
    | str j => obtain ⟨t', rfl⟩ := ry; exact PySem.EqNone.ne_none_str (fin_bl I q (by simp))
    | _ => exact absurd (show false = true from hs) Bool.false_ne_true
  | bl i =>
    cases rx
    cases y with
    | non => cases ry; exact PySem.EqNone.ne_bool_none (fin_bl I q (by simp))
    | bl j => cases ry; exact ne_bool (fin_bl I q (congrArg not dec_bl))
    | str j => obtain ⟨t', rfl⟩ := ry; exact PySem.EqMixed.ne_bool_str (fin_bl I q (by simp))
    | _ => exact absurd (show false = true from hs) Bool.false_ne_true
  | int i =>
    obtain ⟨t, rfl⟩ := rx
    cases y with
    | non => cases ry; exact PySem.EqNone.ne_int_none (fin_bl I q (by simp))
    | int j => obtain ⟨t', rfl⟩ := ry; exact ne_int (fin_bl I q (congrArg not dec_int))
    | str j => obtain ⟨t', rfl⟩ := ry; exact PySem.EqMixed.ne_int_str (fin_bl I q (by simp))
    | _ => exact absurd (show false = true from hs) Bool.false_ne_true
  | str i =>
    obtain ⟨t, rfl⟩ := rx
    cases y with
    | non => cases ry; exact PySem.EqNone.ne_str_none (fin_bl I q (by simp))
    | bl j => cases ry; exact PySem.EqMixed.ne_str_bool (fin_bl I q (by simp))
    | int j => obtain ⟨t', rfl⟩ := ry; exact PySem.EqMixed.ne_str_int (fin_bl I q (by simp))
    | str j => obtain ⟨t', rfl⟩ := ry; exact ne_str (fin_bl I q (congrArg not dec_str))
    | _ => exact absurd (show false = true from hs) Bool.false_ne_true
  | byt i =>
    obtain ⟨t, rfl⟩ := rx
    cases y with
    | byt j => obtain ⟨t', rfl⟩ := ry; exact PySem.W.ne_bytes (fin_bl I q (congrArg not dec_byt))
    | _ => exact absurd (show false = true from hs) Bool.false_ne_true
  | _ => cases y <;> exact absurd (show false = true from hs) Bool.false_ne_true

theorem op_lt : OpR X (compareOp .Lt) (rI0 fun i j => .bl (decide (i < j))) := opB0 fun _ _ _ _ _ _ _ q => lt_int q
theorem op_le : OpR X (compareOp .LtE) (rI0 fun i j => .bl (decide (i ≤ j))) := opB0 fun _ _ _ _ _ _ _ q => le_int q
theorem op_gt : OpR X (compareOp .Gt) (rI0 fun i j => .bl (decide (j < i))) := opB0 fun _ _ _ _ _ _ _ q => gt_int q
theorem op_ge : OpR X (compareOp .GtE) (rI0 fun i j => .bl (decide (j ≤ i))) := opB0 fun _ _ _ _ _ _ _ q => ge_int q
theorem op_lt_str : OpR X (compareOp .Lt) (fun x y H Q => ∃ i j, x = .str i ∧ y = .str j ∧ Q (.bl (decide (i.cps.toList < j.cps.toList))) H) := by
  intro pins s σ H x y v u Q I rx ry h
  obtain ⟨i, j, rfl, rfl, q⟩ := h
  obtain ⟨t, rfl⟩ := rx
  obtain ⟨t', rfl⟩ := ry
  exact lt_str (fin_bl I q rfl)
/-- the one string within the other -/
theorem op_in_str : OpR X (compareOp .In) (fun x y H Q => ∃ i j, x = .str i ∧ y = .str j ∧ Q (.bl (!(Builtin.Str.occurrences j i 0 j.length 1).isEmpty)) H) := by
  intro pins s σ H x y v u Q I rx ry h
  obtain ⟨i, j, rfl, rfl, q⟩ := h
  obtain ⟨t, rfl⟩ := rx
  obtain ⟨t', rfl⟩ := ry
  exact in_str (fin_bl I q rfl)

/-- is None, is not None: the right side a value none -/
theorem op_isN : OpR X (compareOp .Is) (fun x y H Q => y = .non ∧ Q (.bl (decide (x = .non))) H) := by
  intro pins s σ H x y v u Q I rx ry h
  obtain ⟨rfl, q⟩ := h
  cases ry
  refine is_none_gen (fin_bl I q ?_)
  cases x <;> first
    | (cases rx; rfl)
    | (obtain ⟨t, rfl⟩ := rx; rfl)
theorem op_notN : OpR X (compareOp .IsNot) (fun x y H Q => y = .non ∧ Q (.bl (!decide (x = .non))) H) := by
  intro pins s σ H x y v u Q I rx ry h
  obtain ⟨rfl, q⟩ := h
  cases ry
  refine isnot_none_gen (fin_bl I q ?_)
  cases x <;> first
    | (cases rx; rfl)
    | (obtain ⟨t, rfl⟩ := rx; rfl)

theorem op_notin_str : OpR X (compareOp .NotIn) (fun x y H Q => ∃ i j, x = .str i ∧ y = .str j ∧ Q (.bl (!(!(Builtin.Str.occurrences j i 0 j.length 1).isEmpty))) H) := by
  intro pins s σ H x y v u Q I rx ry h
  obtain ⟨i, j, rfl, rfl, q⟩ := h
  obtain ⟨t, rfl⟩ := rx
  obtain ⟨t', rfl⟩ := ry
  exact notIn_str (fin_bl I q rfl)
/-- is, is not of two objects that are tracked lists or instances -/
def isObj : HO → Bool
  | .lst _ => true
  | .ins _ _ _ => true
  | _ => false
theorem obj_there {pins : List (Addr × Obj)} {s : Shared} {σ : St} {H : Hp} {a : Addr} {o : HO} (I : Inv X pins σ H s) (h : H a = some o) (p : isObj o = true) : ∃ ob, s.heap.get? a = some ob ∧ ob.cls ≠ .type "tuple" := by
  cases o with
  | lst xs =>
    obtain ⟨_, its, n, _, e⟩ : xs.length ≤ sizeLine ∧ ∃ (its : List Value) (n : Nat), Vals xs its ∧ s.heap.get? a = some { cls := .type "list", data := .seq its.toArray n } := I.hok a _ h
    exact ⟨_, e, (by show Value.type "list" ≠ .type "tuple"; decide +kernel)⟩
  | ins C dx fs =>
    have x := I.hok a _ h
    obtain ⟨_, _, _, e, _⟩ := x
    exact ⟨_, e, (by show Value.ref C ≠ .type "tuple"; exact fun z => by cases z)⟩
  | _ => exact absurd (show false = true from p) Bool.false_ne_true
theorem op_is_ref : OpR X (compareOp .Is) (fun x y H Q => ∃ a b oa ob, x = .ref a ∧ y = .ref b ∧ H a = some oa ∧ isObj oa = true ∧ H b = some ob ∧ isObj ob = true ∧ Q (.bl (decide (a = b))) H) := by
  intro pins s σ H x y v u Q I rx ry h
  obtain ⟨a, b, oa, ob, rfl, rfl, ha, pa, hb, pb, q⟩ := h
  cases rx
  cases ry
  obtain ⟨o1, e1, n1⟩ := obj_there I ha pa
  obtain ⟨o2, e2, _⟩ := obj_there I hb pb
  by_cases z : a = b
  · subst z
    exact wpAny_is_ref_self (fin_bl I q (by simp))
  · exact wpAny_is_ref_other z e1 e2 n1 (fin_bl I q (by simp [z]))
theorem op_isnot_ref : OpR X (compareOp .IsNot) (fun x y H Q => ∃ a b oa ob, x = .ref a ∧ y = .ref b ∧ H a = some oa ∧ isObj oa = true ∧ H b = some ob ∧ isObj ob = true ∧ Q (.bl (!decide (a = b))) H) := by
  intro pins s σ H x y v u Q I rx ry h
  obtain ⟨a, b, oa, ob, rfl, rfl, ha, pa, hb, pb, q⟩ := h
  cases rx
  cases ry
  obtain ⟨o1, e1, n1⟩ := obj_there I ha pa
  obtain ⟨o2, e2, _⟩ := obj_there I hb pb
  by_cases z : a = b
  · subst z
    exact wpAny_isNot_ref_self (fin_bl I q (by simp))
  · exact wpAny_isNot_ref_other z e1 e2 n1 (fin_bl I q (by simp [z]))

/-- two rules for one operation: by cases -/
theorem OpR.or {f : Value → Value → Sem Value} {r r' : R2} (h : OpR X f r) (h' : OpR X f r') : OpR X f (fun x y H Q => r x y H Q ∨ r' x y H Q) := by
  intro pins s σ H x y v u Q I rx ry q
  rcases q with q | q
  · exact h pins s σ H x y v u Q I rx ry q
  · exact h' pins s σ H x y v u Q I rx ry q

theorem nomark (b : Expr) {op : CmpOp} (h : op ≠ .In := by decide) (h2 : op ≠ .NotIn := by decide) : behindInMarks op b = false := by
  have e1 : (op == CmpOp.In) = false := by cases op <;> first | rfl | exact absurd rfl h
  have e2 : (op == CmpOp.NotIn) = false := by cases op <;> first | rfl | exact absurd rfl h2
  cases b <;> simp [behindInMarks, e1, e2]
/-- a comparison as a value; hm: nomark b, or (for in, not in) by with_unfolding_all rfl -/
theorem pe_cmpR {op : CmpOp} {r : R2} (ho : OpR X (compareOp op) r) (ha : PE X a ta) (hb : PE X b tb) (hm : behindInMarks op b = false) : PE X (.Compare a [op] [b] pos) (tOp r ta tb) := by
  intro pins s σ H Q I h
  exact wpAny_Compare1 (binT ha hb I h fun v u s2 x y H2 I2 rx ry q => ho pins s2 σ H2 x y v u Q I2 rx ry q) hm
/-- a reading of a value as a test -/
def tTest (t : TE) : TT := fun σ H Q => t σ H fun x H' => ∃ k, x = .bl k ∧ Q k H'
theorem pt_cmpR {op : CmpOp} {r : R2} (ho : OpR X (compareOp op) r) (ha : PE X a ta) (hb : PE X b tb) (hm : behindInMarks op b = false) : PT X (.Compare a [op] [b] pos) (tTest (tOp r ta tb)) := by
  intro pins s σ H Q I h
  refine wpAny_isTrue_Compare1 (thn (ha pins s σ H _ I h) fun v s1 ⟨x, H1, I1, r1, q1⟩ => thn (hb pins s1 σ H1 _ I1 q1) fun u s2 ⟨y, H2, I2, r2, q2⟩ =>
    thn (ho pins s2 σ H2 x y v u _ I2 r1 r2 q2) fun c s3 ⟨z, H3, I3, r3, k, e, q3⟩ => ?_) hm
  subst e
  cases r3
  exact wpAny_truthy_bool ⟨H3, I3, q3⟩
/-- a op1 b op2 c -/
def tChain (r r' : R2) (ta tb tc : TE) : TE := fun σ H Q => ta σ H fun x H1 => tb σ H1 fun y H2 => r x y H2 fun z H3 => ∃ k, z = .bl k ∧
  (if k = true then tc σ H3 fun w' H4 => r' y w' H4 Q else Q (.bl false) H3)
theorem pe_chain {op op' : CmpOp} {r r' : R2} (ho : OpR X (compareOp op) r) (ho' : OpR X (compareOp op') r') (ha : PE X a ta) (hb : PE X b tb) (hc : PE X c tc)
    (hm : lastMarks [op, op'] [b, c] = false := by with_unfolding_all rfl) : PE X (.Compare a [op, op'] [b, c] pos) (tChain r r' ta tb tc) := by
  intro pins s σ H Q I h
  refine Compare_chain (thn (ha pins s σ H _ I h) fun v s1 ⟨x, H1, I1, r1, q1⟩ => chain_link (thn (hb pins s1 σ H1 _ I1 q1) fun u s2 ⟨y, H2, I2, r2, q2⟩ =>
    thn (ho pins s2 σ H2 x y v u _ I2 r1 r2 q2) fun d s3 ⟨z, H3, I3, r3, k, e, q3⟩ => ?_)) hm
  subst e
  cases r3
  refine wpAny_truthy_bool ?_
  cases k with
  | false => exact ite_ff ⟨.bl false, H3, I3, rfl, q3⟩
  | true => exact ite_tt (chain_last (thn (hc pins s3 σ H3 _ I3 q3) fun w' s4 ⟨z', H4, I4, r4, q4⟩ => ho' pins s4 σ H4 y z' u w' Q I4 r2 r4 q4))
theorem pt_chain {op op' : CmpOp} {r r' : R2} (ho : OpR X (compareOp op) r) (ho' : OpR X (compareOp op') r') (ha : PE X a ta) (hb : PE X b tb) (hc : PE X c tc)
    (hm : lastMarks [op, op'] [b, c] = false := by with_unfolding_all rfl) : PT X (.Compare a [op, op'] [b, c] pos) (tTest (tChain r r' ta tb tc)) := by
  intro pins s σ H Q I h
  refine isTrue_chain (thn (ha pins s σ H _ I h) fun v s1 ⟨x, H1, I1, r1, q1⟩ => test_link (thn (hb pins s1 σ H1 _ I1 q1) fun u s2 ⟨y, H2, I2, r2, q2⟩ =>
    thn (ho pins s2 σ H2 x y v u _ I2 r1 r2 q2) fun d s3 ⟨z, H3, I3, r3, k, e, q3⟩ => ?_)) hm
  subst e
  cases r3
  refine wpAny_truthy_bool ?_
  cases k with
  | false =>
    obtain ⟨k', e', q'⟩ := q3
    cases e'
    exact ite_ff ⟨H3, I3, q'⟩
  | true =>
    refine ite_tt (test_last (thn (hc pins s3 σ H3 _ I3 q3) fun w' s4 ⟨z', H4, I4, r4, q4⟩ => thn (ho' pins s4 σ H4 y z' u w' _ I4 r2 r4 q4) fun d' s5 ⟨z2, H5, I5, r5, k2, e2, q5⟩ => ?_))
    subst e2
    cases r5
    exact wpAny_truthy_bool ⟨H5, I5, q5⟩

/-! ### truth -/
/-- a value's truth by the abstract heap -/
def TruV (K : PySem.W.Frag) (x : V) (H : Hp) (k : Bool) : Prop :=
  match x with
  | .non => k = false
  | .bl b => k = b
  | .int i => k = (i != 0)
  | .str y => y.length ≤ sizeLine ∧ k = ((y.length : Int) != 0)
  | .byt y => y.size ≤ sizeLine ∧ k = ((y.size : Int) != 0)
  | .ref p => (∃ xs, SqL K H p xs ∧ k = !xs.isEmpty) ∨ (∃ xs, SqT K H p xs ∧ k = !xs.isEmpty) ∨ ∃ kvs, H p = some (.dK kvs) ∧ k = !kvs.isEmpty
  | _ => False
theorem isEmpty_kv {κ : Type} {kvs : List (κ × V)} {vs : List (κ × Value)} (r : KV kvs vs) : (!vs.isEmpty) = !kvs.isEmpty := by
  cases r <;> rfl
theorem isEmpty_of {xs : List V} {its : List Value} (r : Vals xs its) : (!its.toArray.isEmpty) = !xs.isEmpty := by
  cases r <;> simp
theorem line63 : (sizeLine : Nat) < 2 ^ 63 := by rw [sizeLine_eq]; decide
theorem tru_ok : TruR X (fun x H Q => ∃ k, TruV X.K x H k ∧ Q k H) := by
  intro pins s σ H x v Q I rx h
  obtain ⟨k, e, q⟩ := h
  have hl := line63
  have hs : sizeLine = 16777216 := sizeLine_eq
  cases x with
  | non =>
    cases rx
    have e' : k = false := e
    subst e'
    exact truthy_none ⟨H, I, q⟩
  | bl b =>
    cases rx
    have e' : k = b := e
    subst e'
    exact wpAny_truthy_bool ⟨H, I, q⟩
  | int i =>
    obtain ⟨t, rfl⟩ := rx
    have e' : k = (i != 0) := e
    subst e'
    exact PySem.P.truthy_int ⟨H, I, q⟩
  | str y =>
    obtain ⟨t, rfl⟩ := rx
    obtain ⟨hy, e'⟩ : y.length ≤ sizeLine ∧ k = ((y.length : Int) != 0) := e
    subst e'
    exact PySem.P.truthy_str (by omega) ⟨H, I.tok _, q⟩
  | byt y =>
    obtain ⟨t, rfl⟩ := rx
    obtain ⟨hy, e'⟩ : y.size ≤ sizeLine ∧ k = ((y.size : Int) != 0) := e
    subst e'
    exact PySem.W.truthy_bytes (by omega) ⟨H, I.tok _, q⟩
  | ref p =>
    cases rx
    have e' : (∃ xs, SqL X.K H p xs ∧ k = !xs.isEmpty) ∨ (∃ xs, SqT X.K H p xs ∧ k = !xs.isEmpty) ∨ ∃ kvs, H p = some (.dK kvs) ∧ k = !kvs.isEmpty := e
    rcases e' with ⟨xs, hx, e'⟩ | ⟨xs, hx, e'⟩ | ⟨kvs, hx, e'⟩
    · subst e'
      obtain ⟨its, r, pl, hz⟩ := I.list hx
      have hlen := r.length
      exact wpAny_truthy_list pl.isList (by simp only [List.size_toArray]; omega) ⟨H, I.tok _, by rw [isEmpty_of r]; exact q⟩
    · subst e'
      obtain ⟨its, r, pl, hz⟩ := I.tuple hx
      have hlen := r.length
      exact truthy_tuple pl (by simp only [List.size_toArray]; omega) ⟨H, I.tok _, by rw [isEmpty_of r]; exact q⟩
    · subst e'
      obtain ⟨hz, hS, vs, r, m⟩ : kvs.length ≤ sizeLine ∧ (p == sysModules) = false ∧ ∃ vs, KV kvs vs ∧ s.heap.DictOf (mixKind X.prog X.w) p vs := I.hok p _ hx
      have hlen : kvs.length = vs.length := Paired.length r
      exact wpAny_truthy_dict hS m (by omega) ⟨H, I.tok _, by rw [isEmpty_kv r]; exact q⟩
  | _ => exact (show False from e).elim
/-- any expression whose test is its value's truth (a name, a call, a subscript, a field ..: he by fun _ => rfl) -/
theorem pt_truth (ha : PE X a ta) (he : ∀ whole, isTrue a X.env whole = (do let v ← whole; standAt a.pos; holding [v] (truthy v))) :
    PT X a (fun σ H Q => ta σ H fun x H' => ∃ k, TruV X.K x H' k ∧ Q k H') := by
  intro pins s σ H Q I h
  exact isTrue_plain (thn (ha pins s σ H _ I h) fun v s1 ⟨x, H1, I1, r1, q1⟩ => tru_ok pins s1 σ H1 x v Q I1 r1 q1) (he _)

/-! ### strs and bytes -/
theorem pe_byt {x : List UInt8} {k : Nat} : PE X (.Constant (.bytes x) k pos) (fun _ H Q => Q (.byt x.toArray) H) := fun _ _ _ H _ I h => PySem.W.Constant_bytes ⟨.byt x.toArray, H, I.tok _, ⟨_, rfl⟩, h⟩
theorem op_add_str : OpR X (binaryOp .Add) (fun x y H Q => ∃ i j, x = .str i ∧ y = .str j ∧ i.length + j.length ≤ sizeLine ∧ Q (.str (i ++ j)) H) := by
  intro pins s σ H x y v u Q I rx ry h
  obtain ⟨i, j, rfl, rfl, hz, q⟩ := h
  obtain ⟨t, rfl⟩ := rx
  obtain ⟨t', rfl⟩ := ry
  exact add_str (fun t' tk => ⟨.str (i ++ j), H, I.tok _, ⟨_, rfl⟩, q⟩) hz
theorem iop_add_str : OpR X (inplaceOp .Add) (fun x y H Q => ∃ i j, x = .str i ∧ y = .str j ∧ i.length + j.length ≤ sizeLine ∧ Q (.str (i ++ j)) H) := by
  intro pins s σ H x y v u Q I rx ry h
  obtain ⟨i, j, rfl, rfl, hz, q⟩ := h
  obtain ⟨t, rfl⟩ := rx
  obtain ⟨t', rfl⟩ := ry
  exact iadd_str (fun t' tk => ⟨.str (i ++ j), H, I.tok _, ⟨_, rfl⟩, q⟩) hz
theorem op_add_byt : OpR X (binaryOp .Add) (fun x y H Q => ∃ i j, x = .byt i ∧ y = .byt j ∧ i.size + j.size ≤ 16777216 ∧ Q (.byt (i ++ j)) H) := by
  intro pins s σ H x y v u Q I rx ry h
  obtain ⟨i, j, rfl, rfl, hz, q⟩ := h
  obtain ⟨t, rfl⟩ := rx
  obtain ⟨t', rfl⟩ := ry
  exact PySem.W.KBy.add_bytes hz (fun t' tk => ⟨.byt (i ++ j), H, I.tok _, ⟨_, rfl⟩, q⟩)

def PlainIxT (b : Expr) : Prop := ∀ o i, subscripted b false o i = operate [o, i] (getItem o i)
/-- s[i], 0 ≤ i < len -/
theorem pe_item_str (ha : PE X a ta) (hb : PE X b tb) (hs : PlainIxT b) :
    PE X (.Subscript a b pos) (tOp (fun x y H Q => ∃ z i c, x = .str z ∧ y = .int i ∧ 0 ≤ i ∧ i < 2 ^ 63 ∧ i < z.length ∧ z.cps[i.toNat]? = some c ∧ Q (.str ⟨#[c]⟩) H) ta tb) := by
  intro pins s σ H Q I h
  refine Subscript_ (binT ha hb I h fun v u s2 x y H2 I2 rx ry q => ?_)
  obtain ⟨z, i, c, rfl, rfl, h0, h63, h1, hc, q⟩ := q
  obtain ⟨t, rfl⟩ := rx
  obtain ⟨t', rfl⟩ := ry
  have e : seqIndex? i z.length = some i.toNat := PySem.StrLaws.seqIndex_nonneg h0 h1
  exact tail_any (typeIs_str s2 z t) slot_str_getitem.lookup (getItem_str (c := c) (by
    have e1 : decide (i < -(2 ^ 63 : Int)) = false := decide_eq_false (by omega)
    have e2 : decide (i ≥ 2 ^ 63) = false := decide_eq_false (by omega)
    rw [e1, e2] <;> rfl) (by rw [e]; exact hc) ⟨.str ⟨#[c]⟩, H2, I2.tok _, ⟨_, rfl⟩, q⟩) (hs _ _)
/-- b[i], 0 ≤ i < len -/
theorem pe_item_byt (ha : PE X a ta) (hb : PE X b tb) (hs : PlainIxT b) :
    PE X (.Subscript a b pos) (tOp (fun x y H Q => ∃ (z : List UInt8) (i : Int), x = .byt z.toArray ∧ y = .int i ∧ z.length ≤ sizeLine ∧ 0 ≤ i ∧ i < z.length ∧ Q (.int ((z.getD i.toNat 0).toNat : Nat)) H) ta tb) := by
  intro pins s σ H Q I h
  refine Subscript_ (binT ha hb I h fun v u s2 x y H2 I2 rx ry q => ?_)
  obtain ⟨z, i, rfl, rfl, hz, h0, h1, q⟩ := q
  obtain ⟨t, rfl⟩ := rx
  obtain ⟨t', rfl⟩ := ry
  have hl : sizeLine = 16777216 := sizeLine_eq
  exact tail_any (PySem.W.typeIs_bytes s2 z.toArray t) PySem.W.FB.slot_bytes_getitem.lookup (PySem.W.getItem_bytes (by omega) h0 h1 ⟨.int ((z.getD i.toNat 0).toNat : Nat), H2, I2.tok _, ⟨_, rfl⟩, q⟩) (hs _ _)

/-! ### scalar builtins, by CallR -/
theorem vals1 {x : V} {us : List Value} (r : Vals [x] us) : ∃ u, us = [u] ∧ RelV x u := by
  cases r with
  | cons r1 r2 => cases r2; exact ⟨_, rfl, r1⟩
theorem vals2 {x y : V} {us : List Value} (r : Vals [x, y] us) : ∃ u w', us = [u, w'] ∧ RelV x u ∧ RelV y w' := by
  cases r with
  | cons r1 r2 =>
    cases r2 with
    | cons r3 r4 => cases r4; exact ⟨_, _, rfl, r1, r3⟩
theorem call_abs : CallR X (.builtin "abs") (fun xs H Q => ∃ i, xs = [.int i] ∧ Q (.int (if i < 0 then -i else i)) H) := by
  intro pins s σ H xs us Q I r h
  obtain ⟨i, rfl, q⟩ := h
  obtain ⟨u, rfl, t, rfl⟩ := vals1 r
  exact call_abs_int fun u tk => ⟨.int (if i < 0 then -i else i), H, I.tok _, ⟨_, rfl⟩, q⟩
theorem call_max2 (hc : X.calm = true) : CallR X (.builtin "max") (fun xs H Q => ∃ i j, xs = [.int i, .int j] ∧ Q (.int (if j > i then j else i)) H) := by
  intro pins s σ H xs us Q I r h
  obtain ⟨i, j, rfl, q⟩ := h
  obtain ⟨u, w', rfl, ⟨t, rfl⟩, ⟨t', rfl⟩⟩ := vals2 r
  refine max_two_ints (I.ok.hd hc) fun h' tk k => ⟨_, H, I.kept k, ?_, q⟩
  by_cases hj : j > i
  · rw [if_pos hj, if_pos hj]; exact ⟨_, rfl⟩
  · rw [if_neg hj, if_neg hj]; exact ⟨_, rfl⟩
theorem call_min2 (hc : X.calm = true) : CallR X (.builtin "min") (fun xs H Q => ∃ i j, xs = [.int i, .int j] ∧ Q (.int (if j < i then j else i)) H) := by
  intro pins s σ H xs us Q I r h
  obtain ⟨i, j, rfl, q⟩ := h
  obtain ⟨u, w', rfl, ⟨t, rfl⟩, ⟨t', rfl⟩⟩ := vals2 r
  refine min_two_ints (I.ok.hd hc) fun h' tk k => ⟨_, H, I.kept k, ?_, q⟩
  by_cases hj : j < i
  · rw [if_pos hj, if_pos hj]; exact ⟨_, rfl⟩
  · rw [if_neg hj, if_neg hj]; exact ⟨_, rfl⟩
theorem call_int1 : CallR X (.type "int") (fun xs H Q => (∃ i, xs = [.int i] ∧ Q (.int i) H) ∨ ∃ k, xs = [.bl k] ∧ Q (.int (if k then 1 else 0)) H) := by
  intro pins s σ H xs us Q I r h
  rcases h with ⟨i, rfl, q⟩ | ⟨k, rfl, q⟩
  · obtain ⟨u, rfl, t, rfl⟩ := vals1 r
    exact call_int_int ⟨.int i, H, I, ⟨_, rfl⟩, q⟩
  · obtain ⟨u, rfl, r1⟩ := vals1 r
    cases r1
    exact call_int_bool ⟨.int (if k then 1 else 0), H, I.tok _, ⟨_, rfl⟩, q⟩
theorem call_bool1 : CallR X (.type "bool") (fun xs H Q => (∃ i, xs = [.int i] ∧ Q (.bl (i != 0)) H) ∨ ∃ k, xs = [.bl k] ∧ Q (.bl k) H) := by
  intro pins s σ H xs us Q I r h
  rcases h with ⟨i, rfl, q⟩ | ⟨k, rfl, q⟩
  · obtain ⟨u, rfl, t, rfl⟩ := vals1 r
    exact call_bool_int ⟨.bl (i != 0), H, I, rfl, q⟩
  · obtain ⟨u, rfl, r1⟩ := vals1 r
    cases r1
    exact call_bool_bool ⟨.bl k, H, I, rfl, q⟩
theorem call_str_int : CallR X (.type "str") (fun xs H Q => ∃ i, xs = [.int i] ∧ i.natAbs.log2 < 1920 ∧ Q (.str (toString i)) H) := by
  intro pins s σ H xs us Q I r h
  obtain ⟨i, rfl, hz, q⟩ := h
  obtain ⟨u, rfl, t, rfl⟩ := vals1 r
  exact PySem.P.str_of_int hz ⟨.str _, H, I.tok _, ⟨_, rfl⟩, q⟩
theorem call_ord : CallR X (.builtin "ord") (fun xs H Q => ∃ x, xs = [.str x] ∧ x.length = 1 ∧ Q (.int (x.cps.getD 0 0 : Nat)) H) := by
  intro pins s σ H xs us Q I r h
  obtain ⟨x, rfl, hz, q⟩ := h
  obtain ⟨u, rfl, t, rfl⟩ := vals1 r
  exact ord_of_one hz ⟨.int _, H, I.tok _, ⟨_, rfl⟩, q⟩
theorem call_chr : CallR X (.builtin "chr") (fun xs H Q => ∃ i, xs = [.int i] ∧ 0 ≤ i ∧ i ≤ 1114111 ∧ Q (.str ⟨#[i.toNat]⟩) H) := by
  intro pins s σ H xs us Q I r h
  obtain ⟨i, rfl, h0, h1, q⟩ := h
  obtain ⟨u, rfl, t, rfl⟩ := vals1 r
  exact chr_of_range h0 h1 ⟨.str _, H, I.tok _, ⟨_, rfl⟩, q⟩
/-- len of a str, a bytes, a list, a tuple -/
def LenV (K : PySem.W.Frag) (x : V) (H : Hp) (n : Nat) : Prop :=
  match x with
  | .str y => y.length ≤ sizeLine ∧ n = y.length
  | .byt y => y.size ≤ sizeLine ∧ n = y.size
  | .ref p => (∃ xs, SqL K H p xs ∧ n = xs.length) ∨ ∃ xs, SqT K H p xs ∧ n = xs.length
  | _ => False
theorem call_len : CallR X (.builtin "len") (fun xs H Q => ∃ x n, xs = [x] ∧ LenV X.K x H n ∧ Q (.int n) H) := by
  intro pins s σ H xs us Q I r h
  obtain ⟨x, n, rfl, e, q⟩ := h
  obtain ⟨u, rfl, rx⟩ := vals1 r
  have hl := line63
  have hs : sizeLine = 16777216 := sizeLine_eq
  cases x with
  | str y =>
    obtain ⟨t, rfl⟩ := rx
    obtain ⟨hy, e'⟩ : y.length ≤ sizeLine ∧ n = y.length := e
    subst e'
    exact len_str (by omega) ⟨.int _, H, I.tok _, ⟨_, rfl⟩, q⟩
  | byt y =>
    obtain ⟨t, rfl⟩ := rx
    obtain ⟨hy, e'⟩ : y.size ≤ sizeLine ∧ n = y.size := e
    subst e'
    exact PySem.W.len_bytes (by omega) ⟨.int _, H, I.tok _, ⟨_, rfl⟩, q⟩
  | ref p =>
    cases rx
    have e' : (∃ xs, SqL X.K H p xs ∧ n = xs.length) ∨ ∃ xs, SqT X.K H p xs ∧ n = xs.length := e
    rcases e' with ⟨xs, hx, e'⟩ | ⟨xs, hx, e'⟩
    · subst e'
      obtain ⟨its, r', pl, hz⟩ := I.list hx
      have hlen := r'.length
      exact Calls.call_len_list pl.isList (by simp only [List.size_toArray]; omega) ⟨.int xs.length, H, I.tok _, ⟨_, by simp only [List.size_toArray]; rw [hlen]⟩, q⟩
    · subst e'
      obtain ⟨its, r', pl, hz⟩ := I.tuple hx
      have hlen := r'.length
      exact len_tuple pl (by simp only [List.size_toArray]; omega) ⟨.int xs.length, H, I.tok _, ⟨_, by simp only [List.size_toArray]; rw [hlen]⟩, q⟩
  | _ => exact (show False from e).elim
/-- divmod: a new tuple -/
theorem call_divmod : CallR X (.builtin "divmod") (fun xs H Q => ∃ i j, xs = [.int i, .int j] ∧ CDiv i j ∧ ∀ p, H p = none → Q (.ref p) (upd H p (.tup [.int (i / j), .int (i % j)]))) := by
  intro pins s σ H xs us Q I r h
  obtain ⟨i, j, rfl, ⟨h1, h2⟩, q⟩ := h
  obtain ⟨u, w', rfl, ⟨t, rfl⟩, ⟨t', rfl⟩⟩ := vals2 r
  refine divmod_int (by omega) ?_ (.inl (PyProof.noPylong_small (by omega)))
  rw [Int.fdiv_eq_ediv_of_nonneg i (by omega), Int.fmod_eq_emod_of_nonneg i (by omega)]
  have hn : H s.heap.objs.size = none := I.hok.fresh (Nat.le_refl _)
  refine ⟨.ref s.heap.objs.size, _, ?_, rfl, q _ hn⟩
  refine I.laid (fun b o e => Heap.get?_push_of_some _ e) (Nat.le_refl _) ⟨by simp only [List.length_cons, List.length_nil]; rw [sizeLine_eq]; decide, [.int (i / j) s.toks, .int (i % j) (s.toks + 1)], .cons ⟨_, rfl⟩ (.cons ⟨_, rfl⟩ .nil), ?_⟩
  exact ⟨_, Heap.get?_push_size s.heap rfl, rfl, 0, rfl⟩
end
end L2

namespace L2
open PySem PySem.Spec PyProof.Rows

/-! ### an instance, its attributes a map -/
structure ObjM (h : Heap) (x dx C : Addr) (mA : Str → Option Value) : Prop where
  obj : h.get? x = some (PySem.W.instObj C dx)
  ns : h.Ns1 dx mA
  ne : dx ≠ x

theorem lookIn_ns {h : Heap} {dx : Addr} {mA : Str → Option Value} (n : h.Ns1 dx mA) : ∃ od, h.get? dx = some od ∧ ∀ name, PySem.W.lookIn name od = some (mA name) := by
  obtain ⟨o, es, ep, ho, hd, hk, _, hm⟩ := n
  refine ⟨o, ho, fun name => ?_⟩
  have e := hm name
  unfold nsFind findBy at e
  rw [← Array.find?_toList] at e
  unfold PySem.W.lookIn
  rw [hd]
  dsimp only
  split
  · rename_i y q
    rw [q] at e
    exact congrArg some e
  · rename_i q
    rw [q] at e
    have a : es.toList.any (·.refKey) = false := by
      rw [List.any_eq_false]
      intro y hy
      obtain ⟨z, t, hkey⟩ := hk y (Array.mem_toList_iff.mp hy)
      simp [DictEntry.refKey, hkey]
    have a' : ¬ es.toList.any (·.refKey) = true := by rw [a]; exact Bool.false_ne_true
    rw [if_neg a']
    exact congrArg some e

theorem ObjM.look {h : Heap} {x dx C : Addr} {mA : Str → Option Value} (I : ObjM h x dx C mA) : ∃ od, PySem.W.InstAt h x (PySem.W.instObj C dx) C (some od) ∧ ∀ name, PySem.W.lookIn name od = some (mA name) :=
  let ⟨od, ho, hl⟩ := lookIn_ns I.ns
  ⟨od, ⟨I.obj, rfl, rfl, ho⟩, hl⟩

section
variable {prog : Program} {w : World} {A : Around} {E : Value → Shared → Prop} {s : Shared} {K : PySem.W.Frag} {x dx C f : Addr} {mA : Str → Option Value} {name : Str} {v : Value}

theorem get_map {expr : Bool} {Q : Value → Shared → Prop} (X : K.In s.heap) (I : ObjM s.heap x dx C mA) (hg : PySem.W.plainGet K C name = true) (hh : PySem.W.hasDictIn K C = true)
    (ha : PySem.W.findIn K (.ref C) name = some none) (hv : mA name = some v) (hv' : PySem.W.handedIn v = true) (h : Q v { s with toks := s.toks + 1 }) :
    wpAny (model prog w) A (getAttr (.ref x) name expr) Q E s := by
  obtain ⟨od, J, hl⟩ := I.look
  exact PySem.W.get_value X J (PySem.W.plainGet_of hg).1 (PySem.W.findObj_own hh ha rfl (by rw [hl, hv])) hv' h

theorem get_const {expr : Bool} {a : Value} {Q : Value → Shared → Prop} (X : K.In s.heap) (I : ObjM s.heap x dx C mA) (hg : PySem.W.plainGet K C name = true) (hh : PySem.W.hasDictIn K C = true)
    (ha : PySem.W.findIn K (.ref C) name = some (some a)) (hn : PySem.W.specialIn K a "__get__" = some none) (hc : PySem.W.copiedNames.contains name = false) (hv : mA name = none) (hv' : PySem.W.handedIn a = true)
    (h : Q a { s with toks := s.toks + 1 }) : wpAny (model prog w) A (getAttr (.ref x) name expr) Q E s := by
  obtain ⟨od, J, hl⟩ := I.look
  exact PySem.W.get_value X J (PySem.W.plainGet_of hg).1 (PySem.W.findObj_cls hh ha hn hv' hc (by rw [hl, hv])) hv' h

theorem get_meth {pl : Sem Bool} {Q : Value × List Value → Shared → Prop} (X : K.In s.heap) (I : ObjM s.heap x dx C mA) (hg : PySem.W.plainGet K C name = true)
    (hf : PySem.W.findIn K (.ref C) name = some (some (.ref f))) (ht : PySem.W.isFn K (.ref f) = true) (hv : mA name = none) (h : Q (.ref f, [.ref x]) s) :
    wpAny (model prog w) A (getMethod (.ref x) name pl) Q E s := by
  obtain ⟨od, J, hl⟩ := I.look
  exact PySem.W.method_fn X J (PySem.W.plainGet_of hg).1 (PySem.W.plainGet_of hg).2 hf (beq_iff_eq.mp ht) (by show (PySem.W.lookIn name od).map (·.isSome) = some false; rw [hl, hv]; rfl) h

theorem set_map {ns : List Str} {Q : Unit → Shared → Prop} (X : K.In s.heap) (I : ObjM s.heap x dx C mA)
    (hs : PySem.W.findIn K (.ref C) "__setattr__" = some (some (.builtin "object.__setattr__"))) (hp : PySem.W.plainOver K C = true) (ht : PySem.W.takerIn K C name = some none) (hh : PySem.W.hasDictIn K C = true)
    (hw : PySem.Within mA ns) (hsz : ns.length ≤ sizeLine)
    (h : ∀ h', ObjM h' x dx C (fun y => if y = name then some v else mA y) → Heap.SameBut dx s.heap h' → Q () { s with heap := h', toks := s.toks + 2 }) :
    wpAny (model prog w) A (setAttr (.ref x) name v) Q E s := by
  obtain ⟨od, J, hl⟩ := I.look
  refine PySem.W.set_plain X J hs (PySem.W.osa_open (s := { s with toks := s.toks + 1 }) (r := none) X J hp ht fun b => ?_)
  obtain ⟨cd, hc, hd'⟩ := PySem.W.any_some hh
  have hx : s.heap.get? x = some ⟨.ref C, some dx, .plain, #[]⟩ := I.obj
  refine wpAny_bind (wpAny_pure (wpAny_bind (wpAny_bind (wpAny_loadPart hx (wpAny_bind (PySem.W.Looks.here (s := { s with toks := s.toks + 1 }) (PySem.W.looks_clsIn X hc) ?_))))))
  rw [hd']
  refine wpAny_pure (a := some dx) (wpAny_bind (wpAny_pure (wpAny_bind ?_)))
  refine wpAny_nsSet1 (s := { s with toks := s.toks + 1 }) I.ns fun h' hn2 hs2 => ?_
  obtain ⟨oD, esD, epD, hoD, hdD, hcD⟩ := hn2.count (PySem.Within.cons name v hw)
  refine wpAny_bind (wpAny_lookBehind hoD (by rw [hdD]; exact pastItsLine_dict (Nat.le_trans hcD (by rw [List.length_cons]; omega))) ?_)
  exact wpAny_pure (h _ ⟨(hs2.2 _ (Ne.symm I.ne)).trans I.obj, hn2, I.ne⟩ hs2)

/-- C(..): the dict at the heap's end, the instance behind it; then its __init__ -/
theorem make_map {R : Result → Shared → Prop} {vs : List Value} {kw : List (Str × Value)} (X : K.In s.heap) (hm : PySem.W.makesIn K C = true)
    (hi : PySem.W.findIn K (.ref C) "__init__" = some (some (.ref f))) (hf : PySem.W.typeIn K (.ref f) = some (.type "function"))
    (h : codeAny (model prog w) (A.under (.builtin "type.__call__" ⟨.ref C :: vs, kw⟩)) (.call (.ref f) ⟨.ref (s.heap.objs.size + 1) :: vs, kw⟩) (PySem.W.InitBack (s.heap.objs.size + 1) R)
      { s with heap := (s.heap.push PySem.W.emptyDict).push (PySem.W.instObj C s.heap.objs.size) }) :
    codeAny (model prog w) A (.call (.ref C) ⟨vs, kw⟩) R s := by
  obtain ⟨hh, g, d, t, os⟩ := s
  exact PySem.W.make_core (PySem.W.makes_of X hm) (PySem.W.looks_findIn X hi) (fun self => PySem.W.bind_fn X self hf) (.inl rfl) h
/-- C() where there is no __init__ but object's -/
theorem make_map0 {R : Result → Shared → Prop} (X : K.In s.heap) (hm : PySem.W.makesIn K C = true)
    (hi : PySem.W.findIn K (.ref C) "__init__" = some (some (.builtin "object.__init__")))
    (hb : ∀ self, PySem.W.Looks (model prog w) s.heap (bindSpecial (.builtin "object.__init__") self) (.builtin "object.__init__", [self]))
    (h : codeAny (model prog w) (A.under (.builtin "type.__call__" ⟨[.ref C], []⟩)) (.call (.builtin "object.__init__") ⟨[.ref (s.heap.objs.size + 1)], []⟩) (PySem.W.InitBack (s.heap.objs.size + 1) R)
      { s with heap := (s.heap.push PySem.W.emptyDict).push (PySem.W.instObj C s.heap.objs.size) }) :
    codeAny (model prog w) A (.call (.ref C) ⟨[], []⟩) R s := by
  obtain ⟨hh, g, d, t, os⟩ := s
  exact PySem.W.make_core (PySem.W.makes_of X hm) (PySem.W.looks_findIn X hi) hb (.inr ⟨rfl, rfl⟩) h
end

/-! ### the attributes as a list of pairs -/
def putF (f : Str) (v : V) : List (Str × V) → List (Str × V)
  | [] => [(f, v)]
  | (g, x) :: r => if g = f then (g, v) :: r else (g, x) :: putF f v r
theorem lookup_putF (f g : Str) (v : V) : ∀ fs : List (Str × V), (putF f v fs).lookup g = if g = f then some v else fs.lookup g
  | [] => by
    show List.lookup g [(f, v)] = _
    by_cases h : g = f
    · have hb : (g == f) = true := beq_iff_eq.mpr h
      simp only [List.lookup, hb, if_pos h]
    · have hb : (g == f) = false := beq_eq_false_iff_ne.mpr h
      simp only [List.lookup, hb, if_neg h]
  | (k, x) :: r => by
    have ih := lookup_putF f g v r
    rw [show putF f v ((k, x) :: r) = (if k = f then (k, v) :: r else (k, x) :: putF f v r) from rfl]
    by_cases hk : k = f
    · rw [if_pos hk]
      by_cases h : g = k
      · have hb : (g == k) = true := beq_iff_eq.mpr h
        simp only [List.lookup, hb, if_pos (h.trans hk)]
      · have hb : (g == k) = false := beq_eq_false_iff_ne.mpr h
        simp only [List.lookup, hb, if_neg (fun e : g = f => h (e.trans hk.symm))]
    · rw [if_neg hk]
      by_cases h : g = k
      · have hb : (g == k) = true := beq_iff_eq.mpr h
        simp only [List.lookup, hb, if_neg (fun e : g = f => hk (h.symm.trans e))]
      · have hb : (g == k) = false := beq_eq_false_iff_ne.mpr h
        simp only [List.lookup, hb]
        exact ih
theorem keys_putF (f : Str) (v : V) : ∀ fs : List (Str × V), f ∈ (putF f v fs).map (·.1) ∧ ∀ g, g ∈ fs.map (·.1) → g ∈ (putF f v fs).map (·.1)
  | [] => ⟨by simp [putF], fun g h => by simp at h⟩
  | (k, x) :: r => by
    obtain ⟨i1, i2⟩ := keys_putF f v r
    rw [show putF f v ((k, x) :: r) = (if k = f then (k, v) :: r else (k, x) :: putF f v r) from rfl]
    by_cases hk : k = f
    · rw [if_pos hk]
      subst hk
      exact ⟨by simp, fun g h => by simpa using h⟩
    · rw [if_neg hk]
      refine ⟨?_, fun g h => ?_⟩
      · rw [List.map_cons]
        exact List.mem_cons_of_mem _ i1
      · rw [List.map_cons] at h ⊢
        rcases List.mem_cons.mp h with e | e
        · exact List.mem_cons.mpr (.inl e)
        · exact List.mem_cons_of_mem _ (i2 g e)
theorem length_putF (f : Str) (v : V) : ∀ fs : List (Str × V), (putF f v fs).length ≤ fs.length + 1
  | [] => by simp [putF]
  | (k, x) :: r => by
    have ih := length_putF f v r
    rw [show putF f v ((k, x) :: r) = (if k = f then (k, v) :: r else (k, x) :: putF f v r) from rfl]
    by_cases hk : k = f
    · rw [if_pos hk, List.length_cons, List.length_cons]; omega
    · rw [if_neg hk, List.length_cons, List.length_cons]; omega

theorem RelO.some_of {v : V} {o : Option Value} (r : RelO (some v) o) : ∃ u, o = some u ∧ RelV v u := by
  cases o with
  | none => exact (show False from r).elim
  | some u => exact ⟨u, rfl, r⟩
theorem RelO.none_of {o : Option Value} (r : RelO none o) : o = none := by
  cases o with
  | none => rfl
  | some u => exact (show False from r).elim
theorem handed_of {v : V} {u : Value} (r : RelV v u) : PySem.W.handedIn u = true := by
  cases v with
  | non => cases (show u = Value.none from r); rfl
  | bl b => cases (show u = Value.bool b from r); rfl
  | int i => obtain ⟨t, e⟩ := (show ∃ t, u = Value.int i t from r); cases e; rfl
  | str x => obtain ⟨t, e⟩ := (show ∃ t, u = Value.str x t from r); cases e; rfl
  | byt b => obtain ⟨t, e⟩ := (show ∃ t, u = Value.bytes b t from r); cases e; rfl
  | flt b => obtain ⟨t, e⟩ := (show ∃ t, u = Value.float b t from r); cases e; rfl
  | ref a => cases (show u = Value.ref a from r); rfl
  | ty n => cases (show u = Value.type n from r); rfl

section
variable {P : Program} {w : World} {H H' : Hp} {h h' : Heap} {a C dx : Addr} {fs fs' : List (Str × V)}
theorem ins_get (hok : HOk P w H h) (e : H a = some (.ins C dx fs)) : ∃ mA, ObjM h a dx C mA ∧ (∀ f, RelO (fs.lookup f) (mA f)) ∧ PySem.Within mA (fs.map (·.1)) ∧ fs.length ≤ 1000 ∧ H dx = some (.own a) := by
  obtain ⟨d, z, ne, ob, mA, n, r, q⟩ := (show ObjOk P w H h a (.ins C dx fs) from hok a _ e)
  exact ⟨mA, ⟨ob, n, ne⟩, r, q, z, d⟩
end

/-! ### what of the text a class must have -/
structure Cls (K : PySem.W.Frag) (C : Addr) : Prop where
  pg : PySem.W.plainGet K C Str.empty = true
  hd : PySem.W.hasDictIn K C = true
  po : PySem.W.plainOver K C = true
  sa : PySem.W.findIn K (.ref C) "__setattr__" = some (some (.builtin "object.__setattr__"))
theorem Cls.get {K : PySem.W.Frag} {C : Addr} (c : Cls K C) (f : Str) : PySem.W.plainGet K C f = true := c.pg
/-- no class of it has the name -/
def NoAttr (K : PySem.W.Frag) (C : Addr) (f : Str) : Prop := PySem.W.findIn K (.ref C) f = some none
theorem NoAttr.taker {K : PySem.W.Frag} {C : Addr} {f : Str} (n : NoAttr K C f) : PySem.W.takerIn K C f = some none := by
  unfold PySem.W.takerIn
  rw [show PySem.W.findIn K (.ref C) f = some none from n]
  rfl
/-- a constant of the class -/
structure Con (K : PySem.W.Frag) (C : Addr) (f : Str) (v : V) (u : Value) : Prop where
  at_ : PySem.W.findIn K (.ref C) f = some (some u)
  rel : RelV v u
  get : PySem.W.specialIn K u "__get__" = some none
  cp : PySem.W.copiedNames.contains f = false
/-- a method: a plain def of the class or of one above it -/
structure Meth (K : PySem.W.Frag) (C : Addr) (m : Str) (f : Addr) : Prop where
  at_ : PySem.W.findIn K (.ref C) m = some (some (.ref f))
  fn : PySem.W.isFn K (.ref f) = true
  kp : PySem.W.keepIn K (.ref f) = true

section
variable {X : Cx} {pins : List (Addr × Obj)} {σ : St} {H : Hp} {s : Shared} {a C dx : Addr} {fs : List (Str × V)} {f : Str} {v : V} {A : Around} {E : Value → Shared → Prop}

theorem getattr_ok {b : Bool} {Q : Value → Shared → Prop} (I : Inv X pins σ H s) (e : H a = some (.ins C dx fs)) (c : Cls X.K C) (n : NoAttr X.K C f) (l : fs.lookup f = some v)
    (h : ∀ u s', Inv X pins σ H s' → RelV v u → Q u s') : wpAny (model X.prog X.w) A (getAttr (.ref a) f b) Q E s := by
  obtain ⟨mA, O, r, _, _, _⟩ := ins_get I.hok e
  obtain ⟨u, hu, ru⟩ := RelO.some_of (v := v) (o := mA f) (by rw [← l]; exact r f)
  exact get_map I.kIn O (c.get f) c.hd n hu (handed_of ru) (h u _ (I.tok _) ru)

theorem getcon_ok {b : Bool} {u : Value} {Q : Value → Shared → Prop} (I : Inv X pins σ H s) (e : H a = some (.ins C dx fs)) (c : Cls X.K C) (k : Con X.K C f v u) (l : fs.lookup f = none)
    (h : ∀ s', Inv X pins σ H s' → Q u s') : wpAny (model X.prog X.w) A (getAttr (.ref a) f b) Q E s := by
  obtain ⟨mA, O, r, _, _, _⟩ := ins_get I.hok e
  have hn : mA f = none := RelO.none_of (by rw [← l]; exact r f)
  exact get_const I.kIn O (c.get f) c.hd k.at_ k.get k.cp hn (handed_of k.rel) (h _ (I.tok _))

theorem getmeth_ok {m : Str} {g : Addr} {pl : Sem Bool} {Q : Value × List Value → Shared → Prop} (I : Inv X pins σ H s) (e : H a = some (.ins C dx fs)) (c : Cls X.K C) (k : Meth X.K C m g) (l : fs.lookup m = none)
    (h : Q (.ref g, [.ref a]) s) : wpAny (model X.prog X.w) A (getMethod (.ref a) m pl) Q E s := by
  obtain ⟨mA, O, r, _, _, _⟩ := ins_get I.hok e
  have hn : mA m = none := RelO.none_of (by rw [← l]; exact r m)
  exact get_meth I.kIn O (c.get m) k.at_ k.fn hn h

theorem setattr_ok {y : V} {u : Value} {Q : Unit → Shared → Prop} (I : Inv X pins σ H s) (e : H a = some (.ins C dx fs)) (c : Cls X.K C) (n : NoAttr X.K C f) (hl : fs.length < 1000) (ry : RelV y u)
    (h : ∀ s', Inv X pins σ (upd H a (.ins C dx (putF f y fs))) s' → Q () s') : wpAny (model X.prog X.w) A (setAttr (.ref a) f u) Q E s := by
  obtain ⟨mA, O, r, wi, _, ho⟩ := ins_get I.hok e
  have hz : (fs.map (·.1)).length ≤ sizeLine := by rw [List.length_map, sizeLine_eq]; omega
  refine set_map I.kIn O c.sa c.po n.taker c.hd wi hz fun h' O' sb => h _ ?_
  have hd : ∃ o, h'.get? dx = some o := let ⟨o, _, _, e', _⟩ := O'.ns; ⟨o, e'⟩
  refine I.write (x := a) (e := dx) (by rw [e]; exact True.intro) (.inr ho) (fun b q hb z => (sb.2 b hb).trans z) hd ?_
  refine ⟨by rw [upd_ne O.ne]; exact ho, ?_, O.ne, O'.obj, _, O'.ns, fun g => ?_, fun g hg => ?_⟩
  · have := length_putF f y fs; omega
  · show RelO ((putF f y fs).lookup g) (if g = f then some u else mA g)
    rw [lookup_putF]
    by_cases q : g = f
    · rw [if_pos q, if_pos q]; exact ry
    · rw [if_neg q, if_neg q]; exact r g
  · by_cases q : g = f
    · rw [q]; exact (keys_putF f y fs).1
    · refine (keys_putF f y fs).2 g (wi g fun z => hg ?_)
      show (if g = f then some u else mA g) = none
      rw [if_neg q]; exact z

/-- a new instance, tracked, without attributes -/
theorem Inv.made (I : Inv X pins σ H s) : Inv X pins σ (upd (upd H s.heap.objs.size (.own (s.heap.objs.size + 1))) (s.heap.objs.size + 1) (.ins C s.heap.objs.size []))
    { s with heap := (s.heap.push PySem.W.emptyDict).push (PySem.W.instObj C s.heap.objs.size) } := by
  have e1 : (s.heap.push PySem.W.emptyDict).get? s.heap.objs.size = some PySem.W.emptyDict := Heap.get?_push_size s.heap rfl
  have e2 : ((s.heap.push PySem.W.emptyDict).push (PySem.W.instObj C s.heap.objs.size)).get? (s.heap.objs.size + 1) = some (PySem.W.instObj C s.heap.objs.size) := by
    have := Heap.get?_push_size (s.heap.push PySem.W.emptyDict) (o := PySem.W.instObj C s.heap.objs.size) rfl
    rwa [Heap.size_push] at this
  have e3 : (s.heap.push PySem.W.emptyDict).Ns s.heap.objs.size (fun _ => none) := ⟨PySem.W.emptyDict, #[], _, e1, rfl, (fun e he => absurd he (by simp)), fun _ => rfl⟩
  have I1 := I.laid (a := s.heap.objs.size) (o := .own (s.heap.objs.size + 1)) (h' := s.heap.push PySem.W.emptyDict) (t' := s.toks) (fun b u q => Heap.get?_push_of_some _ q) (Nat.le_refl _) ⟨_, e1⟩
  refine I1.laid (a := s.heap.objs.size + 1) (o := .ins C s.heap.objs.size []) (t' := s.toks) (fun b u q => Heap.get?_push_of_some _ q) (Nat.le_of_eq (Heap.size_push _ _)) ?_
  have ne : s.heap.objs.size ≠ s.heap.objs.size + 1 := Nat.ne_of_lt (Nat.lt_succ_self _)
  refine ⟨by rw [upd_ne ne, upd_same], Nat.zero_le _, ne, e2, fun _ => none, (Heap.Ns1.of_empty e3).at fun o q => Heap.get?_push_of_some _ q, fun _ => True.intro, fun y hy => absurd rfl hy⟩

/-- e.f where nothing but the object is asked: through attributeBase (super) and the last hold -/
theorem attr_of {prog : Program} {w : World} {env : Env} {e : Expr} {f : Str} {pos : Pos} {s : Shared} {Q : Value → Shared → Prop} (hb : attributeBase e f env (eval e env) = eval e env)
    (h : wpAny (model prog w) A (eval e env) (fun o s₁ => wpAny (model prog w) A (getAttr o f true) Q E s₁) E s) : wpAny (model prog w) A (eval (.Attribute e f pos) env) Q E s :=
  Attribute_any_ h (by rw [arm_eval_Attribute, hb])
end

/-! ### readings and rules -/
/-- e.f, an attribute of the instance -/
def tFld (K : PySem.W.Frag) (ta : TE) (f : Str) : TE := fun σ H Q => ta σ H fun x H1 => ∃ a C dx fs v, x = .ref a ∧ H1 a = some (.ins C dx fs) ∧ Cls K C ∧ NoAttr K C f ∧ fs.lookup f = some v ∧ Q v H1
/-- e.f, a constant of the class -/
def tCon (K : PySem.W.Frag) (ta : TE) (f : Str) : TE := fun σ H Q => ta σ H fun x H1 => ∃ a C dx fs v u, x = .ref a ∧ H1 a = some (.ins C dx fs) ∧ Cls K C ∧ Con K C f v u ∧ fs.lookup f = none ∧ Q v H1
/-- e.f = value -/
def sFld (K : PySem.W.Frag) (ta tv : TE) (f : Str) : TS := fun D σ H => tv σ H fun y H1 => ta σ H1 fun x H2 => ∃ a C dx fs, x = .ref a ∧ H2 a = some (.ins C dx fs) ∧ Cls K C ∧ NoAttr K C f ∧ fs.length < 1000 ∧
  D.nx σ (upd H2 a (.ins C dx (putF f y fs)))
/-- an augmented operator on two values -/
def InOp (X : Cx) (op : Operator) (rd : V → V → Hp → VK → Prop) : Prop :=
  ∀ (pins : List (Addr × Obj)) (s : Shared) (σ : St) (H : Hp) (x y : V) (u v : Value) (Q : VK), Inv X pins σ H s → RelV x u → RelV y v → rd x y H Q → wpAny (model X.prog X.w) X.A (inplaceOp op u v) (EP X pins σ Q) X.xe s
/-- e.f op= value -/
def sFldAug (K : PySem.W.Frag) (ta tv : TE) (rd : V → V → Hp → VK → Prop) (f : Str) : TS := fun D σ H => ta σ H fun x H1 => ∃ a C dx fs v, x = .ref a ∧ H1 a = some (.ins C dx fs) ∧ Cls K C ∧ NoAttr K C f ∧ fs.lookup f = some v ∧
  tv σ H1 fun y H2 => rd v y H2 fun z H3 => ∃ dx' fs', H3 a = some (.ins C dx' fs') ∧ fs'.length < 1000 ∧ D.nx σ (upd H3 a (.ins C dx' (putF f z fs')))

section
variable {X : Cx} {o e value : Expr} {f : Str} {pos pos' tpos : Pos} {ta tv : TE}
theorem pe_fld (he : PE X e ta) (hb : attributeBase e f X.env (eval e X.env) = eval e X.env) : PE X (.Attribute e f pos) (tFld X.K ta f) := by
  intro pins s σ H Q I h
  refine attr_of hb (thn (he pins s σ H _ I h) fun u s1 ⟨x, H1, I1, rx, a, C, dx, fs, v, ex, ea, c, n, l, q⟩ => ?_)
  subst ex
  obtain rfl : u = Value.ref a := rx
  exact getattr_ok I1 ea c n l fun u' s2 I2 ru => ⟨v, H1, I2, ru, q⟩
theorem pe_con (he : PE X e ta) (hb : attributeBase e f X.env (eval e X.env) = eval e X.env) : PE X (.Attribute e f pos) (tCon X.K ta f) := by
  intro pins s σ H Q I h
  refine attr_of hb (thn (he pins s σ H _ I h) fun u s1 ⟨x, H1, I1, rx, a, C, dx, fs, v, u0, ex, ea, c, k, l, q⟩ => ?_)
  subst ex
  obtain rfl : u = Value.ref a := rx
  exact getcon_ok I1 ea c k l fun s2 I2 => ⟨v, H1, I2, k.rel, q⟩
theorem ps_fld (ha : PE X o ta) (hv : PE X value tv) (hs : swapsWith value (some (.Attribute o f pos')) pos.line X.env = pure false) : PS X (.Assign [.Attribute o f pos'] value pos) (sFld X.K ta tv f) := by
  intro pins s σ H D I h
  refine plainObj_wpAny_Assign_Attribute (thn (hv pins s σ H _ I h) fun u s1 ⟨y, H1, I1, ry, q⟩ => thn (ha pins s1 σ H1 _ I1 q) fun ov s2 ⟨x, H2, I2, rx, a, C, dx, fs, ex, ea, c, n, l, q2⟩ => ?_) hs
  subst ex
  obtain rfl : ov = Value.ref a := rx
  exact setattr_ok I2 ea c n l ry fun s3 I3 => ⟨σ, _, I3, q2⟩
theorem ps_fldaug {op : Operator} {rd : V → V → Hp → VK → Prop} (ha : PE X o ta) (hv : PE X value tv) (hop : InOp X op rd) : PS X (.AugAssign (.Attribute o f tpos) op value pos) (sFldAug X.K ta tv rd f) := by
  intro pins s σ H D I h
  refine wpAny_AugAssign_AttributeAny (thn (ha pins s σ H _ I h) fun ov s1 ⟨x, H1, I1, rx, a, C, dx, fs, v, ex, ea, c, n, l, q⟩ => ?_)
  subst ex
  obtain rfl : ov = Value.ref a := rx
  refine getattr_ok I1 ea c n l fun u s2 I2 ru => thn (hv pins s2 σ H1 _ I2 q) fun w3 s3 ⟨y, H2, I3, ry, q3⟩ => thn (hop pins s3 σ H2 v y u w3 _ I3 ru ry q3) fun w4 s4 ⟨z, H3, I4, rz, dx', fs', ea', l', q4⟩ => ?_
  exact setattr_ok I4 ea' c n l' rz fun s5 I5 => ⟨σ, _, I5, q4⟩
def rAdd : V → V → Hp → VK → Prop := fun x y H Q => ∃ i j, x = .int i ∧ y = .int j ∧ Q (.int (i + j)) H
def rSub : V → V → Hp → VK → Prop := fun x y H Q => ∃ i j, x = .int i ∧ y = .int j ∧ Q (.int (i - j)) H
theorem in_add : InOp X .Add rAdd := by
  rintro pins s σ H x y u v Q I rx ry ⟨i, j, rfl, rfl, q⟩
  obtain ⟨t, rfl⟩ := (show ∃ t, u = Value.int i t from rx)
  obtain ⟨t', rfl⟩ := (show ∃ t', v = Value.int j t' from ry)
  exact PyProof.Rows.iadd_int ⟨.int (i + j), H, I.tok _, ⟨_, rfl⟩, q⟩
theorem in_sub : InOp X .Sub rSub := by
  rintro pins s σ H x y u v Q I rx ry ⟨i, j, rfl, rfl, q⟩
  obtain ⟨t, rfl⟩ := (show ∃ t, u = Value.int i t from rx)
  obtain ⟨t', rfl⟩ := (show ∃ t', v = Value.int j t' from ry)
  exact PyProof.Rows.isub_int ⟨.int (i - j), H, I.tok _, ⟨_, rfl⟩, q⟩

/-- what is between an instance and its method: the tree of a method call -/
theorem methcall_of {pl : Sem Bool} {m : Str} {apos : Pos} {args : List Expr} {pins : List (Addr × Obj)} {s : Shared} {σ : St} {H : Hp} {Q : Value → Shared → Prop} {te : TE} (he : PE X e te) (I : Inv X pins σ H s)
    (h : te σ H fun x H1 => ∃ a C dx fs g, x = .ref a ∧ H1 a = some (.ins C dx fs) ∧ Cls X.K C ∧ Meth X.K C m g ∧ fs.lookup m = none ∧
      ∀ s1, Inv X pins σ H1 s1 → wpAny (model X.prog X.w) X.A (callWith pos (.ref g) [.ref a] (backTo pos (starEach args X.env)) (backToKw pos (keywordEach [] X.env))) Q X.xe s1)
    (ht : eval (.Call (.Attribute e m apos) args [] pos) X.env = (do
      let ov ← eval e X.env
      standAt apos.atName
      let (f, first) ← holding [ov] (getMethod ov m pl)
      callWith pos f first (backTo pos (starEach args X.env)) (backToKw pos (keywordEach [] X.env)))) :
    wpAny (model X.prog X.w) X.A (eval (.Call (.Attribute e m apos) args [] pos) X.env) Q X.xe s := by
  refine PySem.W.methodCall_KW (pl := pl) (thn (he pins s σ H _ I h) fun u s1 ⟨x, H1, I1, rx, a, C, dx, fs, g, ex, ea, c, k, l, q⟩ => ?_) ht
  subst ex
  obtain rfl : u = Value.ref a := rx
  exact getmeth_ok I1 ea c k l (q s1 I1)
end

/-! ### isinstance -/
section
variable {X : Cx} {pins : List (Addr × Obj)} {σ : St} {H : Hp} {s : Shared} {A : Around} {E : Value → Shared → Prop} {Q : Value → Shared → Prop} {c : Value} {b : Bool}
/-- the type of a value, as the fragment's deciders take it; for an instance its class -/
inductive TyOf (K : PySem.W.Frag) (H : Hp) : V → Value → Prop where
  | non : TyOf K H .non (.type "NoneType")
  | bl (x : Bool) : TyOf K H (.bl x) (.type "bool")
  | int (i : Int) : TyOf K H (.int i) (.type "int")
  | str (x : Str) : TyOf K H (.str x) (.type "str")
  | flt (x : UInt64) : TyOf K H (.flt x) (.type "float")
  | lst {a : Addr} {xs : List V} (e : H a = some (.lst xs)) : TyOf K H (.ref a) (.type "list")
  | frz {a : Addr} {o : Obj} {xs : List V} (e : H a = some (.frz o (.lst xs))) : TyOf K H (.ref a) (.type "list")
  | tup {a : Addr} {xs : List V} (e : H a = some (.tup xs)) : TyOf K H (.ref a) (.type "tuple")
  | dK {a : Addr} {kvs : List (Key × V)} (e : H a = some (.dK kvs)) : TyOf K H (.ref a) (.type "dict")
  | dT {a : Addr} {kvs : List (List Key × V)} (e : H a = some (.dT kvs)) : TyOf K H (.ref a) (.type "dict")
  | ins {a C dx : Addr} {fs : List (Str × V)} (e : H a = some (.ins C dx fs)) (cl : Cls K C) (ha : PySem.W.findIn K (.ref C) "__class__" = some (some (.builtin "object.__class__")))
      (hn : PySem.W.specialIn K (.builtin "object.__class__") "__get__" = some (some (.builtin "getset_descriptor.__get__"))) (htk : PySem.W.takesIn K (.builtin "object.__class__") = some true)
      (hm : PySem.W.mroIn K C (.type "object") = some true) : TyOf K H (.ref a) (.ref C)
end
end L2

namespace L2
open PySem PySem.Spec PyProof.Rows

/-! ### room -/
structure Room (k : Nat) (A : Around) : Prop where
  hd : A.handled = none
  dp : A.depth + 3 * k + 5 < recursionLimit
  un : A.units + 16 * k + 200 < cLine
theorem Room.mono {j k : Nat} {A : Around} (r : Room k A) (h : j ≤ k) : Room j A := ⟨r.hd, by have := r.dp; omega, by have := r.un; omega⟩
theorem Room.deeper {k : Nat} {A : Around} (r : Room (k + 1) A) (env : Env) : Room k (A.deeper env) :=
  ⟨r.hd, by have := r.dp; show A.depth + 1 + 3 * k + 5 < _; omega, by have := r.un; show A.units + 3 + 16 * k + 200 < _; omega⟩
theorem Room.in1 {k : Nat} {A : Around} (r : Room (k + 1) A) : Room k A.in1 :=
  ⟨r.hd, by have := r.dp; show A.depth + 3 * k + 5 < _; omega, by have := r.un; show A.units + 1 + 16 * k + 200 < _; omega⟩
theorem make_depth {A : Around} {C : Addr} {us : List Value} {kw : List (Str × Value)} : (A.under (.builtin "type.__call__" ⟨.ref C :: us, kw⟩)).depth = A.depth + 1 := by
  first | rfl | simp [Around.under, Code.weight, Code.isCreation, Code.isGuard, Code.isCaller, Code.frames, Code.isFrame, guardIds]
theorem make_units {A : Around} {C : Addr} {us : List Value} {kw : List (Str × Value)} : (A.under (.builtin "type.__call__" ⟨.ref C :: us, kw⟩)).units = A.units + 1 := by
  first | rfl | simp [Around.under, Code.cUnits, Code.frames, Code.isFrame]
theorem Room.make {k : Nat} {A : Around} (r : Room (k + 1) A) (C : Addr) (us : List Value) (kw : List (Str × Value)) : Room k (A.under (.builtin "type.__call__" ⟨.ref C :: us, kw⟩)) :=
  ⟨r.hd, by have := r.dp; rw [make_depth]; omega, by have := r.un; rw [make_units]; omega⟩
theorem Room.depth {k : Nat} {A : Around} (r : Room k A) : A.depth < recursionLimit := by have := r.dp; omega
theorem Room.units {k : Nat} {A : Around} (r : Room k A) : A.units + 64 < cLine := by have := r.un; omega
theorem Room.units0 {k : Nat} {A : Around} (r : Room k A) : A.units < cLine := by have := r.un; omega

/-! ### argument lists and displays -/
def tNil : TA := fun _ H Q => Q [] H
def tCons (ta : TE) (tr : TA) : TA := fun σ H Q => ta σ H fun x H1 => tr σ H1 fun xs H2 => Q (x :: xs) H2
section
variable {X : Cx} {e : Expr} {es : List Expr} {te : TE} {t : TA} {pos : Pos}
theorem pa_nil : PA X [] tNil := fun _ _ _ _ H Q I h => Calls.spliced_nil ⟨[], H, I, .nil, h⟩
theorem pa_cons (ha : PE X e te) (hr : PA X es t) (hs : starEach (e :: es) X.env = (false, eval e X.env) :: starEach es X.env := by rfl) : PA X (e :: es) (tCons te t) := by
  intro pos pins s σ H Q I h
  rw [hs]
  show wpAny _ _ (spliced ((false, eval e X.env) :: backTo pos (starEach es X.env))) _ _ s
  refine Calls.spliced_cons (thn (ha pins s σ H _ I h) fun u s1 ⟨x, H1, I1, r1, q1⟩ => ?_)
  exact thn (hr pos pins s1 σ H1 _ I1 q1) fun us s2 ⟨xs, H2, I2, r2, q2⟩ => ⟨x :: xs, H2, I2, .cons r1 r2, q2⟩

/-- a tuple, a list of written items -/
def tTup (t : TA) : TE := fun σ H Q => t σ H fun xs H1 => xs.length ≤ sizeLine ∧ ∀ p, H1 p = none → Q (.ref p) (upd H1 p (.tup xs))
def tLst (t : TA) : TE := fun σ H Q => t σ H fun xs H1 => xs.length ≤ sizeLine ∧ ∀ p, H1 p = none → Q (.ref p) (upd H1 p (.lst xs))
theorem pe_tup {x1} (h : PA X es t) : PE X (.Tuple es x1 pos) (tTup t) := by
  intro pins s σ H Q I hq
  refine wpAny_Tuple_spliced (thn (h pos pins s σ H _ I hq) fun us s1 ⟨xs, H1, I1, r, z, q⟩ => ⟨by rw [← r.length]; exact z, ?_⟩)
  have hf : H1 s1.heap.objs.size = none := I1.hok.fresh (Nat.le_refl _)
  refine ⟨.ref s1.heap.objs.size, upd H1 s1.heap.objs.size (.tup xs), I1.laid (t' := s1.toks) (fun b u e => Heap.get?_push_of_some _ e) (Nat.le_refl _) ?_, rfl, q _ hf⟩
  exact ⟨z, us, r, ⟨_, Heap.get?_push_size _ rfl, rfl, _, rfl⟩⟩
theorem pe_lst (h : PA X es t) : PE X (.List es pos) (tLst t) := by
  intro pins s σ H Q I hq
  refine wpAny_List_spliced (thn (h pos pins s σ H _ I hq) fun us s1 ⟨xs, H1, I1, r, z, q⟩ => ⟨by rw [← r.length]; exact z, ?_⟩)
  have hf : H1 s1.heap.objs.size = none := I1.hok.fresh (Nat.le_refl _)
  refine ⟨.ref s1.heap.objs.size, upd H1 s1.heap.objs.size (.lst xs), I1.laid (t' := s1.toks) (fun b u e => Heap.get?_push_of_some _ e) (Nat.le_refl _) ?_, rfl, q _ hf⟩
  exact ⟨z, us, 0, r, Heap.get?_push_size _ rfl⟩
end

/-! ### what a def promises -/
/-- a def's promise: the bound arguments in the parameters' order, the heap, the wanted end, the wanted exception -/
abbrev Sp := List V → Hp → VK → XK → Prop
/-- how an exception lies behind a call (file 08 gives it): the callers' frames, abstract heap and state ahead of the call, the wish, the exception, the state -/
abbrev CXT := List Env → Hp → Shared → XK → Value → Shared → Prop

/-- the state at a call -/
structure Env0 (P : Program) (w : World) (K : PySem.W.Frag) (mg : Str → Option Value) (base : Heap) (A : Around) (outer : List Env) (s : Shared) (H : Hp) : Prop where
  frames : A.frames = some outer
  mod : Mod K mg base
  bs : ∀ b o, base.get? b = some o → s.heap.get? b = some o ∧ H b = none
  bsz : base.objs.size ≤ s.heap.objs.size
  funs : s.heap.FunFrames base outer
  frf : ∀ b ∈ frs outer, H b = none
  hok : HOk P w H s.heap
  bare : AllBare s.gens
/-- a call's end -/
def CE (outer : List Env) (P : Program) (w : World) (H : Hp) (s : Shared) (Q : VK) (u : Value) (s' : Shared) : Prop :=
  ∃ v H', s'.os = s.os ∧ AllBare s'.gens ∧ Un (frs outer) [] H H' s.heap s'.heap ∧ HOk P w H' s'.heap ∧ RelV v u ∧ Q v H'
def CR (CX : CXT) (outer : List Env) (P : Program) (w : World) (H : Hp) (s : Shared) (Q : VK) (E : XK) (r : Result) (s' : Shared) : Prop :=
  match r with
  | .ok (.ret u) => CE outer P w H s Q u s'
  | .ok _ => False
  | .error e => CX outer H s E e s'
structure FnOk (P : Program) (w : World) (K : PySem.W.Frag) (mg : Str → Option Value) (base : Heap) (CX : CXT) (k : Nat) (f : Addr) (fd : FuncData) (ps : List Str) (sp : Sp) : Prop where
  len : ∀ vs H Q E, sp vs H Q E → vs.length = ps.length
  run : ∀ (A : Around) (outer : List Env) (s : Shared) (H : Hp) (args : Args) (us : List Value) (vs : List V) (Q : VK) (E : XK), Room k A → Env0 P w K mg base A outer s H → BindsTo s fd args (ps.zip us) → Vals vs us → sp vs H Q E →
    codeAny (model P w) A (.call (.ref f) args) (CR CX outer P w H s Q E) s
theorem FnOk.mono {P : Program} {w : World} {K : PySem.W.Frag} {mg : Str → Option Value} {base : Heap} {CX : CXT} {j k : Nat} {f : Addr} {fd : FuncData} {ps : List Str} {sp : Sp} (F : FnOk P w K mg base CX j f fd ps sp) (h : j ≤ k) :
    FnOk P w K mg base CX k f fd ps sp := ⟨F.len, fun A outer s H args us vs Q E hr => F.run A outer s H args us vs Q E (hr.mono h)⟩
/-- a weaker promise -/
theorem FnOk.imp {P : Program} {w : World} {K : PySem.W.Frag} {mg : Str → Option Value} {base : Heap} {CX : CXT} {k : Nat} {f : Addr} {fd : FuncData} {ps : List Str} {sp sp' : Sp} (F : FnOk P w K mg base CX k f fd ps sp)
    (h : ∀ vs H Q E, sp' vs H Q E → sp vs H Q E) : FnOk P w K mg base CX k f fd ps sp' :=
  ⟨fun vs H Q E q => F.len vs H Q E (h _ _ _ _ q), fun A outer s H args us vs Q E hr he hb hv hs => F.run A outer s H args us vs Q E hr he hb hv (h _ _ _ _ hs)⟩

theorem Env0.make {P : Program} {w : World} {K : PySem.W.Frag} {mg : Str → Option Value} {base : Heap} {A : Around} {outer : List Env} {s : Shared} {H : Hp} (e : Env0 P w K mg base A outer s H) (C : Addr) (us : List Value) (kw : List (Str × Value)) :
    Env0 P w K mg base (A.under (.builtin "type.__call__" ⟨.ref C :: us, kw⟩)) outer s H := ⟨by first | exact e.frames | (simpa [Around.under, Code.envs, Code.isFrame, pushEnvs] using e.frames), e.mod, e.bs, e.bsz, e.funs, e.frf, e.hok, e.bare⟩
theorem Env0.in1 {P : Program} {w : World} {K : PySem.W.Frag} {mg : Str → Option Value} {base : Heap} {A : Around} {outer : List Env} {s : Shared} {H : Hp} (e : Env0 P w K mg base A outer s H) :
    Env0 P w K mg base A.in1 outer s H := ⟨e.frames, e.mod, e.bs, e.bsz, e.funs, e.frf, e.hok, e.bare⟩

section
variable {X : Cx} {pins : List (Addr × Obj)} {σ : St} {H : Hp} {s s' : Shared}
/-- from a body: what a callee wants -/
theorem Inv.env0 (I : Inv X pins σ H s) : Env0 X.prog X.w X.K X.mg X.base X.A X.stack s H :=
  ⟨I.ok.frames, I.ok.mod, I.bs, Nat.le_trans I.ok.bsz I.sz, I.stack, I.stkFree, I.hok, I.bare⟩
/-- behind a call -/
theorem Inv.after {Q : VK} {u : Value} (I : Inv X pins σ H s) (h : CE X.stack X.prog X.w H s Q u s') : EP X pins σ Q u s' := by
  obtain ⟨v, H', os, bare, un, hok, r, q⟩ := h
  obtain ⟨hh, g, d, t, os'⟩ := s'
  obtain rfl : os' = s.os := os
  exact ⟨v, H', I.call (h' := hh) (g' := g) (d' := d) (t' := t) (ch := []) un hok bare (fun b z => absurd z (by simp)), r, q⟩
end

/-! ### calls -/
/-- f(..): the written arguments, then the defaults dvs; E: what is wanted of an exception -/
def tCall (sp : Sp) (dvs : List V) (E : XK) (t : TA) : TE := fun σ H Q => t σ H fun vs H1 => sp (vs ++ dvs) H1 Q E
/-- o.m(..) of an instance of the class at C -/
def tMeth (C : Addr) (m : Str) (sp : Sp) (dvs : List V) (E : XK) (ta : TE) (t : TA) : TE := fun σ H Q => ta σ H fun x H1 => ∃ a dx fs, x = .ref a ∧ H1 a = some (.ins C dx fs) ∧ fs.lookup m = none ∧
  t σ H1 fun vs H2 => sp (x :: (vs ++ dvs)) H2 Q E
/-- C(..): a new instance and its dict, then __init__ -/
def tMake (C : Addr) (sp : Sp) (dvs : List V) (E : XK) (t : TA) : TE := fun σ H Q => t σ H fun vs H1 => ∀ x dx, H1 x = none → H1 dx = none → dx ≠ x →
  sp (.ref x :: (vs ++ dvs)) (upd (upd H1 dx (.own x)) x (.ins C dx [])) (fun v H2 => v = .non ∧ Q (.ref x) H2) E

/-- how the parameters are bound: us the positional arguments, kw the keywords' values by name, ds the defaults that fill up -/
def Binds (K : PySem.W.Frag) (fd : FuncData) (ps : List Str) (ds : List Value) : Prop :=
  ∀ (s : Shared) (us : List Value), K.In s.heap → (us ++ ds).length = ps.length → BindsTo s fd ⟨us, []⟩ (ps.zip (us ++ ds))
/-- every parameter is given -/
theorem Binds.all {K : PySem.W.Frag} {fd : FuncData} {ps : List Str} (h : ∀ us : List Value, us.length = ps.length → bindArgs fd ⟨us, []⟩ = pure (ps.zip us)) : Binds K fd ps [] := fun s us _ hl => by
  rw [List.append_nil] at hl ⊢
  exact .of_eq (h us hl)

/-- an exception of a callee reaches what this body wants of exceptions -/
def Passes (CX : CXT) (X : Cx) (E : XK) : Prop := ∀ (pins : List (Addr × Obj)) (σ : St) (H : Hp) (s : Shared) (e : Value) (s' : Shared), Inv X pins σ H s → CX X.stack H s E e s' → X.xe e s'

section
variable {X : Cx} {CX : CXT} {k : Nat} {f C : Addr} {fd : FuncData} {ps : List Str} {sp : Sp} {dvs : List V} {ds : List Value} {E : XK} {x m : Str} {p pos apos : Pos} {e o : Expr} {es : List Expr} {ta : TE} {t : TA}

/-- the callee runs -/
theorem run_fn {pins : List (Addr × Obj)} {σ : St} {H : Hp} {s : Shared} {Q : VK} {us : List Value} {vs : List V} (F : FnOk X.prog X.w X.K X.mg X.base CX k f fd ps sp) (hr : Room k X.A) (hb : Binds X.K fd ps ds) (hd : Vals dvs ds) (hx : Passes CX X E)
    (I : Inv X pins σ H s) (r : Vals vs us) (h : sp (vs ++ dvs) H Q E) : wpAny (model X.prog X.w) X.A (call (.ref f) us) (EP X pins σ Q) X.xe s := by
  have r2 : Vals (vs ++ dvs) (us ++ ds) := r.append hd
  have hl : (us ++ ds).length = ps.length := by rw [← r2.length]; exact F.len _ _ _ _ h
  refine wpAny_call (codeAny_mono (F.run X.A X.stack s H ⟨us, []⟩ (us ++ ds) (vs ++ dvs) Q E hr I.env0 (hb s us I.kIn hl) r2 h) fun r s' hq => ?_)
  cases r with
  | error e => exact hx pins σ H s e s' I hq
  | ok fl =>
    cases fl with
    | ret u => exact I.after hq
    | next => exact False.elim hq
    | brk => exact False.elim hq
    | cont => exact False.elim hq

theorem pe_call (F : FnOk X.prog X.w X.K X.mg X.base CX k f fd ps sp) (hr : Room k X.A) (hg : Gl X x) (hm : X.mg x = some (.ref f)) (hk : PySem.W.keepIn X.K (.ref f) = true) (hb : Binds X.K fd ps ds) (hd : Vals dvs ds) (hx : Passes CX X E)
    (ha : PA X (e :: es) t) (hdb : (x == ("__debug__" : Str)) = false := by decide) (he : starEach (e :: es) X.env = (false, eval e X.env) :: starEach es X.env := by rfl) (hpl : (backTo pos (starEach es X.env)).any (·.1) = false := by rfl) :
    PE X (.Call (.Name x p) (e :: es) [] pos) (tCall sp dvs E t) := by
  intro pins s σ H Q I h
  refine wpAny_Call_Name_kw (ld_glob I hg hm ?_ hdb)
  refine PySem.W.callWith_K (h₀ := X.base) I.ok.mod.kin hk (thn (ha pos pins s σ H _ I h) fun us s1 ⟨vs, H1, I1, r, q⟩ => ⟨I1.kIn, ?_⟩) he hpl
  exact run_fn F hr hb hd hx I1 r q
theorem pe_call0 (F : FnOk X.prog X.w X.K X.mg X.base CX k f fd ps sp) (hr : Room k X.A) (hg : Gl X x) (hm : X.mg x = some (.ref f)) (hk : PySem.W.keepIn X.K (.ref f) = true) (hb : Binds X.K fd ps ds) (hd : Vals dvs ds) (hx : Passes CX X E)
    (hdb : (x == ("__debug__" : Str)) = false := by decide) : PE X (.Call (.Name x p) [] [] pos) (tCall sp dvs E tNil) := by
  intro pins s σ H Q I h
  refine wpAny_Call_Name_kw (ld_glob I hg hm ?_ hdb)
  exact PySem.W.callWith_K0 I.kIn hk (run_fn (us := []) F hr hb hd hx I .nil h)

/-- o.m(e, ..) -/
theorem pe_meth {pl : Sem Bool} (he : PE X o ta) (c : Cls X.K C) (hm : Meth X.K C m f) (F : FnOk X.prog X.w X.K X.mg X.base CX k f fd ps sp) (hr : Room k X.A) (hb : Binds X.K fd ps ds) (hd : Vals dvs ds) (hx : Passes CX X E) (ha : PA X (e :: es) t)
    (hst : starEach (e :: es) X.env = (false, eval e X.env) :: starEach es X.env := by rfl) (hpl : (backTo pos (starEach es X.env)).any (·.1) = false := by rfl)
    (ht : eval (.Call (.Attribute o m apos) (e :: es) [] pos) X.env = (do
      let ov ← eval o X.env
      standAt apos.atName
      let (f, first) ← holding [ov] (getMethod ov m pl)
      callWith pos f first (backTo pos (starEach (e :: es) X.env)) (backToKw pos (keywordEach [] X.env))) := by rfl) :
    PE X (.Call (.Attribute o m apos) (e :: es) [] pos) (tMeth C m sp dvs E ta t) := by
  intro pins s σ H Q I h
  refine PySem.W.methodCall_KW (pl := pl) (thn (he pins s σ H _ I h) fun u s1 ⟨x, H1, I1, rx, a, dx, fs, ex, ea, l, q⟩ => ?_) ht
  subst ex
  obtain rfl : u = Value.ref a := rx
  refine getmeth_ok I1 ea c hm l ?_
  refine PySem.W.callWith_K (first := [.ref a]) (h₀ := X.base) I.ok.mod.kin hm.kp (thn (ha pos pins s1 σ H1 _ I1 q) fun us s2 ⟨vs, H2, I2, r, q2⟩ => ⟨I2.kIn, ?_⟩) hst hpl
  exact run_fn (us := .ref a :: us) (vs := .ref a :: vs) F hr hb hd hx I2 (.cons rfl r) q2
/-- o.m() -/
theorem pe_meth0 {pl : Sem Bool} (he : PE X o ta) (c : Cls X.K C) (hm : Meth X.K C m f) (F : FnOk X.prog X.w X.K X.mg X.base CX k f fd ps sp) (hr : Room k X.A) (hb : Binds X.K fd ps ds) (hd : Vals dvs ds) (hx : Passes CX X E)
    (ht : eval (.Call (.Attribute o m apos) [] [] pos) X.env = (do
      let ov ← eval o X.env
      standAt apos.atName
      let (f, first) ← holding [ov] (getMethod ov m pl)
      callWith pos f first (backTo pos (starEach [] X.env)) (backToKw pos (keywordEach [] X.env))) := by rfl) :
    PE X (.Call (.Attribute o m apos) [] [] pos) (tMeth C m sp dvs E ta tNil) := by
  intro pins s σ H Q I h
  refine PySem.W.methodCall_KW (pl := pl) (thn (he pins s σ H _ I h) fun u s1 ⟨x, H1, I1, rx, a, dx, fs, ex, ea, l, q⟩ => ?_) ht
  subst ex
  obtain rfl : u = Value.ref a := rx
  refine getmeth_ok I1 ea c hm l ?_
  exact PySem.W.callWith_K0 (first := [.ref a]) I1.kIn hm.kp (run_fn (us := [.ref a]) (vs := [.ref a]) F hr hb hd hx I1 (.cons rfl .nil) q)

/-- what a class must have to be made -/
structure Mk (K : PySem.W.Frag) (C f : Addr) : Prop where
  makes : PySem.W.makesIn K C = true
  init : PySem.W.findIn K (.ref C) "__init__" = some (some (.ref f))
  fn : PySem.W.isFn K (.ref f) = true
  kp : PySem.W.keepIn K (.ref C) = true

theorem run_make {pins : List (Addr × Obj)} {σ : St} {H : Hp} {s : Shared} {Q : VK} {us : List Value} {vs : List V} (M : Mk X.K C f) (F : FnOk X.prog X.w X.K X.mg X.base CX k f fd ps sp) (hr : Room (k + 1) X.A) (hb : Binds X.K fd ps ds) (hd : Vals dvs ds)
    (hx : Passes CX X E) (I : Inv X pins σ H s) (r : Vals vs us)
    (h : ∀ x dx, H x = none → H dx = none → dx ≠ x → sp (.ref x :: (vs ++ dvs)) (upd (upd H dx (.own x)) x (.ins C dx [])) (fun v H2 => v = .non ∧ Q (.ref x) H2) E) :
    wpAny (model X.prog X.w) X.A (call (.ref C) us) (EP X pins σ Q) X.xe s := by
  have hq := h (s.heap.objs.size + 1) s.heap.objs.size (I.hok.fresh (Nat.le_succ _)) (I.hok.fresh (Nat.le_refl _)) (Nat.ne_of_lt (Nat.lt_succ_self _))
  have I2 := Inv.made (C := C) I
  have r2 : Vals (V.ref (s.heap.objs.size + 1) :: (vs ++ dvs)) (Value.ref (s.heap.objs.size + 1) :: (us ++ ds)) := .cons rfl (r.append hd)
  have hl : (Value.ref (s.heap.objs.size + 1) :: us ++ ds).length = ps.length := by
    have e := r2.length
    rw [F.len _ _ _ _ hq] at e
    exact e.symm
  refine wpAny_call (make_map (f := f) I.kIn M.makes M.init (beq_iff_eq.mp M.fn) (codeAny_mono (F.run _ X.stack _ _ ⟨Value.ref (s.heap.objs.size + 1) :: us, []⟩ (Value.ref (s.heap.objs.size + 1) :: (us ++ ds)) _ _ E (hr.make C us [])
    (I2.env0.make C us []) (hb _ (Value.ref (s.heap.objs.size + 1) :: us) I2.kIn hl) r2 hq) fun r s' hq' => ?_))
  cases r with
  | error e => exact hx pins σ _ _ e s' I2 hq'
  | ok fl =>
    cases fl with
    | ret u =>
      obtain ⟨v, H', I3, rv, ev, q3⟩ := I2.after hq'
      subst ev
      exact ⟨rv, ⟨V.ref (s.heap.objs.size + 1), H', I3, rfl, q3⟩⟩
    | next => exact False.elim hq'
    | brk => exact False.elim hq'
    | cont => exact False.elim hq'
theorem pe_make (M : Mk X.K C f) (F : FnOk X.prog X.w X.K X.mg X.base CX k f fd ps sp) (hr : Room (k + 1) X.A) (hg : Gl X x) (hm : X.mg x = some (.ref C)) (hb : Binds X.K fd ps ds) (hd : Vals dvs ds) (hx : Passes CX X E)
    (ha : PA X (e :: es) t) (hdb : (x == ("__debug__" : Str)) = false := by decide) (he : starEach (e :: es) X.env = (false, eval e X.env) :: starEach es X.env := by rfl) (hpl : (backTo pos (starEach es X.env)).any (·.1) = false := by rfl) :
    PE X (.Call (.Name x p) (e :: es) [] pos) (tMake C sp dvs E t) := by
  intro pins s σ H Q I h
  refine wpAny_Call_Name_kw (ld_glob I hg hm ?_ hdb)
  refine PySem.W.callWith_K (h₀ := X.base) I.ok.mod.kin M.kp (thn (ha pos pins s σ H _ I h) fun us s1 ⟨vs, H1, I1, r, q⟩ => ⟨I1.kIn, ?_⟩) he hpl
  exact run_make M F hr hb hd hx I1 r q
theorem pe_make0 (M : Mk X.K C f) (F : FnOk X.prog X.w X.K X.mg X.base CX k f fd ps sp) (hr : Room (k + 1) X.A) (hg : Gl X x) (hm : X.mg x = some (.ref C)) (hb : Binds X.K fd ps ds) (hd : Vals dvs ds) (hx : Passes CX X E)
    (hdb : (x == ("__debug__" : Str)) = false := by decide) : PE X (.Call (.Name x p) [] [] pos) (tMake C sp dvs E tNil) := by
  intro pins s σ H Q I h
  refine wpAny_Call_Name_kw (ld_glob I hg hm ?_ hdb)
  exact PySem.W.callWith_K0 I.kIn M.kp (run_make (us := []) M F hr hb hd hx I .nil h)
end

/-! ### keywords -/
/-- the values of the keywords, from the left -/
def PK (X : Cx) (kws : List Keyword) (t : TA) : Prop :=
  ∀ (pos : Pos) (pins : List (Addr × Obj)) (s : Shared) (σ : St) (H : Hp) (Q : List V → Hp → Prop), Inv X pins σ H s → t σ H Q → wpAny (model X.prog X.w) X.A (evalAll ((backToKw pos (keywordEach kws X.env)).map (·.2))) (AP X pins σ Q) X.xe s
section
variable {X : Cx} {CX : CXT} {k : Nat} {f C : Addr} {fd : FuncData} {ps ks : List Str} {sp : Sp} {E : XK} {x m : Str} {p pos apos kpos : Pos} {e o : Expr} {es : List Expr} {kws : List Keyword} {te ta : TE} {t tk : TA} {nm : Option Str}
theorem pk_nil : PK X [] tNil := fun _ _ _ _ H Q I h => wpAny_evalAll_nil ⟨[], H, I, .nil, h⟩
theorem pk_cons (ha : PE X e te) (hr : PK X kws t) : PK X (⟨nm, e, kpos⟩ :: kws) (tCons te t) := by
  intro pos pins s σ H Q I h
  show wpAny _ _ (evalAll ((do let v ← eval e X.env; standAt pos; pure v) :: (backToKw pos (keywordEach kws X.env)).map (·.2))) _ _ s
  refine wpAny_evalAll_cons (wpAny_bind (thn (ha pins s σ H _ I h) fun u s1 ⟨x, H1, I1, r1, q1⟩ => wpAny_bind (wpAny_standAt (wpAny_pure ?_))))
  exact thn (hr pos pins s1 σ H1 _ I1 q1) fun us s2 ⟨xs, H2, I2, r2, q2⟩ => ⟨x :: xs, H2, I2, .cons r1 r2, q2⟩

/-- how a call with keywords binds: g puts the positional values us and the keywords' values ws (names ks) in the parameters' order, defaults among them -/
structure KBinds (K : PySem.W.Frag) (fd : FuncData) (ps ks : List Str) (g : List Value → List Value → List Value) (gV : List V → List V → List V) : Prop where
  to : ∀ (s : Shared) (us ws : List Value), K.In s.heap → (g us ws).length = ps.length → BindsTo s fd ⟨us, ks.zip ws⟩ (ps.zip (g us ws))
  rel : ∀ {vs : List V} {us : List Value} {zs : List V} {ws : List Value}, Vals vs us → Vals zs ws → Vals (gV vs zs) (g us ws)
def tCallK (sp : Sp) (gV : List V → List V → List V) (E : XK) (t tk : TA) : TE := fun σ H Q => t σ H fun vs H1 => tk σ H1 fun zs H2 => sp (gV vs zs) H2 Q E
variable {g : List Value → List Value → List Value} {gV : List V → List V → List V}
theorem run_fnk {pins : List (Addr × Obj)} {σ : St} {H : Hp} {s : Shared} {Q : VK} {us ws : List Value} {vs zs : List V} (F : FnOk X.prog X.w X.K X.mg X.base CX k f fd ps sp) (hr : Room k X.A) (hb : KBinds X.K fd ps ks g gV) (hx : Passes CX X E)
    (I : Inv X pins σ H s) (r : Vals vs us) (rz : Vals zs ws) (h : sp (gV vs zs) H Q E) : wpAny (model X.prog X.w) X.A (call (.ref f) us (ks.zip ws)) (EP X pins σ Q) X.xe s := by
  have r2 := hb.rel r rz
  have hl : (g us ws).length = ps.length := by rw [← r2.length]; exact F.len _ _ _ _ h
  refine wpAny_call (codeAny_mono (F.run X.A X.stack s H ⟨us, ks.zip ws⟩ (g us ws) (gV vs zs) Q E hr I.env0 (hb.to s us ws I.kIn hl) r2 h) fun r s' hq => ?_)
  cases r with
  | error e => exact hx pins σ H s e s' I hq
  | ok fl =>
    cases fl with
    | ret u => exact I.after hq
    | next => exact False.elim hq
    | brk => exact False.elim hq
    | cont => exact False.elim hq
/-- f(e, .., k = v, ..) -/
theorem pe_callK (F : FnOk X.prog X.w X.K X.mg X.base CX k f fd ps sp) (hr : Room k X.A) (hg : Gl X x) (hm : X.mg x = some (.ref f)) (hk : PySem.W.keepIn X.K (.ref f) = true) (hb : KBinds X.K fd ps ks g gV) (hx : Passes CX X E)
    (ha : PA X (e :: es) t) (hkw : PK X kws tk) (hall : (backToKw pos (keywordEach kws X.env)).all (·.1.isSome) = true := by rfl) (hks : (backToKw pos (keywordEach kws X.env)).filterMap (·.1) = ks := by rfl)
    (hdb : (x == ("__debug__" : Str)) = false := by decide) (he : starEach (e :: es) X.env = (false, eval e X.env) :: starEach es X.env := by rfl)
    (hpl : ((backTo pos (starEach (e :: es) X.env)).any (·.1) || (backToKw pos (keywordEach kws X.env)).any (·.1.isNone)) = false := by rfl) :
    PE X (.Call (.Name x p) (e :: es) kws pos) (tCallK sp gV E t tk) := by
  intro pins s σ H Q I h
  refine wpAny_Call_Name_kw (ld_glob I hg hm ?_ hdb)
  refine PySem.W.callWith_KW (h₀ := X.base) I.ok.mod.kin hk hall (thn (ha pos pins s σ H _ I h) fun us s1 ⟨vs, H1, I1, r, q⟩ => ?_) hpl he
  refine thn (hkw pos pins s1 σ H1 _ I1 q) fun ws s2 ⟨zs, H2, I2, rz, q2⟩ => ⟨I2.kIn, ?_⟩
  rw [hks]
  exact run_fnk F hr hb hx I2 r rz q2
end

/-! ### a def's body keeps its promise -/
/-- names: the parameters first -/
structure FnScope (N P : List Str) (sc : Scope) : Prop where
  kind : sc.kind = .function
  co : sc.isCoroutine = false
  gen : sc.isGenerator = false
  nd : N.Nodup
  pre : N.take P.length = P
  par : ∀ x ∈ P, sc.names.lookup x = some .local ∨ sc.names.lookup x = some .cell
  nofree : ∀ y ∈ sc.names, y.2 ≠ .free

theorem bindL_out {kindOf : Str → Option NameKind} {x : Str} : ∀ {binds : List (Str × Value)} {m : Str → Option Value}, (∀ v, (x, v) ∉ binds) → bindL kindOf binds m x = m x
  | [], _, _ => rfl
  | (n, v) :: r, m, h => by
    unfold bindL
    rw [bindL_out fun w hw => h w (List.mem_cons_of_mem _ hw)]
    split
    · have : x ≠ n := by rintro rfl; exact h v List.mem_cons_self
      simp [this]
    · rfl
theorem bindC_out {kindOf : Str → Option NameKind} {x : Str} : ∀ {binds : List (Str × Value)} {m : Str → Option Value}, (∀ v, (x, v) ∉ binds) → bindC kindOf binds m x = m x
  | [], _, _ => rfl
  | (n, v) :: r, m, h => by
    unfold bindC
    rw [bindC_out fun w hw => h w (List.mem_cons_of_mem _ hw)]
    split
    · rfl
    · have : x ≠ n := by rintro rfl; exact h v List.mem_cons_self
      simp [this]
theorem bindL_get {kindOf : Str → Option NameKind} {x : Str} {v : Value} : ∀ {P : List Str} {vs : List Value} {i : Nat} {m : Str → Option Value}, P.Nodup → P[i]? = some x → vs[i]? = some v → kindOf x = some .local →
    bindL kindOf (P.zip vs) m x = some v
  | [], _, _, _, _, h, _, _ => by simp at h
  | _ :: _, [], _, _, _, _, h, _ => by simp at h
  | p :: P, w :: vs, 0, m, nd, h1, h2, hk => by
    simp at h1 h2; subst h1; subst h2
    show bindL kindOf ((p, w) :: P.zip vs) m p = _
    unfold bindL
    rw [bindL_out fun v hv => (List.nodup_cons.mp nd).1 (List.of_mem_zip hv).1, if_pos hk]
    simp
  | p :: P, w :: vs, i + 1, m, nd, h1, h2, hk => by
    show bindL kindOf ((p, w) :: P.zip vs) m x = _
    unfold bindL
    exact bindL_get (i := i) (List.nodup_cons.mp nd).2 (by simpa using h1) (by simpa using h2) hk
theorem bindC_get {kindOf : Str → Option NameKind} {x : Str} {v : Value} : ∀ {P : List Str} {vs : List Value} {i : Nat} {m : Str → Option Value}, P.Nodup → P[i]? = some x → vs[i]? = some v → kindOf x ≠ some .local →
    bindC kindOf (P.zip vs) m x = some v
  | [], _, _, _, _, h, _, _ => by simp at h
  | _ :: _, [], _, _, _, _, h, _ => by simp at h
  | p :: P, w :: vs, 0, m, nd, h1, h2, hk => by
    simp at h1 h2; subst h1; subst h2
    show bindC kindOf ((p, w) :: P.zip vs) m p = _
    unfold bindC
    rw [bindC_out fun v hv => (List.nodup_cons.mp nd).1 (List.of_mem_zip hv).1, if_neg hk]
    simp
  | p :: P, w :: vs, i + 1, m, nd, h1, h2, hk => by
    show bindC kindOf ((p, w) :: P.zip vs) m x = _
    unfold bindC
    exact bindC_get (i := i) (List.nodup_cons.mp nd).2 (by simpa using h1) (by simpa using h2) hk

/-- the names' values at the entry -/
def start (N : List Str) (vs : List V) : St := vs.map some ++ List.replicate (N.length - vs.length) none

/-- the context of a def's body, at its entry; an exception leaves the frame, then lies as CX says -/
def cxOf (CX : CXT) (P : Program) (w : World) (K : PySem.W.Frag) (mg : Str → Option Value) (base : Heap) (N : List Str) (qual : Str) (scope : Scope) (f : Addr) (cd : Value) (A : Around) (outer : List Env) (s : Shared) (H : Hp) (E : XK) : Cx where
  prog := P
  w := w
  K := K
  mg := mg
  base := base
  A := A.deeper (envOfC qual scope s.heap.objs.size f cd)
  N := N
  s₀ := s
  H₀ := H
  env := envOfC qual scope s.heap.objs.size f cd
  outer := outer
  stack := envOfC qual scope s.heap.objs.size f cd :: outer
  ex := []
  calm := true
  fn := fun _ => true
  pn := []
  xe := fun e s' => wpAny (model P w) (A.deeper (envOfC qual scope s.heap.objs.size f cd)) (leaving (envOfC qual scope s.heap.objs.size f cd) e) (fun _ s'' => CX outer H s E e s'') (fun e' s'' => CX outer H s E e' s'') s'

theorem cell_has {sc : Scope} {n : Nat} {x : Str} (h : sc.names.lookup x = some .cell) : ∃ c, (cellsFrom n sc.names []).lookup x = some c := by
  have q := PySem.W.cellsFrom_some sc.names n [] (.inl h)
  exact Option.isSome_iff_exists.mp q

theorem inv_start {CX : CXT} {P : Program} {w : World} {K : PySem.W.Frag} {mg : Str → Option Value} {base : Heap} {N ps : List Str} {qual : Str} {scope : Scope} {f : Addr} {cd : Value} {A : Around} {outer : List Env} {s s1 : Shared} {H : Hp} {E : XK} {us : List Value} {vs : List V}
    (S : FnScope N ps scope) (hd : A.handled = none) (e0 : Env0 P w K mg base A outer s H) (hl : vs.length = ps.length) (r : Vals vs us)
    (x : InCallC s s.heap.objs.size (bindL (envOfC qual scope s.heap.objs.size f cd).kindOf (ps.zip us) fun _ => none) (cellsFrom (s.heap.objs.size + 1) scope.names []) (bindC (envOfC qual scope s.heap.objs.size f cd).kindOf (ps.zip us) fun _ => none) s1) :
    Inv (cxOf CX P w K mg base N qual scope f cd A outer s H E) [] (start N vs) H s1 := by
  have hpl : ps.length ≤ N.length := by have := congrArg List.length S.pre; rw [List.length_take] at this; omega
  obtain ⟨h1, tk, rfl, hk⟩ := x.done
  have noA : ∀ b : Addr, b ∉ (cxOf CX P w K mg base N qual scope f cd A outer s H E).ex := fun b z => absurd (show b ∈ ([] : List Addr) from z) (by simp)
  refine ⟨⟨e0.mod, S.kind, rfl, rfl, Nat.le_refl _, fun y z c h1 h2 => ?_, fun y hy => ?_, fun y c _ h => ?_, fun _ => hd, Around.frames_deeper e0.frames, .inr ⟨rfl, rfl⟩, fun b z => absurd z (noA b), e0.bs, e0.bsz, fun b _ _ => noA b, fun b z => absurd z (noA b), e0.funs, e0.frf⟩,
    rfl, e0.bare, Un.kept hk, ⟨_, x.toInCall.ns, fun i y v h1 h2 h3 => ?_⟩, fun y c h => ⟨_, x.cell y c h⟩, e0.hok.fresh (Nat.le_refl _), fun y c h => ?_, fun p hp => absurd (show p ∈ ([] : List (Addr × Obj)) from hp) (by simp), e0.hok.kept hk, ?_⟩
  · exact name_of_addr x.apart (PySem.mem_of_lookup h1) (PySem.mem_of_lookup h2)
  · have hy : scope.names.lookup y = some .cell ∨ scope.names.lookup y = some .free := hy
    rcases hy with hy | hy
    · exact cell_has hy
    · exact absurd rfl (S.nofree _ (PySem.mem_of_lookup hy))
  · exact Nat.le_of_lt (x.above y c (PySem.mem_of_lookup h))
  · have hi : i < vs.length := by
      unfold start at h2
      by_cases hi : i < vs.length
      · exact hi
      · rw [List.getElem?_append_right (by simpa using hi)] at h2
        rw [List.getElem?_replicate] at h2
        split at h2 <;> cases h2
    have ha : vs[i]? = some v := by
      unfold start at h2
      rw [List.getElem?_append_left (by simpa using hi), List.getElem?_map] at h2
      cases e : vs[i]? with
      | none => rw [e] at h2; cases h2
      | some a => rw [e] at h2; cases h2; rfl
    obtain ⟨u, hu, rv⟩ := r.get ha
    have hp : ps[i]? = some y := by
      rw [← S.pre, List.getElem?_take_of_lt (by omega)]; exact h1
    have ndP : ps.Nodup := by rw [← S.pre]; exact S.nd.sublist (List.take_sublist _ _)
    refine ⟨u, rv, ?_⟩
    rcases S.par y (List.mem_of_getElem? hp) with k | k
    · exact .inl ⟨k, bindL_get ndP hp hu k⟩
    · obtain ⟨c, e⟩ := cell_has (n := s.heap.objs.size + 1) k
      refine .inr ⟨.inl k, c, e, ?_⟩
      have q := x.cell y c e
      rw [bindC_get ndP hp hu (by show scope.names.lookup y ≠ _; rw [k]; decide)] at q
      exact q
  · exact e0.hok.fresh (Nat.le_of_lt (x.above y c (PySem.mem_of_lookup h)))
  · unfold start
    show _ = N.length
    rw [List.length_append, List.length_map, List.length_replicate]
    omega

/-- THE RULE: a def (or a method) of the text, by its body. The body's reading t is chosen for each entry; it is run at the parameters' values -/
theorem fn_of {CX : CXT} {P : Program} {w : World} {K : PySem.W.Frag} {mg : Str → Option Value} {base : Heap} {k : Nat} {f : Addr} {name qual : Str} {params : Arguments} {body : List Stmt} {scope : Scope} {dV kV doc pm cdv ct oc : Value} {an od : Option Addr}
    {osl : Array (Option Value)} {N ps : List Str} {sp : Sp} (lk : K.lookup f = some ⟨oc, od, .func (PySem.W.fnOf name qual params body scope dV kV doc pm an cdv ct), osl⟩) (hcd : PySem.W.codeIn K cdv qual = true) (S : FnScope N ps scope)
    (len : ∀ vs H Q E, sp vs H Q E → vs.length = ps.length)
    (hbody : ∀ (A : Around) (outer : List Env) (s : Shared) (H : Hp) (vs : List V) (Q : VK) (E : XK), Room k (A.deeper (envOfC qual scope s.heap.objs.size f cdv)) → sp vs H Q E →
      ∃ t, PSs (cxOf CX P w K mg base N qual scope f cdv A outer s H E) body t ∧ t { nx := fun _ H' => Q .non H', rt := Q } (start N vs) H) :
    FnOk P w K mg base CX (k + 1) f (PySem.W.fnOf name qual params body scope dV kV doc pm an cdv ct) ps sp := by
  refine ⟨len, fun A outer s H args us vs Q E hr e0 hb r hsp => ?_⟩
  have hl := len _ _ _ _ hsp
  have KX : K.In s.heap := e0.mod.kin.keeps fun b o e => (e0.bs b o e).1
  have lim : s.heap.NoLimit := e0.mod.nolimit.keeps fun b o e => (e0.bs b o e).1
  have hkind : ∀ y ∈ ps.zip us, scope.names.lookup y.1 = some .local ∨ (scope.names.lookup y.1 = some .cell ∧ ((cellsFrom (s.heap.objs.size + 1) scope.names []).lookup y.1).isSome = true) := fun ⟨n, v⟩ hy => by
    rcases S.par n (List.of_mem_zip hy).1 with q | q
    · exact .inl q
    · exact .inr ⟨q, PySem.W.cellsFrom_some _ _ _ (.inl q)⟩
  refine codeAny_call_function hr.depth (KX _ _ lk) rfl S.co S.gen rfl (PySem.W.codeRec_of KX hcd) (hb _ _ _ _ ?_)
  refine wpAny_newFunctionEnv_cells S.kind hkind fun env he s1 x => ?_
  subst he
  refine ⟨lim.keeps x.toInCall.keep, codeAny_func ?_⟩
  obtain ⟨t, ht, hq⟩ := hbody A outer s H vs Q E (hr.deeper _) hsp
  have I : Inv (cxOf CX P w K mg base N qual scope f cdv A outer s H E) [] (start N vs) H s1 := inv_start S hr.hd e0 hl r x
  refine wpAny_mono (ht [] s1 (start N vs) H _ I hq) (fun fl s' hs => ?_) fun e s' hs => hs
  have fin : ∀ {σ' : St} {H' : Hp} {v : V} {u : Value}, Inv (cxOf CX P w K mg base N qual scope f cdv A outer s H E) [] σ' H' s' → RelV v u → Q v H' → CE outer P w H s Q u s' :=
    fun {σ' H' v u} J rv q => ⟨v, H', J.os, J.bare, J.base, J.hok, rv, q⟩
  cases fl with
  | ret u =>
    obtain ⟨v, σ', H', J, rv, q⟩ := hs
    exact fin J rv q
  | next =>
    obtain ⟨σ', H', J, q⟩ := hs
    exact fin (v := V.non) (u := Value.none) J rfl q
  | brk =>
    obtain ⟨_, _, _, q⟩ := hs
    exact False.elim q
  | cont =>
    obtain ⟨_, _, _, q⟩ := hs
    exact False.elim q
end L2

namespace L2
open PySem PySem.Spec PyProof.Rows
section
variable {X : Cx} {x : Str} {p pos : Pos} {e : Expr} {es : List Expr} {t : TA} {id T : String} {r : List V → Hp → VK → Prop}

def tCB (r : List V → Hp → VK → Prop) (t : TA) : TE := fun σ H Q => t σ H fun vs H1 => r vs H1 Q
/-- f(e, ..), f a built-in function -/
theorem pe_callB (hc : CallR X (.builtin id) r) (hg : Gl X x) (hm : X.mg x = none) (hv : bootBuiltins x = some (.builtin id)) (ha : PA X (e :: es) t) (hn : x ≠ "__name__" := by decide) (hdb : (x == ("__debug__" : Str)) = false := by decide)
    (he : starEach (e :: es) X.env = (false, eval e X.env) :: starEach es X.env := by rfl) (hpl : (backTo pos (starEach es X.env)).any (·.1) = false := by rfl) : PE X (.Call (.Name x p) (e :: es) [] pos) (tCB r t) := by
  intro pins s σ H Q I h
  refine wpAny_Call_Name_kw (ld_blt I hg hm hv ?_ hn hdb)
  exact PyProof.Rows.callWith_builtin1 (thn (ha pos pins s σ H _ I h) fun us s1 ⟨vs, H1, I1, r1, q1⟩ => hc pins s1 σ H1 vs us Q I1 r1 q1) he hpl
/-- T(e, ..), T a built-in type -/
theorem pe_callTy (hc : CallR X (.type T) r) (hg : Gl X x) (hm : X.mg x = none) (hv : bootBuiltins x = some (.type T)) (ha : PA X (e :: es) t) (hn : x ≠ "__name__" := by decide) (hdb : (x == ("__debug__" : Str)) = false := by decide)
    (he : starEach (e :: es) X.env = (false, eval e X.env) :: starEach es X.env := by rfl) (hpl : (backTo pos (starEach es X.env)).any (·.1) = false := by rfl) : PE X (.Call (.Name x p) (e :: es) [] pos) (tCB r t) := by
  intro pins s σ H Q I h
  refine wpAny_Call_Name_kw (ld_blt I hg hm hv ?_ hn hdb)
  exact PyProof.Rows.callWith_type1 (thn (ha pos pins s σ H _ I h) fun us s1 ⟨vs, H1, I1, r1, q1⟩ => hc pins s1 σ H1 vs us Q I1 r1 q1) he hpl
/-- T() -/
theorem pe_callTy0 (hc : CallR X (.type T) r) (hg : Gl X x) (hm : X.mg x = none) (hv : bootBuiltins x = some (.type T)) (hn : x ≠ "__name__" := by decide) (hdb : (x == ("__debug__" : Str)) = false := by decide) :
    PE X (.Call (.Name x p) [] [] pos) (tCB r tNil) := by
  intro pins s σ H Q I h
  refine wpAny_Call_Name_kw (ld_blt I hg hm hv ?_ hn hdb)
  exact PyProof.Rows.callWith_type0 (hc pins s σ H [] [] Q I .nil h)
end
end L2

namespace HT
open PySem PyProof.Rows

/-- t < u of tuples of ints -/
def lexLt : List Int → List Int → Bool
  | [], [] => false
  | [], _ :: _ => true
  | _ :: _, [] => false
  | x :: xs, y :: ys => if x = y then lexLt xs ys else decide (x < y)
theorem lexLt_cons (x y : Int) (xs ys : List Int) : lexLt (x :: xs) (y :: ys) = if x = y then lexLt xs ys else decide (x < y) := rfl
theorem lexLt_nil_nil : lexLt [] [] = false := rfl
theorem lexLt_nil_cons (y : Int) (ys : List Int) : lexLt [] (y :: ys) = true := rfl
theorem lexLt_cons_nil (x : Int) (xs : List Int) : lexLt (x :: xs) [] = false := rfl

theorem eqAt_int (A : Around) (s : Shared) (a : Int) (t : Tok) (c : Int) (u : Tok) : ∃ e, SeqAt.EqAt A s (.int a t) (.int c u) e ∧ (e = true ↔ a = c) :=
  ⟨(a == c), SeqAt.EqAt.int_int a t c u, by simp⟩
theorem rcLt_int (A : Around) (s : Shared) (a : Int) (t : Tok) (c : Int) (u : Tok) (prog : Program) (w : World) (E : Value → Shared → Prop) (Q : Value → Shared → Prop) (h : Q (.bool (decide (a < c))) s) :
    wpAny (model prog w) A (richCompare .Lt (.int a t) (.int c u)) Q E s :=
  (PyProof.Rows.lt_int h : wpAny (model prog w) A (compareOp .Lt (.int a t) (.int c u)) Q E s)

section
open PySem.SeqAt
open PySem.AutoSeq1 (wpAny_loadPart')
open PySem.MeetsSeq PySem.MeetsSeq2 PySem.MeetsSeq3

theorem tuple_lt_ints (l b : Addr) (items items2 : Array Value) (n n2 : Nat) (dd dd2 : Option Addr) (sl sl2 : Array (Option Value)) (ns ms : List Int) (hi : IntsAre items.toList ns) (hj : IntsAre items2.toList ms) :
    Meets (Builtin.«tuple.__lt__» ⟨[.ref l, .ref b], []⟩)
      (fun _ R s => s.heap.get? l = some { cls := .type "tuple", dict := dd, data := .seq items n, slots := sl } ∧ s.heap.get? b = some { cls := .type "tuple", dict := dd2, data := .seq items2 n2, slots := sl2 } ∧
        R (.ok (.ret (.bool (lexLt ns ms)))) s) :=
  .of_wp fun prog w A R s h => by
    obtain ⟨hp, g, d, tk, os⟩ := s; obtain ⟨hl, hb, h⟩ := h
    have f2 := AutoSeq1.sub_tuple_tuple
    have z1 : items.size = ns.length := by rw [← hi.length]; simp
    have z2 : items2.size = ms.length := by rw [← hj.length]; simp
    wp_walk using wpAny_loadPart' hl, wpAny_loadPart' hb, wpAny_forIn_list _ (fun rest b s' => b.1 = none ∧ s' = ⟨hp, g, d, tk, os⟩ ∧ ∃ (vs ws : List Value) (ns' ms' : List Int), rest = vs.zip ws ∧
      IntsAre vs ns' ∧ IntsAre ws ms' ∧ ns'.length + items2.size = ms'.length + items.size ∧ R (.ok (.ret (.bool (lexLt ns' ms')))) ⟨hp, g, d, tk, os⟩) _
    case turn =>
      rintro ⟨y, x⟩ rest b s' ⟨hb', rfl, vs, ws, ns', ms', hz, hvi, hwi, hlen, hR⟩
      cases hvi with
      | nil => rw [List.zip_nil_left] at hz; cases hz
      | cons a t hvi' =>
        cases hwi with
        | nil => rw [List.zip_nil_right] at hz; cases hz
        | cons c u hwi' =>
          rw [List.zip_cons_cons] at hz
          injection hz with hyx hrest
          injection hyx with hy hx
          subst hy hx
          rw [lexLt_cons] at hR
          simp only [List.length_cons] at hlen
          obtain ⟨e, he, hiff⟩ := eqAt_int A.in1 ⟨hp, g, d, tk, os⟩ a t c u
          refine wpAny_bind (he prog w _ _ ?_)
          cases e with
          | true =>
            rw [if_pos (hiff.mp rfl)] at hR
            wp_walk
            exact ⟨rfl, rfl, _, _, _, _, hrest, hvi', hwi', by omega, hR⟩
          | false =>
            rw [if_neg (fun q => absurd (hiff.mpr q) Bool.false_ne_true)] at hR
            have hri := rcLt_int A.in1 ⟨hp, g, d, tk, os⟩ a t c u prog w
            wp_walk using hri
            exact ⟨_, rfl, by simpa using hR⟩
    case fin =>
      rintro ⟨b1, b2⟩ s' ⟨hb', rfl, vs, ws, ns', ms', hz, hvi, hwi, hlen, hR⟩
      simp only at hb'
      subst hb'
      have hv : lexLt ns' ms' = decide (items.size < items2.size) := by
        cases hvi with
        | nil =>
          cases hwi with
          | nil =>
            simp only [List.length_nil] at hlen
            rw [lexLt_nil_nil]
            exact (decide_eq_false (by omega)).symm
          | cons c u hw =>
            simp only [List.length_nil, List.length_cons] at hlen
            rw [lexLt_nil_cons]
            exact (decide_eq_true (by omega)).symm
        | cons a t hv =>
          cases hwi with
          | nil =>
            simp only [List.length_nil, List.length_cons] at hlen
            rw [lexLt_cons_nil]
            exact (decide_eq_false (by omega)).symm
          | cons c u hw =>
            rw [List.zip_cons_cons] at hz
            cases hz
      rw [hv] at hR
      wp_walk
      exact ⟨_, rfl, by simpa [Builtin.Tuple.tupleCompareSizes] using hR⟩
    case h =>
      exact ⟨rfl, rfl, items.toList, items2.toList, ns, ms, rfl, hi, hj, by omega, h⟩
end

section
variable {prog : Program} {w : World} {A : Around} {E : Value → Shared → Prop} {s : Shared}

theorem lt_tupInts {l b : Addr} {items items2 : Array Value} {ns ms : List Int} {Q : Value → Shared → Prop} (hl : IsTup s.heap l items) (hb : IsTup s.heap b items2) (hi : IntsAre items.toList ns) (hj : IntsAre items2.toList ms)
    (hu : A.units < cLine) (h : Q (.bool (lexLt ns ms)) s) : wpAny (model prog w) A (compareOp .Lt (.ref l) (.ref b)) Q E s := by
  obtain ⟨⟨cls, dd, data, sl⟩, ho, hc, n, hd⟩ := id hl
  obtain ⟨⟨cls2, dd2, data2, sl2⟩, ho2, hc2, n2, hd2⟩ := id hb
  simp only at hc hd hc2 hd2
  subst hc hd hc2 hd2
  exact richCompare_meets_room (op := .Lt) ⟨_, ho, rfl⟩ ⟨_, ho2, rfl⟩ PySem.F.slot_tuple_lt PySem.F.entry_tuple_lt (PySem.F.args_tuple_lt_2 _ _) (tuple_lt_ints l b items items2 n n2 dd dd2 sl sl2 ns ms hi hj)
    ⟨ho, ho2, show Value.bool (lexLt ns ms) ≠ Value.notImplemented ∧ Q (.bool (lexLt ns ms)) s from ⟨(fun x => nomatch x), h⟩⟩ hu

/-- t + u, t not empty -/
theorem cat_tup {t b : Addr} {vs ws : List Value} {Q : Value → Shared → Prop} (ht : IsTup s.heap t vs.toArray) (hb : IsTup s.heap b ws.toArray) (hv : vs ≠ [])
    (h1 : ws = [] → Q (.ref t) s) (h2 : ws ≠ [] → Q (.ref s.heap.objs.size) { s with heap := s.heap.push { cls := .type "tuple", data := .seq (vs ++ ws).toArray } })
    (hsz : vs.length + ws.length ≤ sizeLine) : wpAny (model prog w) A (binaryOp .Add (.ref t) (.ref b)) Q E s := by
  obtain ⟨⟨cls, dd, data, sl⟩, ho, hc, n, hd⟩ := id ht
  obtain ⟨⟨cls2, dd2, data2, sl2⟩, ho2, hc2, n2, hd2⟩ := id hb
  simp only at hc hd hc2 hd2
  subst hc hd hc2 hd2
  have e : vs.toArray ++ ws.toArray = (vs ++ ws).toArray := by simp
  by_cases hw : ws = []
  · exact concat_meets ⟨_, ho, rfl⟩ ⟨_, ho2, rfl⟩ noFill_tuple_add seq_tuple_add PySem.F.slot_tuple_add PySem.F.entry_tuple_add (PySem.F.args_tuple_add_2 _ _)
      (tuple_addW1 t b vs.toArray ws.toArray n n2 dd dd2 sl sl2 (by simpa using hv) (by simp [hw])) ⟨ho, ho2, h1 hw⟩
  · refine concat_meets ⟨_, ho, rfl⟩ ⟨_, ho2, rfl⟩ noFill_tuple_add seq_tuple_add PySem.F.slot_tuple_add PySem.F.entry_tuple_add (PySem.F.args_tuple_add_2 _ _)
      (tuple_addW2 t b vs.toArray ws.toArray n n2 dd dd2 sl sl2 (by simpa using hv) (by simpa using hw) (by rw [List.size_toArray, List.size_toArray]; exact hsz)) ⟨ho, ho2, ?_⟩
    rw [e]
    exact h2 hw

/-! ### t[a:b], not the whole -/
/-- a slice's bound as a place among n (d where it is left out) -/
def sIx (n d : Nat) : Option Int → Nat
  | none => d
  | some v => if v < 0 then (v + (n : Int)).toNat else min v.toNat n
theorem sIx_none (n d : Nat) : sIx n d none = d := rfl
theorem sIx_nat (n d k : Nat) : sIx n d (some (k : Int)) = min k n := by
  show (if (k : Int) < 0 then ((k : Int) + (n : Int)).toNat else min (k : Int).toNat n) = min k n
  rw [if_neg (by omega), Int.toNat_natCast]
theorem sIx_le (n d : Nat) (hd : d ≤ n) (o : Option Int) : sIx n d o ≤ n := by
  cases o with
  | none => exact hd
  | some v =>
    show (if v < 0 then (v + (n : Int)).toNat else min v.toNat n) ≤ n
    by_cases hv : v < 0
    · rw [if_pos hv]; omega
    · rw [if_neg hv]; exact Nat.min_le_right _ _
theorem clip_eq (v : Int) (n d : Nat) : (if v < 0 then max (v + (n : Int)) 0 else min v (n : Int)) = ((sIx n d (some v) : Nat) : Int) := by
  show (if v < 0 then max (v + (n : Int)) 0 else min v (n : Int)) = (((if v < 0 then (v + (n : Int)).toNat else min v.toNat n) : Nat) : Int)
  by_cases hv : v < 0
  · simp only [if_pos hv]; omega
  · simp only [if_neg hv]; omega
theorem adjust_gen (lo hi : Option Int) (n : Nat) : Builtin.Slice.sliceAdjust lo hi 1 (n : Int) = (((sIx n 0 lo : Nat) : Int), ((sIx n n hi : Nat) : Int)) := by
  have h1 : ¬ ((1 : Int) < 0) := by omega
  unfold Builtin.Slice.sliceAdjust
  simp only [h1, if_false]
  refine Prod.ext ?_ ?_
  · cases lo with
    | none => rfl
    | some v => exact clip_eq v n 0
  · cases hi with
    | none => rfl
    | some v => exact clip_eq v n n
theorem places_gen (i j : Nat) : Builtin.Slice.slicePlaces (i : Int) (j : Int) 1 = j - i := by
  unfold Builtin.Slice.slicePlaces
  have h1 : (1 : Int) > 0 := by omega
  simp only [h1, if_true, Int.ediv_one]
  split <;> omega
theorem slicePart_ {v : Value} {o : Option Int} {Q : Option Int → Shared → Prop} (p : IsPart v o) (h : Q o s) : wpAny (model prog w) A (Builtin.Slice.slicePartIndex v) Q E s := by
  cases p with
  | none => exact slicePart_none h
  | int i t => exact slicePart_int h
theorem sliceApplied_gen {sl : Addr} {vl vu : Value} {lo hi : Option Int} {n : Nat} {Q : Int × Int × Nat → Shared → Prop} (hs : s.heap.IsSliceOf sl vl vu .none) (pl : IsPart vl lo) (pu : IsPart vu hi)
    (h : Q (((sIx n 0 lo : Nat) : Int), 1, sIx n n hi - sIx n 0 lo) s) : wpAny (model prog w) A (Builtin.Slice.sliceApplied (.ref sl) (pure (n : Int))) Q E s := by
  obtain ⟨os, hos, hcs, hds⟩ := id hs
  unfold Builtin.Slice.sliceApplied Builtin.Slice.sliceFields
  refine wpAny_bind (wpAny_bind (wpAny_field hos hds (x := vl) rfl (wpAny_bind (wpAny_field hos hds (x := vu) rfl (wpAny_bind (wpAny_field hos hds (x := .none) rfl (wpAny_pure ?_)))))))
  refine wpAny_bind (slicePart_none ?_)
  show wpAny _ _ (if ((1 : Int) == 0) = true then _ else _) _ _ s
  rw [if_neg (by decide)]
  refine wpAny_bind (slicePart_ pl (wpAny_bind (slicePart_ pu (wpAny_bind (wpAny_pure ?_)))))
  show wpAny _ _ (match Builtin.Slice.sliceAdjust lo hi 1 (n : Int) with | (lo, hi) => pure (lo, (1 : Int), Builtin.Slice.slicePlaces lo hi 1)) _ _ s
  rw [adjust_gen lo hi n]
  show wpAny _ _ (pure (((sIx n 0 lo : Nat) : Int), (1 : Int), Builtin.Slice.slicePlaces ((sIx n 0 lo : Nat) : Int) ((sIx n n hi : Nat) : Int) 1)) _ _ s
  rw [places_gen]
  exact wpAny_pure h
theorem pick_gen (xs : Array Value) (i k : Nat) : ((List.range k).filterMap fun (m : Nat) => xs[((i : Int) + (m : Int) * 1).toNat]?).toArray = ((xs.toList.drop i).take k).toArray := by
  have e : (fun (m : Nat) => xs[((i : Int) + (m : Int) * 1).toNat]?) = fun m => xs[i + m]? := by
    funext m
    have : ((i : Int) + (m : Int) * 1).toNat = i + m := by omega
    rw [this]
  rw [e]
  have := pick_run xs i k
  rw [List.filterMap_map] at this
  have e2 : ((fun x => xs[x]?) ∘ fun x => i + x) = fun m => xs[i + m]? := rfl
  rw [e2] at this
  rw [this]

theorem getItem_tuple_cut {t sl : Addr} {items : Array Value} {vl vu : Value} {lo hi : Option Int} {Q : Value → Shared → Prop} (ht : IsTup s.heap t items) (hs : s.heap.IsSliceOf sl vl vu .none) (pl : IsPart vl lo) (pu : IsPart vu hi)
    (hw : ¬ (sIx items.size 0 lo = 0 ∧ sIx items.size items.size hi = items.size))
    (h : Q (.ref s.heap.objs.size) { s with heap := s.heap.push { cls := .type "tuple", data := .seq ((items.toList.drop (sIx items.size 0 lo)).take (sIx items.size items.size hi - sIx items.size 0 lo)).toArray } })
    (hsz : items.size ≤ sizeLine) : wpAny (model prog w) A (getItem (.ref t) (.ref sl)) Q E s := by
  have htake : sizeOk (.seq ((items.toList.drop (sIx items.size 0 lo)).take (sIx items.size items.size hi - sIx items.size 0 lo)).toArray) := by
    show ((items.toList.drop (sIx items.size 0 lo)).take (sIx items.size items.size hi - sIx items.size 0 lo)).toArray.size ≤ sizeLine
    rw [List.size_toArray, List.length_take, List.length_drop, Array.length_toList]
    omega
  have hj : sIx items.size items.size hi ≤ items.size := sIx_le _ _ (Nat.le_refl _) hi
  obtain ⟨os, hos, hcs, hds⟩ := id hs
  have hTs : s.TypeIs (.ref sl) "slice" := ⟨os, hos, hcs⟩
  unfold getItem
  try with_reducible refine wpAny_holding ?_
  first | refine wpAny_bind (wpAny_pure ?_) | skip
  refine wpAny_bind (wpAny_sequenceKey ht.typeIs (by decide) ?_)
  refine wpAny_bind (wpAny_callSpecial?_slot (name := Str.ofString "__getitem__") ht.typeIs PyProof.Rows.slot_tuple_getitem
    (wpAny_call_entry PyProof.Rows.slot_tuple_getitem ht.typeIs entry_tuple_getitem ?_ (args_tuple_getitem _ _)))
  show wpAny _ _ (Builtin.Tuple.tupleItemsOf (.ref t) >>= _) _ _ s
  refine wpAny_bind (tupleItemsOf_ ht ?_)
  refine wpAny_bind (wpAny_typeOf hTs ?_)
  rw [if_pos (by decide)]
  refine wpAny_bind (sliceApplied_gen hs pl pu ?_)
  have hno : ¬ ((((sIx items.size 0 lo : Nat) : Int) == 0 && (1 : Int) == 1 && (sIx items.size items.size hi - sIx items.size 0 lo) == items.size) = true) := by
    intro q
    rw [Bool.and_eq_true, Bool.and_eq_true] at q
    have q1 : ((sIx items.size 0 lo : Nat) : Int) = 0 := eq_of_beq q.1.1
    have q2 : sIx items.size items.size hi - sIx items.size 0 lo = items.size := eq_of_beq q.2
    exact hw ⟨by omega, by omega⟩
  show wpAny _ _ (if (((sIx items.size 0 lo : Nat) : Int) == 0 && (1 : Int) == 1 && (sIx items.size items.size hi - sIx items.size 0 lo) == items.size) = true then _ else _) _ _ s
  rw [if_neg hno, pick_gen]
  first
    | exact wpAny_bind (m := Builtin.Tuple.tupleExact _) (wpAny_newObj_type (wpAny_pure ⟨_, rfl, wpAny_pure h⟩) htake)
    | exact wpAny_bind (m := Builtin.Tuple.tupleExact _) (wpAny_newObj_type (wpAny_bind (wpAny_pure (wpAny_pure ⟨_, rfl, wpAny_pure h⟩))) htake)
    | exact wpAny_bind (wpAny_bind (m := Builtin.Tuple.tupleExact _) (wpAny_newObj_type (wpAny_pure (wpAny_pure ⟨_, rfl, wpAny_pure h⟩)) htake))
    | exact wpAny_bind (wpAny_bind (m := Builtin.Tuple.tupleExact _) (wpAny_newObj_type (wpAny_pure ⟨_, rfl, wpAny_pure h⟩) htake))
end
end HT

namespace L2
open PySem PySem.Spec PyProof.Rows

/-! ### the parts of a slice -/
abbrev TO := St → Hp → (Option Int → Hp → Prop) → Prop
/-- a slice's part (left out, or an int) -/
def PO (X : Cx) (e : Option Expr) (t : TO) : Prop :=
  ∀ (pins : List (Addr × Obj)) (s : Shared) (σ : St) (H : Hp) (Q : Option Int → Hp → Prop), Inv X pins σ H s → t σ H Q →
    wpAny (model X.prog X.w) X.A (evalPart e X.env) (fun u s' => ∃ o H', Inv X pins σ H' s' ∧ IsPart u o ∧ Q o H') X.xe s
def tNoPart : TO := fun _ H Q => Q none H
def tPart (t : TE) : TO := fun σ H Q => t σ H fun x H1 => ∃ i, x = .int i ∧ Q (some i) H1

theorem intsAre_of {ns : List Int} : ∀ {us : List Value}, Vals (ns.map V.int) us → IntsAre us ns := by
  induction ns with
  | nil => intro us r; rw [List.map_nil] at r; cases r; exact .nil
  | cons n ns ih =>
    intro us r
    rw [List.map_cons] at r
    cases r with
    | cons r1 r2 =>
      obtain ⟨t, e⟩ := r1
      subst e
      exact .cons n t (ih r2)

section
variable {X : Cx} {e : Expr} {te : TE} {lo hi : Option Expr} {tl th : TO} {pos p2 : Pos}

theorem po_none : PO X none tNoPart := by
  intro pins s σ H Q I h
  rw [evalPart_none]
  exact wpAny_pure ⟨none, H, I, .none, h⟩
theorem po_some (h : PE X e te) : PO X (some e) (tPart te) := by
  intro pins s σ H Q I hw
  rw [evalPart_some]
  refine thn (h pins s σ H _ I hw) fun u s1 ⟨x, H1, I1, r1, q1⟩ => ?_
  obtain ⟨i, rfl, q⟩ := q1
  obtain ⟨t, rfl⟩ := r1
  exact ⟨some i, H1, I1, .int i t, q⟩

/-- what a slice of a value is, by values: the slice object stands at sl -/
def SlR (X : Cx) (r : V → Option Int → Option Int → Hp → VK → Prop) : Prop :=
  ∀ (pins : List (Addr × Obj)) (s : Shared) (σ : St) (H : Hp) (x : V) (v vl vu : Value) (lo hi : Option Int) (sl : Addr) (Q : VK), Inv X pins σ H s → RelV x v → s.heap.IsSliceOf sl vl vu .none → IsPart vl lo → IsPart vu hi → r x lo hi H Q →
    ∃ T id, typeLookup (.type T) "__getitem__" = pure (some (.builtin id)) ∧ s.TypeIs v T ∧ wpAny (model X.prog X.w) X.A (getItem v (.ref sl)) (EP X pins σ Q) X.xe s
theorem SlR.or {r r' : V → Option Int → Option Int → Hp → VK → Prop} (h : SlR X r) (h' : SlR X r') : SlR X (fun x lo hi H Q => r x lo hi H Q ∨ r' x lo hi H Q) := by
  intro pins s σ H x v vl vu lo hi sl Q I rx hs pl pu q
  rcases q with q | q
  · exact h pins s σ H x v vl vu lo hi sl Q I rx hs pl pu q
  · exact h' pins s σ H x v vl vu lo hi sl Q I rx hs pl pu q
def tSl (r : V → Option Int → Option Int → Hp → VK → Prop) (te : TE) (tl th : TO) : TE := fun σ H Q => te σ H fun x H1 => tl σ H1 fun l H2 => th σ H2 fun u H3 => r x l u H3 Q
/-- a[lo:hi], any a -/
theorem pe_slice {r : V → Option Int → Option Int → Hp → VK → Prop} (hr : SlR X r) (he : PE X e te) (hl : PO X lo tl) (hu : PO X hi th) : PE X (.Subscript e (.Slice lo hi none p2) pos) (tSl r te tl th) := by
  intro pins s σ H Q I h
  refine Subscript_ (thn (he pins s σ H _ I h) fun v s1 ⟨x, H1, I1, r1, q1⟩ => ?_)
  refine wpAny_Slice (thn (hl pins s1 σ H1 _ I1 q1) fun vl s2 ⟨l, H2, I2, pl, q2⟩ => thn (hu pins s2 σ H2 _ I2 q2) fun vu s3 ⟨u, H3, I3, pu, q3⟩ => ?_)
  rw [evalPart_none]
  refine wpAny_pure ?_
  have I4 : Inv X pins σ H3 { s3 with heap := s3.heap.push { cls := .type "slice", data := .fields #[vl, vu, .none] } } := I3.kept (t' := s3.toks) fun b ob q => Heap.get?_push_of_some _ q
  obtain ⟨T, id, hT, ht, hg⟩ := hr pins { s3 with heap := s3.heap.push { cls := .type "slice", data := .fields #[vl, vu, .none] } } σ H3 x v vl vu l u s3.heap.objs.size Q I4 r1 (Heap.IsSliceOf.new ..) pl pu q3
  show wpAny (model X.prog X.w) X.A (subscriptTail e (.Slice lo hi none p2) v (.ref s3.heap.objs.size)) (EP X pins σ Q) X.xe { s3 with heap := s3.heap.push { cls := .type "slice", data := .fields #[vl, vu, .none] } }
  exact tail_any (ops := [.ref s3.heap.objs.size, v]) ht hT hg (by with_unfolding_all rfl)

/-- the items of xs[lo:hi] -/
def cutV (xs : List V) (lo hi : Option Int) : List V := (xs.drop (HT.sIx xs.length 0 lo)).take (HT.sIx xs.length xs.length hi - HT.sIx xs.length 0 lo)
theorem cutV_length (xs : List V) (lo hi : Option Int) : (cutV xs lo hi).length ≤ xs.length := by
  unfold cutV
  rw [List.length_take, List.length_drop]
  omega
/-- t[lo:hi], not the whole of it (the whole would be t itself) -/
def rSlT (K : PySem.W.Frag) : V → Option Int → Option Int → Hp → VK → Prop := fun x lo hi H Q => ∃ a xs, x = .ref a ∧ SqT K H a xs ∧
  ¬ (HT.sIx xs.length 0 lo = 0 ∧ HT.sIx xs.length xs.length hi = xs.length) ∧ ∀ p, H p = none → Q (.ref p) (upd H p (.tup (cutV xs lo hi)))
theorem sl_tup : SlR X (rSlT X.K) := by
  intro pins s σ H x v vl vu lo hi sl Q I rx hs pl pu h
  obtain ⟨a, xs, rfl, hx, hw, q⟩ := h
  cases rx
  obtain ⟨its, r, ht, hz⟩ := I.tuple hx
  have hlen : its.toArray.size = xs.length := by rw [List.size_toArray]; exact r.length.symm
  refine ⟨"tuple", _, PyProof.Rows.slot_tuple_getitem.lookup, ht.typeIs, ?_⟩
  refine HT.getItem_tuple_cut ht hs pl pu (by rw [hlen]; exact hw) ?_ (by rw [hlen]; exact hz)
  rw [hlen]
  refine ⟨.ref s.heap.objs.size, _, I.laid (t' := s.toks) (o := .tup (cutV xs lo hi)) (fun b ob q => Heap.get?_push_of_some _ q) (Nat.le_refl _) ?_, rfl, q _ (I.hok.fresh (Nat.le_refl _))⟩
  exact ⟨Nat.le_trans (cutV_length xs lo hi) hz, _, (r.drop (HT.sIx xs.length 0 lo)).take (HT.sIx xs.length xs.length hi - HT.sIx xs.length 0 lo), IsTup.new _ _⟩

/-! ### t < u, t + u -/
def rLtT (K : PySem.W.Frag) : R2 := fun x y H Q => ∃ a b ns ms, x = .ref a ∧ y = .ref b ∧ SqT K H a (ns.map V.int) ∧ SqT K H b (ms.map V.int) ∧ Q (.bl (HT.lexLt ns ms)) H
theorem op_ltT (hu : X.A.units < cLine) : OpR X (compareOp .Lt) (rLtT X.K) := by
  intro pins s σ H x y v u Q I rx ry h
  obtain ⟨a, b, ns, ms, rfl, rfl, ha, hb, q⟩ := h
  cases rx
  cases ry
  obtain ⟨its, r1, p1, _⟩ := I.tuple ha
  obtain ⟨its2, r2, p2, _⟩ := I.tuple hb
  have i1 : IntsAre its.toArray.toList ns := intsAre_of r1
  have i2 : IntsAre its2.toArray.toList ms := intsAre_of r2
  exact HT.lt_tupInts p1 p2 i1 i2 hu ⟨.bl (HT.lexLt ns ms), H, I, rfl, q⟩
/-- t + u, t not empty: u empty gives t itself -/
def rCatT (K : PySem.W.Frag) : R2 := fun x y H Q => ∃ a b xs ys, x = .ref a ∧ y = .ref b ∧ SqT K H a xs ∧ SqT K H b ys ∧ xs ≠ [] ∧ xs.length + ys.length ≤ sizeLine ∧
  (ys = [] → Q (.ref a) H) ∧ (ys ≠ [] → ∀ p, H p = none → Q (.ref p) (upd H p (.tup (xs ++ ys))))
theorem Vals.nil_iff {xs : List V} {us : List Value} (r : Vals xs us) : us = [] ↔ xs = [] := by
  cases r with
  | nil => simp
  | cons _ _ => simp
theorem op_catT : OpR X (binaryOp .Add) (rCatT X.K) := by
  intro pins s σ H x y v u Q I rx ry h
  obtain ⟨a, b, xs, ys, rfl, rfl, ha, hb, hx, hz, q1, q2⟩ := h
  cases rx
  cases ry
  obtain ⟨its, r1, p1, _⟩ := I.tuple ha
  obtain ⟨its2, r2, p2, _⟩ := I.tuple hb
  refine HT.cat_tup p1 p2 (fun z => hx (r1.nil_iff.mp z)) (fun z => ⟨.ref a, H, I, rfl, q1 (r2.nil_iff.mp z)⟩) (fun z => ?_) (by rw [← r1.length, ← r2.length]; exact hz)
  refine ⟨.ref s.heap.objs.size, _, I.laid (t' := s.toks) (o := .tup (xs ++ ys)) (fun b ob q => Heap.get?_push_of_some _ q) (Nat.le_refl _) ?_, rfl, q2 (fun w => z (r2.nil_iff.mpr w)) _ (I.hok.fresh (Nat.le_refl _))⟩
  exact ⟨by rw [List.length_append]; exact hz, _, r1.append r2, IsTup.new _ _⟩
/-- tuple(t) -/
theorem call_tupleT : CallR X (.type "tuple") (fun xs H Q => ∃ a ys, xs = [.ref a] ∧ SqT X.K H a ys ∧ Q (.ref a) H) := by
  intro pins s σ H xs us Q I r h
  obtain ⟨a, ys, rfl, ha, q⟩ := h
  obtain ⟨u, rfl, ru⟩ := vals1 r
  cases ru
  obtain ⟨its, _, p1, _⟩ := I.tuple ha
  exact call_tuple_same (items := its.toArray) p1 ⟨.ref a, H, I, rfl, q⟩
end
end L2

namespace L2
open PySem PySem.Spec PyProof.Rows

/-! ### places -/
/-- the place that an index of any sign means -/
def ixN (n : Nat) (i : Int) : Option Nat := if 0 ≤ i then (if i < n then some i.toNat else none) else if -(n : Int) ≤ i then some (i + n).toNat else none
def atI {α : Type} (xs : List α) (i : Int) : Option α := (ixN xs.length i).bind fun j => xs[j]?
theorem ixN_seq {n : Nat} {i : Int} {j : Nat} (h : ixN n i = some j) : seqIndex? i n = some j ∧ j < n ∧ -(n : Int) ≤ i ∧ i < n := by
  unfold ixN at h
  by_cases h0 : 0 ≤ i
  · rw [if_pos h0] at h
    by_cases h1 : i < n
    · rw [if_pos h1] at h
      have e : i.toNat = j := Option.some.inj h
      exact ⟨by rw [seqIndex_of h0 h1, e], by omega, by omega, h1⟩
    · rw [if_neg h1] at h; cases h
  · rw [if_neg h0] at h
    by_cases h1 : -(n : Int) ≤ i
    · rw [if_pos h1] at h
      have e : (i + n).toNat = j := Option.some.inj h
      exact ⟨by rw [seqIndex_neg (by omega) h1, e], by omega, h1, by omega⟩
    · rw [if_neg h1] at h; cases h
theorem atI_get {α : Type} {xs : List α} {i : Int} {v : α} (h : atI xs i = some v) : ∃ j, seqIndex? i xs.length = some j ∧ xs[j]? = some v ∧ j < xs.length ∧ -(xs.length : Int) ≤ i ∧ i < xs.length := by
  unfold atI at h
  cases e : ixN xs.length i with
  | none => rw [e] at h; cases h
  | some j =>
    rw [e] at h
    obtain ⟨h1, h2, h3, h4⟩ := ixN_seq e
    exact ⟨j, h1, h, h2, h3, h4⟩
theorem atI_nat {α : Type} {xs : List α} {j : Nat} {v : α} (h : xs[j]? = some v) : atI xs (j : Int) = some v := by
  have hj : j < xs.length := (List.getElem?_eq_some_iff.mp h).1
  have e : ixN xs.length (j : Int) = some j := by
    unfold ixN
    rw [if_pos (by omega), if_pos (by omega)]; simp
  unfold atI; rw [e]; exact h
theorem atI_last {α : Type} (xs : List α) (v : α) : atI (xs ++ [v]) (-1) = some v := by
  have hl : (xs ++ [v]).length = xs.length + 1 := by simp
  have e : ixN (xs ++ [v]).length (-1) = some xs.length := by
    unfold ixN
    rw [hl, if_neg (by decide), if_pos (by omega)]
    congr 1
    omega
  unfold atI
  rw [e]
  show (xs ++ [v])[xs.length]? = some v
  simp

/-! ### what may be subscripted -/
/-- what stands as an index of a plain subscript -/
def PlainIx (b : Expr) : Prop := ∀ o i, subscripted b false o i = operate [o, i] (getItem o i)
/-- a subscript by values -/
def IxR (X : Cx) (r : R2) : Prop :=
  ∀ (value slice : Expr) (pins : List (Addr × Obj)) (s : Shared) (σ : St) (H : Hp) (x y : V) (v u : Value) (Q : VK), Inv X pins σ H s → RelV x v → RelV y u → r x y H Q →
    subscripted slice false v u = operate [v, u] (getItem v u) → wpAny (model X.prog X.w) X.A (subscriptTail value slice v u) (EP X pins σ Q) X.xe s
/-- a call of a builtin's method by values: the receiver, the arguments -/
def MtR (X : Cx) (id : String) (r : V → List V → Hp → VK → Prop) : Prop :=
  ∀ (pins : List (Addr × Obj)) (s : Shared) (σ : St) (H : Hp) (x : V) (xs : List V) (v : Value) (us : List Value) (Q : VK), Inv X pins σ H s → RelV x v → Vals xs us → r x xs H Q →
    wpAny (model X.prog X.w) X.A (call (.builtin id) (v :: us)) (EP X pins σ Q) X.xe s
section
variable {X : Cx} {a b : Expr} {ta tb : TE} {pos : Pos}
theorem IxR.or {r r' : R2} (h : IxR X r) (h' : IxR X r') : IxR X (fun x y H Q => r x y H Q ∨ r' x y H Q) := by
  intro value slice pins s σ H x y v u Q I rx ry q hs
  rcases q with q | q
  · exact h value slice pins s σ H x y v u Q I rx ry q hs
  · exact h' value slice pins s σ H x y v u Q I rx ry q hs
theorem MtR.or {id : String} {r r' : V → List V → Hp → VK → Prop} (h : MtR X id r) (h' : MtR X id r') : MtR X id (fun x xs H Q => r x xs H Q ∨ r' x xs H Q) := by
  intro pins s σ H x xs v us Q I rx rs q
  rcases q with q | q
  · exact h pins s σ H x xs v us Q I rx rs q
  · exact h' pins s σ H x xs v us Q I rx rs q
/-- a[b] -/
theorem pe_ix {r : R2} (hr : IxR X r) (ha : PE X a ta) (hb : PE X b tb) (hs : PlainIx b) : PE X (.Subscript a b pos) (tOp r ta tb) := by
  intro pins s σ H Q I h
  exact Subscript_ (binT ha hb I h fun v u s2 x y H2 I2 rx ry q => hr a b pins s2 σ H2 x y v u Q I2 rx ry q (hs _ _))

def rIxL (K : PySem.W.Frag) : R2 := fun x y H Q => ∃ p xs i v, x = .ref p ∧ y = .int i ∧ SqL K H p xs ∧ atI xs i = some v ∧ Q v H
def rIxT (K : PySem.W.Frag) : R2 := fun x y H Q => ∃ p xs i v, x = .ref p ∧ y = .int i ∧ SqT K H p xs ∧ atI xs i = some v ∧ Q v H
def rIxS : R2 := fun x y H Q => ∃ z i c, x = .str z ∧ y = .int i ∧ z.length ≤ sizeLine ∧ atI z.cps.toList i = some c ∧ Q (.str ⟨#[c]⟩) H
theorem ix_list : IxR X (rIxL X.K) := by
  intro value slice pins s σ H x y v u Q I rx ry h hs
  obtain ⟨p, xs, i, z, rfl, rfl, hq, he, q⟩ := h
  cases rx
  obtain ⟨t, rfl⟩ := ry
  obtain ⟨its, r, pl, hz⟩ := I.list hq
  obtain ⟨j, h1, h2, h3, h4, h5⟩ := atI_get he
  obtain ⟨w, ew, rw'⟩ := r.get h2
  have hl := r.length
  have hn := line63
  have fin : EP X pins σ Q w s := ⟨z, H, I, rw', q⟩
  by_cases h0 : 0 ≤ i
  · have hj : i.toNat = j := by
      rw [seqIndex_of h0 h5] at h1
      exact Option.some.inj h1
    exact item_listR pl.isList h0 (by omega) (by rw [hj]; simpa using ew) fin hs
  · have hj : (i + (its.toArray.size : Int)).toNat = j := by
      rw [seqIndex_neg (by omega) h4] at h1
      rw [List.size_toArray, ← hl]
      exact Option.some.inj h1
    exact subscriptTail_builtinR (x := w) pl.isList.typeIs slot_list_getitem.lookup
      (wpAny_getItem_list_neg (Q := fun r s' => r = w ∧ EP X pins σ Q r s') pl.isList (by omega) (by rw [List.size_toArray] <;> omega) (by omega) (by rw [hj]; simpa using ew) ⟨rfl, fin⟩) hs
theorem ix_tup : IxR X (rIxT X.K) := by
  intro value slice pins s σ H x y v u Q I rx ry h hs
  obtain ⟨p, xs, i, z, rfl, rfl, hq, he, q⟩ := h
  cases rx
  obtain ⟨t, rfl⟩ := ry
  obtain ⟨its, r, pl, hz⟩ := I.tuple hq
  obtain ⟨j, h1, h2, h3, h4, h5⟩ := atI_get he
  obtain ⟨w, ew, rw'⟩ := r.get h2
  have hl := r.length
  have hn := line63
  have fin : EP X pins σ Q w s := ⟨z, H, I, rw', q⟩
  exact subscriptTail_builtinR (x := w) pl.typeIs slot_tuple_getitem.lookup
    (getItem_tuple (j := j) (Q := fun r s' => r = w ∧ EP X pins σ Q r s') pl (by omega) (by omega) (by rw [List.size_toArray, ← hl]; exact h1) (by simpa using ew) ⟨rfl, fin⟩) hs
theorem ix_str : IxR X rIxS := by
  intro value slice pins s σ H x y v u Q I rx ry h hs
  obtain ⟨z, i, c, rfl, rfl, hz, he, q⟩ := h
  obtain ⟨t, rfl⟩ := rx
  obtain ⟨t', rfl⟩ := ry
  obtain ⟨j, h1, h2, h3, h4, h5⟩ := atI_get he
  have hl : z.cps.toList.length = z.length := by simp [Str.length]
  rw [hl] at h1 h4 h5
  have hn := line63
  exact tail_any (typeIs_str s z t) slot_str_getitem.lookup (getItem_str (c := c) (by
    have e1 : decide (i < -(2 ^ 63 : Int)) = false := decide_eq_false (by omega)
    have e2 : decide (i ≥ 2 ^ 63) = false := decide_eq_false (by omega)
    rw [e1, e2, Bool.or_false]) (by rw [h1]; simpa using h2) ⟨.str ⟨#[c]⟩, H, I.tok _, ⟨_, rfl⟩, q⟩) hs
/-- list, tuple or str -/
def rIx (K : PySem.W.Frag) : R2 := fun x y H Q => rIxL K x y H Q ∨ rIxT K x y H Q ∨ rIxS x y H Q
theorem ix_seq : IxR X (rIx X.K) := ix_list.or (ix_tup.or ix_str)

/-! ### xs[i] = v, any sign -/
/-- the list's object behind a store -/
theorem mapSeq_set (its : List Value) (n j : Nat) (u : Value) : Obj.mapSeq (·.setIfInBounds j u) { cls := .type "list", data := .seq its.toArray n } = { cls := .type "list", data := .seq (its.set j u).toArray n } := by
  simp [Obj.mapSeq]
theorem Inv.lst {pins : List (Addr × Obj)} {σ : St} {H : Hp} {s : Shared} {p : Addr} {xs : List V} (I : Inv X pins σ H s) (h : H p = some (.lst xs)) :
    ∃ (its : List Value) (n : Nat), Vals xs its ∧ s.heap.get? p = some { cls := .type "list", data := .seq its.toArray n } ∧ xs.length ≤ sizeLine := by
  obtain ⟨z, its, n, r, e⟩ := I.hok p _ h
  exact ⟨its, n, r, e, z⟩
/-- the list at p is written by an update of its object -/
theorem Inv.lstUpd {pins : List (Addr × Obj)} {σ : St} {H : Hp} {s : Shared} {p : Addr} {xs ys : List V} {its its' : List Value} {n n' : Nat} {f : Obj → Obj} (I : Inv X pins σ H s) (h : H p = some (.lst xs))
    (ho : s.heap.get? p = some { cls := .type "list", data := .seq its.toArray n }) (hf : f { cls := .type "list", data := .seq its.toArray n } = { cls := .type "list", data := .seq its'.toArray n' }) (r : Vals ys its') (hz : ys.length ≤ sizeLine) (t : Nat) :
    Inv X pins σ (upd H p (.lst ys)) { s with heap := s.heap.update p f, toks := t } := by
  have e : (s.heap.update p f).get? p = some { cls := .type "list", data := .seq its'.toArray n' } := by
    rw [Heap.get?_update_self f ho (by rw [hf] <;> rfl), hf]
  refine I.write (x := p) (e := p) (by rw [h]; trivial) (.inl rfl) (fun b u hb q => (Heap.get?_update_other _ _ (Ne.symm hb)).trans q) ⟨_, e⟩ ?_
  exact ⟨hz, its', n', r, e⟩
def rSetL : V → V → V → Hp → (Hp → Prop) → Prop := fun o i v H Q => ∃ p xs k j, o = .ref p ∧ i = .int k ∧ H p = some (.lst xs) ∧ ixN xs.length k = some j ∧ Q (upd H p (.lst (xs.set j v)))
theorem set_list : PSet X rSetL := by
  intro pins s σ H o i v ov iv u Q I ro ri rv h
  obtain ⟨p, xs, k, j, rfl, rfl, hp, hj, q⟩ := h
  cases ro
  obtain ⟨t, rfl⟩ := ri
  obtain ⟨its, n, r, ho, hz⟩ := I.lst hp
  obtain ⟨h1, h2, h3, h4⟩ := ixN_seq hj
  have hl := r.length
  have hn := line63
  have I' : Inv X pins σ (upd H p (.lst (xs.set j v))) { s with heap := s.heap.update p (Obj.mapSeq (·.setIfInBounds j u)) } :=
    I.lstUpd hp ho (mapSeq_set its n j u) (r.set rv j) (by rw [List.length_set]; exact hz) s.toks
  by_cases h0 : 0 ≤ k
  · have hk : k.toNat = j := by
      rw [seqIndex_of h0 h4] at h1
      exact Option.some.inj h1
    exact PySem.W.ki_setAt ho h0 (by omega) (by rw [List.size_toArray, ← hl]; exact h4) (by rw [hk]; exact ⟨_, I', q⟩)
  · have hk : (k + (its.toArray.size : Int)).toNat = j := by
      rw [seqIndex_neg (by omega) h3] at h1
      rw [List.size_toArray, ← hl]
      exact Option.some.inj h1
    exact PySem.W.ki_setBack ho (by omega) (by rw [List.size_toArray, ← hl]; exact h3) (by omega) (by rw [hk]; exact ⟨_, I', q⟩)

/-! ### slices -/
theorem slice_bounds (lo hi : Option Int) (n : Nat) : (sliceBounds lo hi none n).1 = ((HT.sIx n 0 lo : Nat) : Int) ∧ (sliceBounds lo hi none n).2.1 = ((HT.sIx n n hi : Nat) : Int) ∧ (sliceBounds lo hi none n).2.2 = 1 := by
  refine ⟨?_, ?_, rfl⟩
  · cases lo with
    | none => simp [sliceBounds, HT.sIx]
    | some i =>
      simp only [sliceBounds, HT.sIx, Option.getD_none, show (1 : Int) > 0 by decide, if_true]
      by_cases h : i < 0
      · simp only [h, if_true] <;> omega
      · simp only [h, if_false] <;> omega
  · cases hi with
    | none => simp [sliceBounds, HT.sIx]
    | some i =>
      simp only [sliceBounds, HT.sIx, Option.getD_none, show (1 : Int) > 0 by decide, if_true]
      by_cases h : i < 0
      · simp only [h, if_true] <;> omega
      · simp only [h, if_false] <;> omega
theorem slicePick_cut (its : List Value) (lo hi : Option Int) : slicePick its.toArray lo hi none = ((its.drop (HT.sIx its.length 0 lo)).take (HT.sIx its.length its.length hi - HT.sIx its.length 0 lo)).toArray := by
  obtain ⟨h1, h2, h3⟩ := slice_bounds lo hi its.toArray.size
  unfold slicePick
  rw [h1, h2, h3]
  simp only [sliceRange_one, pick_run, List.size_toArray] <;> rfl
/-- xs[lo:hi] of a list: a new list -/
def rSlL (K : PySem.W.Frag) : V → Option Int → Option Int → Hp → VK → Prop := fun x lo hi H Q => ∃ a xs, x = .ref a ∧ SqL K H a xs ∧ ∀ p, H p = none → Q (.ref p) (upd H p (.lst (cutV xs lo hi)))
theorem sl_list : SlR X (rSlL X.K) := by
  intro pins s σ H x v vl vu lo hi sl Q I rx hs pl pu h
  obtain ⟨a, xs, rfl, hx, q⟩ := h
  cases rx
  obtain ⟨its, r, ht, hz⟩ := I.list hx
  have hlen := r.length
  refine ⟨"list", _, slot_list_getitem.lookup, ht.isList.typeIs, ?_⟩
  refine wpAny_getItem_list_slice ht.isList hs pl pu .none (by simp) ?_ (by rw [List.size_toArray] <;> omega)
  rw [slicePick_cut, ← hlen]
  refine ⟨.ref s.heap.objs.size, _, I.laid (t' := s.toks) (o := .lst (cutV xs lo hi)) (fun b ob q => Heap.get?_push_of_some _ q) (Nat.le_refl _) ?_, rfl, q _ (I.hok.fresh (Nat.le_refl _))⟩
  exact ⟨Nat.le_trans (cutV_length xs lo hi) hz, _, 0, (r.drop (HT.sIx xs.length 0 lo)).take (HT.sIx xs.length xs.length hi - HT.sIx xs.length 0 lo), Heap.get?_push_size _ rfl⟩

/-! ### in, not in: flat items -/
def flatV : V → Bool
  | .non => true
  | .bl _ => true
  | .int _ => true
  | .str _ => true
  | _ => false
/-- == of flat values -/
def eqV : V → V → Bool
  | .non, .non => true
  | .bl a, .bl b => a == b
  | .bl a, .int b => (if a then 1 else 0) == b
  | .int a, .bl b => a == (if b then 1 else 0)
  | .int a, .int b => a == b
  | .str a, .str b => a == b
  | _, _ => false
theorem eqAt_V {A : Around} {s : Shared} {y x : V} {u v : Value} (ry : RelV y u) (rx : RelV x v) (fy : flatV y = true) (fx : flatV x = true) : SeqAt.EqAt A s u v (eqV y x) := by
  cases y with
  | non =>
    cases ry
    cases x with
    | non => cases rx; exact SeqAt.EqAt.same _
    | bl b => cases rx; exact SeqAt.EqAt.none_bool b
    | int b => obtain ⟨t, rfl⟩ := rx; exact SeqAt.EqAt.none_int b t
    | str b => obtain ⟨t, rfl⟩ := rx; exact SeqAt.EqAt.none_str b t
    | _ => exact absurd (show false = true from fx) Bool.false_ne_true
  | bl a =>
    cases ry
    cases x with
    | non => cases rx; exact SeqAt.EqAt.bool_none a
    | bl b => cases rx; exact SeqAt.EqAt.bool_bool a b
    | int b => obtain ⟨t, rfl⟩ := rx; exact SeqAt.EqAt.bool_int a b t
    | str b => obtain ⟨t, rfl⟩ := rx; exact SeqAt.EqAt.bool_str a b t
    | _ => exact absurd (show false = true from fx) Bool.false_ne_true
  | int a =>
    obtain ⟨t', rfl⟩ := ry
    cases x with
    | non => cases rx; exact SeqAt.EqAt.int_none a t'
    | bl b => cases rx; exact SeqAt.EqAt.int_bool a t' b
    | int b => obtain ⟨t, rfl⟩ := rx; exact SeqAt.EqAt.int_int a t' b t
    | str b => obtain ⟨t, rfl⟩ := rx; exact SeqAt.EqAt.int_str a t' b t
    | _ => exact absurd (show false = true from fx) Bool.false_ne_true
  | str a =>
    obtain ⟨t', rfl⟩ := ry
    cases x with
    | non => cases rx; exact SeqAt.EqAt.str_none a t'
    | bl b => cases rx; exact SeqAt.EqAt.str_bool a t' b
    | int b => obtain ⟨t, rfl⟩ := rx; exact SeqAt.EqAt.str_int a t' b t
    | str b => obtain ⟨t, rfl⟩ := rx; exact SeqAt.EqAt.str_str a t' b t
    | _ => exact absurd (show false = true from fx) Bool.false_ne_true
  | _ => exact absurd (show false = true from fy) Bool.false_ne_true
/-- the items' answers, read off the values (a value's own answer does not lean on its token) -/
def eqU (x : V) (u : Value) : Bool := match u with
  | .none => eqV .non x
  | .bool b => eqV (.bl b) x
  | .int i _ => eqV (.int i) x
  | .str z _ => eqV (.str z) x
  | _ => false
theorem eqU_of {x y : V} {u : Value} (r : RelV y u) (f : flatV y = true) : eqU x u = eqV y x := by
  cases y with
  | non => cases r; rfl
  | bl b => cases r; rfl
  | int i => obtain ⟨t, rfl⟩ := r; rfl
  | str z => obtain ⟨t, rfl⟩ := r; rfl
  | _ => exact absurd (show false = true from f) Bool.false_ne_true
theorem any_eqU {x : V} : ∀ {xs : List V} {us : List Value}, Vals xs us → xs.all flatV = true → us.any (eqU x) = xs.any fun y => eqV y x
  | _, _, .nil, _ => rfl
  | y :: xs, u :: us, .cons r t, f => by
    rw [List.all_cons, Bool.and_eq_true] at f
    rw [List.any_cons, List.any_cons, eqU_of r f.1, any_eqU t f.2]
theorem mem_eqAt {A : Around} {s : Shared} {x : V} {v : Value} (rx : RelV x v) (fx : flatV x = true) : ∀ {xs : List V} {us : List Value}, Vals xs us → xs.all flatV = true → ∀ u ∈ us, SeqAt.EqAt A s u v (eqU x u)
  | _, _, .nil, _ => fun u hu => by cases hu
  | y :: xs, u :: us, .cons r t, f => fun u' hu => by
    rw [List.all_cons, Bool.and_eq_true] at f
    rcases List.mem_cons.mp hu with rfl | hu
    · rw [eqU_of r f.1]; exact eqAt_V r rx f.1 fx
    · exact mem_eqAt rx fx t f.2 u' hu
def inV (x : V) (xs : List V) : Bool := xs.any fun y => eqV y x
/-- x in a list or tuple of flat items -/
def rIn (K : PySem.W.Frag) (neg : Bool) : R2 := fun x y H Q => ∃ p xs, y = .ref p ∧ (SqL K H p xs ∨ SqT K H p xs) ∧ flatV x = true ∧ xs.all flatV = true ∧ Q (.bl (if neg then !inV x xs else inV x xs)) H
theorem op_in_seq : OpR X (compareOp .In) (rIn X.K false) := by
  intro pins s σ H x y v u Q I rx ry h
  obtain ⟨p, xs, rfl, hq, fx, fs, q⟩ := h
  cases ry
  rcases hq with hq | hq
  · obtain ⟨its, r, pl, hz⟩ := I.list hq
    refine SeqAt.in_listAt (eqU x) pl.isList (fun w hw => mem_eqAt rx fx r fs w (by simpa using hw)) ⟨.bl _, H, I, rfl, ?_⟩
    rw [show its.toArray.any (eqU x) = its.any (eqU x) by simp, any_eqU r fs]
    exact q
  · obtain ⟨its, r, pl, hz⟩ := I.tuple hq
    refine SeqAt.in_tupleAt (eqU x) pl (fun w hw => mem_eqAt rx fx r fs w (by simpa using hw)) ⟨.bl _, H, I, rfl, ?_⟩
    rw [show its.toArray.any (eqU x) = its.any (eqU x) by simp, any_eqU r fs]
    exact q
theorem op_notIn_seq : OpR X (compareOp .NotIn) (rIn X.K true) := by
  intro pins s σ H x y v u Q I rx ry h
  obtain ⟨p, xs, rfl, hq, fx, fs, q⟩ := h
  cases ry
  rcases hq with hq | hq
  · obtain ⟨its, r, pl, hz⟩ := I.list hq
    refine SeqAt.notIn_listAt (eqU x) pl.isList (fun w hw => mem_eqAt rx fx r fs w (by simpa using hw)) ⟨.bl _, H, I, rfl, ?_⟩
    rw [show its.toArray.any (eqU x) = its.any (eqU x) by simp, any_eqU r fs]
    exact q
  · obtain ⟨its, r, pl, hz⟩ := I.tuple hq
    refine SeqAt.notIn_tupleAt (eqU x) pl (fun w hw => mem_eqAt rx fx r fs w (by simpa using hw)) ⟨.bl _, H, I, rfl, ?_⟩
    rw [show its.toArray.any (eqU x) = its.any (eqU x) by simp, any_eqU r fs]
    exact q
theorem op_notIn_str : OpR X (compareOp .NotIn) (fun x y H Q => ∃ i j, x = .str i ∧ y = .str j ∧ Q (.bl (!(!(Builtin.Str.occurrences j i 0 j.length 1).isEmpty))) H) := by
  intro pins s σ H x y v u Q I rx ry h
  obtain ⟨i, j, rfl, rfl, q⟩ := h
  obtain ⟨t, rfl⟩ := rx
  obtain ⟨t', rfl⟩ := ry
  exact notIn_str ⟨.bl _, H, I, rfl, q⟩

/-! ### len, list(x), tuple(x) of any list or tuple that is read -/
theorem call_len_seq : CallR X (.builtin "len") (fun xs H Q => ∃ p ys, xs = [.ref p] ∧ (SqL X.K H p ys ∨ SqT X.K H p ys) ∧ Q (.int ys.length) H) := by
  intro pins s σ H xs us Q I r h
  obtain ⟨p, ys, rfl, hq, q⟩ := h
  obtain ⟨u, rfl, rx⟩ := vals1 r
  cases rx
  have hn := line63
  rcases hq with hq | hq
  · obtain ⟨its, r', pl, hz⟩ := I.list hq
    have hlen := r'.length
    exact Calls.call_len_list pl.isList (by simp only [List.size_toArray] <;> omega) ⟨.int ys.length, H, I.tok _, ⟨s.toks + 1, by rw [List.size_toArray, hlen]⟩, q⟩
  · obtain ⟨its, r', pl, hz⟩ := I.tuple hq
    have hlen := r'.length
    exact len_tuple pl (by simp only [List.size_toArray] <;> omega) ⟨.int ys.length, H, I.tok _, ⟨s.toks + 1, by rw [List.size_toArray, hlen]⟩, q⟩
theorem call_len_str : CallR X (.builtin "len") (fun xs H Q => ∃ z, xs = [.str z] ∧ z.length ≤ sizeLine ∧ Q (.int z.length) H) := by
  intro pins s σ H xs us Q I r h
  obtain ⟨z, rfl, hz, q⟩ := h
  obtain ⟨u, rfl, t, rfl⟩ := vals1 r
  have hn := line63
  exact len_str (by omega) ⟨.int z.length, H, I.tok _, ⟨_, rfl⟩, q⟩
theorem CallR.or {f : Value} {r r' : List V → Hp → VK → Prop} (h : CallR X f r) (h' : CallR X f r') : CallR X f (fun xs H Q => r xs H Q ∨ r' xs H Q) := by
  intro pins s σ H xs us Q I rs q
  rcases q with q | q
  · exact h pins s σ H xs us Q I rs q
  · exact h' pins s σ H xs us Q I rs q
theorem call_list_of : CallR X (.type "list") (fun xs H Q => ∃ p ys, xs = [.ref p] ∧ (SqL X.K H p ys ∨ SqT X.K H p ys) ∧ ∀ l, H l = none → Q (.ref l) (upd H l (.lst ys))) := by
  intro pins s σ H xs us Q I r h
  obtain ⟨p, ys, rfl, hq, q⟩ := h
  obtain ⟨u, rfl, rx⟩ := vals1 r
  cases rx
  have fin : ∀ (its : List Value), Vals ys its → ys.length ≤ sizeLine → ∀ (h' : Heap) (c' : Nat), (∀ b o', s.heap.get? b = some o' → h'.get? b = some o') →
      h'.get? s.heap.objs.size = some { cls := .type "list", dict := none, data := .seq its.toArray c', slots := #[] } → EP X pins σ Q (.ref s.heap.objs.size) { s with heap := h' } := fun its r' hz h' c' kp e =>
    ⟨.ref s.heap.objs.size, _, I.laid (t' := s.toks) kp (Nat.le_refl _) (show ObjOk X.prog X.w _ h' _ (.lst ys) from ⟨hz, its, c', r', e⟩), rfl, q _ (I.hok.fresh (Nat.le_refl _))⟩
  rcases hq with hq | hq
  · obtain ⟨its, r', pl, hz⟩ := I.list hq
    have hlen := r'.length
    obtain ⟨o, ho, hc, n, hd⟩ := pl.isList
    exact call_list_seq p (.inl rfl) ho hc hd (fun h' c' kp e => fin its r' hz h' c' kp e) (by simp only [List.size_toArray] <;> omega)
  · obtain ⟨its, r', pl, hz⟩ := I.tuple hq
    have hlen := r'.length
    obtain ⟨o, ho, hc, n, hd⟩ := pl
    exact call_list_seq p (.inr rfl) ho hc hd (fun h' c' kp e => fin its r' hz h' c' kp e) (by simp only [List.size_toArray] <;> omega)
theorem call_tuple_of : CallR X (.type "tuple") (fun xs H Q => ∃ p ys, xs = [.ref p] ∧ ((SqL X.K H p ys ∧ ∀ l, H l = none → Q (.ref l) (upd H l (.tup ys))) ∨ (SqT X.K H p ys ∧ Q (.ref p) H))) := by
  intro pins s σ H xs us Q I r h
  obtain ⟨p, ys, rfl, h⟩ := h
  obtain ⟨u, rfl, rx⟩ := vals1 r
  cases rx
  rcases h with ⟨hq, q⟩ | ⟨hq, q⟩
  · obtain ⟨its, r', pl, hz⟩ := I.list hq
    have hlen := r'.length
    refine call_tuple_list pl.isList (fun h' kp => ?_) (by simp only [List.size_toArray] <;> omega)
    have I1 : Inv X pins σ H { s with heap := h' } := I.kept (t' := s.toks) kp
    have I2 : Inv X pins σ (upd H h'.objs.size (.tup ys)) { s with heap := h'.push { cls := .type "tuple", data := .seq its.toArray } } :=
      I1.laid (t' := s.toks) (fun b o e => Heap.get?_push_of_some _ e) (Nat.le_refl _) (show ObjOk X.prog X.w _ _ _ (.tup ys) from ⟨hz, its, r', IsTup.new _ _⟩)
    exact ⟨.ref h'.objs.size, _, I2, rfl, q _ (I1.hok.fresh (Nat.le_refl _))⟩
  · obtain ⟨its, r', pl, hz⟩ := I.tuple hq
    exact call_tuple_same pl ⟨.ref p, H, I, rfl, q⟩

/-! ### the call of a builtin's method: o.m(..) -/
/-- the value is of that builtin type -/
def tyV (K : PySem.W.Frag) (T : String) (x : V) (H : Hp) : Prop := match x with
  | .str _ => T = "str"
  | .int _ => T = "int"
  | .ref p => (T = "list" ∧ ∃ xs, SqL K H p xs) ∨ (T = "tuple" ∧ ∃ o, K.lookup p = some o ∧ o.cls = .type "tuple" ∧ o.dict = none) ∨
      (T = "dict" ∧ ((∃ kvs, H p = some (.dK kvs)) ∨ ∃ kvs, H p = some (.dT kvs))) ∨ (T = "set" ∧ ∃ S n, H p = some (.set S n))
  | _ => False
theorem tyV_is {pins : List (Addr × Obj)} {σ : St} {H : Hp} {s : Shared} {T : String} {x : V} {v : Value} (I : Inv X pins σ H s) (r : RelV x v) (ty : tyV X.K T x H) :
    s.TypeIs v T ∧ ∀ a, v = .ref a → ∃ ob, s.heap.get? a = some ob ∧ ob.dict = none := by
  cases x with
  | str z =>
    obtain ⟨t, rfl⟩ := r
    cases (show T = "str" from ty)
    exact ⟨typeIs_str s z t, fun _ e => nomatch e⟩
  | int i =>
    obtain ⟨t, rfl⟩ := r
    cases (show T = "int" from ty)
    exact ⟨typeIs_int s i t, fun _ e => nomatch e⟩
  | ref p =>
    cases r
    rcases ty with ⟨rfl, xs, hq⟩ | ⟨rfl, o, hk, hc, hd⟩ | ⟨rfl, hk⟩ | ⟨rfl, S, n, hk⟩
    · obtain ⟨its, _, pl, _⟩ := I.list hq
      refine ⟨pl.isList.typeIs, fun a e => ?_⟩
      cases e
      obtain ⟨o, n, e, c, hd, _⟩ := pl
      exact ⟨o, e, hd⟩
    · refine ⟨⟨o, I.kIn p o hk, hc⟩, fun a e => ?_⟩
      cases e
      exact ⟨o, I.kIn _ o hk, hd⟩
    · have z : ∃ o, s.heap.get? p = some o ∧ o.ExactDict := by
        rcases hk with ⟨kvs, hk⟩ | ⟨kvs, hk⟩
        · obtain ⟨_, _, _, _, o, _, _, e, ex, _⟩ := I.hok p _ hk
          exact ⟨o, e, ex⟩
        · obtain ⟨_, _, _, _, o, _, _, e, ex, _⟩ := I.hok p _ hk
          exact ⟨o, e, ex⟩
      obtain ⟨o, e, ex⟩ := z
      refine ⟨⟨o, e, ex.1⟩, fun a e2 => ?_⟩
      cases e2
      exact ⟨o, e, ex.2.1⟩
    · obtain ⟨o, _, _, _, e, ex, _⟩ := I.hok p _ hk
      refine ⟨⟨o, e, ex.1⟩, fun a e2 => ?_⟩
      cases e2
      exact ⟨o, e, ex.2.1⟩
  | _ => exact False.elim ty
def tBM0 (K : PySem.W.Frag) (T : String) (r : V → List V → Hp → VK → Prop) (to : TE) : TE := fun σ H Q => to σ H fun x H1 => tyV K T x H1 ∧ r x [] H1 Q
def tBM (K : PySem.W.Frag) (T : String) (r : V → List V → Hp → VK → Prop) (to : TE) (t : TA) : TE := fun σ H Q => to σ H fun x H1 => tyV K T x H1 ∧ t σ H1 fun xs H2 => r x xs H2 Q
variable {o e : Expr} {es : List Expr} {to : TE} {t : TA} {name : Str} {apos cpos : Pos} {T id : String} {r : V → List V → Hp → VK → Prop}
theorem pe_bm0 (pa : PlainAttrs T) (slot : Slot T name id) (hty : typeOf (.builtin id) = pure (.type "method_descriptor")) (hm : MtR X id r) (ho : PE X o to)
    (hbase : attributeBase o name X.env (eval o X.env) = eval o X.env := by rfl) (hline : (apos.endLine == cpos.line) = true := by rfl) : PE X (.Call (.Attribute o name apos) [] [] cpos) (tBM0 X.K T r to) := by
  intro pins s σ H Q I h
  refine wpAny_Call_method0_late hbase hline (thn (ho pins s σ H _ I h) fun v s1 ⟨x, H1, I1, r1, ty, q1⟩ => ?_)
  obtain ⟨h1, h2⟩ := tyV_is I1 r1 ty
  exact ⟨T, id, pa, slot, hty, h1, h2, Calls.callWith_builtin rfl (PySem.evalArgs_none (hm pins s1 σ H1 x [] v [] Q I1 r1 .nil q1))⟩
theorem pe_bm (pa : PlainAttrs T) (slot : Slot T name id) (hty : typeOf (.builtin id) = pure (.type "method_descriptor")) (hm : MtR X id r) (ho : PE X o to) (ha : PA X (e :: es) t)
    (hbase : attributeBase o name X.env (eval o X.env) = eval o X.env := by rfl)
    (hfew : ((backTo cpos (starEach (e :: es) X.env)).all (fun x => !x.1) && (backToKw cpos (keywordEach [] X.env)).all (fun x => x.1.isSome)
      && decide ((e :: es).length + ([] : List Keyword).length + (if ([] : List Keyword).isEmpty then 0 else 1) < 30)) = true := by rfl)
    (hline : (apos.endLine == cpos.line) = true := by rfl) (hs : starEach (e :: es) X.env = (false, eval e X.env) :: starEach es X.env := by rfl) (hplain : (backTo cpos (starEach es X.env)).any (·.1) = false := by rfl) :
    PE X (.Call (.Attribute o name apos) (e :: es) [] cpos) (tBM X.K T r to t) := by
  intro pins s σ H Q I h
  refine wpAny_Call_method_late hbase hfew hline rfl (thn (ho pins s σ H _ I h) fun v s1 ⟨x, H1, I1, r1, ty, q1⟩ => ?_)
  obtain ⟨h1, h2⟩ := tyV_is I1 r1 ty
  refine ⟨T, id, pa, slot, hty, h1, h2, ?_⟩
  have hA := ha cpos pins s1 σ H1 _ I1 q1
  rw [hs] at hA ⊢
  refine Calls.callWith_builtin (by show (false || (backTo cpos (starEach es X.env)).any (·.1)) = false; rw [hplain] <;> rfl) (Calls.evalArgs_plain ?_)
  exact thn hA fun us s2 ⟨vs, H2, I2, r2, q2⟩ => hm pins s2 σ H2 x vs v us Q I2 r1 r2 q2
/- xs.append(e), list.index on a module's tuple .. are MtR facts of 06m -/
end
end L2

namespace L2
open PySem PySem.Spec PyProof.Rows

def MtM (X : Cx) (id : String) (r : V → List V → Hp → VK → Prop) : Prop :=
  ∀ (pins : List (Addr × Obj)) (s : Shared) (σ : St) (H : Hp) (x : V) (xs : List V) (v : Value) (us : List Value) (Q : VK), Inv X pins σ H s → RelV x v → Vals xs us → r x xs H Q →
    wpAny (model X.prog X.w) X.A (call (.builtin id) (v :: us)) (EP X pins σ Q) X.xe s

/-! ### lists of values -/
theorem Vals.one : ∀ {x : V} {us : List Value}, Vals [x] us → ∃ u, us = [u] ∧ RelV x u
  | _, _, .cons r .nil => ⟨_, rfl, r⟩
theorem Vals.two : ∀ {x y : V} {us : List Value}, Vals [x, y] us → ∃ u v, us = [u, v] ∧ RelV x u ∧ RelV y v
  | _, _, _, .cons r (.cons q .nil) => ⟨_, _, rfl, r, q⟩
theorem Vals.zero : ∀ {us : List Value}, Vals [] us → us = []
  | _, .nil => rfl
theorem Vals.dropLast {xs : List V} {us : List Value} (h : Vals xs us) : Vals xs.dropLast us.dropLast := by
  induction h with
  | nil => exact .nil
  | cons r t ih =>
    cases t with
    | nil => exact .nil
    | cons q t' => exact .cons r ih
theorem Vals.eraseIdx : ∀ {xs : List V} {us : List Value} (i : Nat), Vals xs us → Vals (xs.eraseIdx i) (us.eraseIdx i)
  | _, _, _, .nil => .nil
  | _, _, 0, .cons _ t => t
  | _, _, i + 1, .cons r t => .cons r (Vals.eraseIdx i t)
theorem Vals.reverse {xs : List V} {us : List Value} (h : Vals xs us) : Vals xs.reverse us.reverse := by
  induction h with
  | nil => exact .nil
  | cons r t ih => rw [List.reverse_cons, List.reverse_cons]; exact Vals.append ih (.cons r .nil)
theorem Vals.rep {xs : List V} {us : List Value} (h : Vals xs us) : ∀ k : Nat, Vals (List.replicate k xs).flatten (List.replicate k us).flatten
  | 0 => .nil
  | k + 1 => by
    rw [List.replicate_succ, List.replicate_succ, List.flatten_cons, List.flatten_cons]
    exact Vals.append h (Vals.rep h k)
theorem erase_last {α : Type} (l : List α) : l.eraseIdx (l.length - 1) = l.dropLast := by
  induction l with
  | nil => rfl
  | cons a r ih =>
    cases r with
    | nil => rfl
    | cons b r =>
      have e : (a :: b :: r).length - 1 = ((b :: r).length - 1) + 1 := by
        have h1 : (a :: b :: r).length = r.length + 2 := rfl
        have h2 : (b :: r).length = r.length + 1 := rfl
        omega
      rw [e, List.eraseIdx_cons_succ, ih]
      all_goals rfl
theorem len_erase {α : Type} : ∀ (l : List α) (i : Nat), (l.eraseIdx i).length ≤ l.length
  | [], _ => Nat.le_refl _
  | _ :: _, 0 => Nat.le_succ _
  | _ :: r, i + 1 => Nat.succ_le_succ (len_erase r i)
theorem foldl_rep (its : List Value) : ∀ (k : Nat) (acc : List Value),
    List.foldl (fun x1 x2 => x1 ++ x2) acc.toArray (List.replicate k its.toArray) = (acc ++ (List.replicate k its).flatten).toArray
  | 0, acc => by simp
  | k + 1, acc => by
    have e : acc.toArray ++ its.toArray = (acc ++ its).toArray := by simp
    have e2 : (acc ++ its) ++ (List.replicate k its).flatten = acc ++ (List.replicate (k + 1) its).flatten := by
      rw [List.replicate_succ, List.flatten_cons, List.append_assoc]
    rw [← e2, ← foldl_rep its k (acc ++ its), ← e, List.replicate_succ, List.foldl_cons]

section
variable {X : Cx} {pins : List (Addr × Obj)} {σ : St} {H : Hp} {s : Shared} {l b : Addr} {xs ys zs : List V}

/-! ### the two steps: a tracked list is rewritten, a new list is laid -/
theorem Inv.lset {its its' : List Value} {n : Nat} {f : Array Value → Array Value} {t' : Nat} (I : Inv X pins σ H s) (hH : H l = some (.lst xs))
    (e : s.heap.get? l = some { cls := .type "list", data := .seq its.toArray n }) (hf : f its.toArray = its'.toArray) (hv : Vals ys its') (hz : ys.length ≤ sizeLine) :
    Inv X pins σ (upd H l (.lst ys)) { s with heap := s.heap.update l (Obj.mapSeq f), toks := t' } := by
  have q := PySem.IsL.update e f
  rw [hf] at q
  refine I.write (x := l) (e := l) (by rw [hH]; exact trivial) (.inl rfl) (fun b' u hb hu => (Heap.get?_update_other s.heap (Obj.mapSeq f) (Ne.symm hb)).trans hu) ⟨_, q⟩ ?_
  exact ⟨hz, its', _, hv, q⟩
theorem Inv.lnew {its : List Value} {t' : Nat} (I : Inv X pins σ H s) (hv : Vals ys its) (hz : ys.length ≤ sizeLine) :
    Inv X pins σ (upd H s.heap.objs.size (.lst ys)) { s with heap := s.heap.push { cls := .type "list", data := .seq its.toArray }, toks := t' } :=
  I.laid (fun _ _ q => Heap.get?_push_of_some _ q) (Nat.le_refl _) ⟨hz, its, 0, hv, Heap.get?_push_size _ rfl⟩
theorem Inv.fresh (I : Inv X pins σ H s) : H s.heap.objs.size = none := I.hok.fresh (Nat.le_refl _)
theorem Inv.lstM (I : Inv X pins σ H s) (hH : H l = some (.lst xs)) : xs.length ≤ sizeLine ∧ ∃ (its : List Value) (n : Nat), Vals xs its ∧ xs.length = its.length ∧ s.heap.get? l = some { cls := .type "list", data := .seq its.toArray n } := by
  obtain ⟨z, its, n, r, e⟩ := I.hok l _ hH
  exact ⟨z, its, n, r, r.length, e⟩

theorem notLongL {n : Nat} (h : n ≤ sizeLine) : Builtin.List.listTooLong n = false := by
  unfold Builtin.List.listTooLong
  exact decide_eq_false (by omega)
end

section
variable {X : Cx}

/-! ### methods -/
def rAppend : V → List V → Hp → VK → Prop := fun x vs H Q => ∃ l xs y, x = .ref l ∧ vs = [y] ∧ H l = some (.lst xs) ∧ xs.length < sizeLine ∧ Q .non (upd H l (.lst (xs ++ [y])))
theorem mt_append : MtM X "list.append" rAppend := by
  intro pins s σ H x vs v us Q I rx rv h
  obtain ⟨l, xs, y, rfl, rfl, hH, hz, q⟩ := h
  cases rx
  obtain ⟨u, rfl, ru⟩ := rv.one
  obtain ⟨z, its, n, r, hl, e⟩ := I.lstM hH
  refine call_meets F.slot_list_append ⟨_, e, rfl⟩ F.entry_list_append (F.args_list_append_2 _ _) (PySem.list_append l its.toArray n u (by rw [List.size_toArray]; omega)) ⟨e, ?_⟩
  refine ⟨.non, _, I.lset (its' := its ++ [u]) hH e (by simp) (r.append (.cons ru .nil)) ?_, rfl, q⟩
  rw [List.length_append, List.length_singleton]
  omega

def rExtend : V → List V → Hp → VK → Prop := fun x vs H Q => ∃ l b xs zs, x = .ref l ∧ vs = [.ref b] ∧ H l = some (.lst xs) ∧ H b = some (.lst zs) ∧ xs.length + zs.length ≤ sizeLine ∧ Q .non (upd H l (.lst (xs ++ zs)))
theorem mt_extend : MtM X "list.extend" rExtend := by
  intro pins s σ H x vs v us Q I rx rv h
  obtain ⟨l, b, xs, zs, rfl, rfl, hH, hB, hz, q⟩ := h
  cases rx
  obtain ⟨u, rfl, ru⟩ := rv.one
  cases ru
  obtain ⟨z, its, n, r, hl, e⟩ := I.lstM hH
  obtain ⟨z2, its2, n2, r2, hl2, e2⟩ := I.lstM hB
  have hsz : its.toArray.size + its2.toArray.size ≤ sizeLine := by rw [List.size_toArray, List.size_toArray]; omega
  have hlong : ¬ (!its.toArray.isEmpty && Builtin.List.listTooLong (its.toArray.size + its2.toArray.size)) = true := by
    rw [notLongL hsz, Bool.and_false]
    exact Bool.false_ne_true
  refine call_meets F.slot_list_extend ⟨_, e, rfl⟩ F.entry_list_extend (F.args_list_extend_2 _ _)
    (AutoSeq1.list_extend_list_list_0 l its.toArray n b its2.toArray n2 hlong (by rw [List.size_toArray]; omega) (by omega)) ⟨e, e2, ?_⟩
  refine ⟨.non, _, I.lset (its' := its ++ its2) hH e (by simp) (r.append r2) ?_, rfl, q⟩
  rw [List.length_append]
  omega

def rPop : V → List V → Hp → VK → Prop := fun x vs H Q => ∃ l xs y, x = .ref l ∧ vs = [] ∧ H l = some (.lst xs) ∧ xs[xs.length - 1]? = some y ∧ Q y (upd H l (.lst xs.dropLast))
theorem mt_pop : MtM X "list.pop" rPop := by
  intro pins s σ H x vs v us Q I rx rv h
  obtain ⟨l, xs, y, rfl, rfl, hH, hy, q⟩ := h
  cases rx
  have hus := rv.zero
  subst hus
  obtain ⟨z, its, n, r, hl, e⟩ := I.lstM hH
  obtain ⟨u, hu, ru⟩ := r.get hy
  have hy' : its.toArray[its.toArray.size - 1]? = some u := by
    show its.toArray[its.length - 1]? = some u
    rw [← Array.getElem?_toList, ← hl]
    exact hu
  refine call_meets F.slot_list_pop ⟨_, e, rfl⟩ F.entry_list_pop (F.args_list_pop_1 _) (MeetsSeq.list_pop_last l its.toArray n u hy' (by rw [List.size_toArray]; omega)) ⟨e, ?_⟩
  refine ⟨y, _, I.lset (its' := its.dropLast) hH e ?_ r.dropLast ?_, ru, q⟩
  · show its.toArray.eraseIdxIfInBounds (its.toArray.size - 1) = its.dropLast.toArray
    rw [List.size_toArray, List.eraseIdxIfInBounds_toArray, erase_last]
  · rw [List.length_dropLast]
    omega

def rPopAt : V → List V → Hp → VK → Prop := fun x vs H Q => ∃ l xs i k y, x = .ref l ∧ vs = [.int i] ∧ H l = some (.lst xs) ∧ -(2 ^ 63) ≤ i ∧ i < 2 ^ 63 ∧ seqIndex? i xs.length = some k ∧ xs[k]? = some y ∧ Q y (upd H l (.lst (xs.eraseIdx k)))
theorem mt_popAt : MtM X "list.pop" rPopAt := by
  intro pins s σ H x vs v us Q I rx rv h
  obtain ⟨l, xs, i, k, y, rfl, rfl, hH, h1, h2, hk, hy, q⟩ := h
  cases rx
  obtain ⟨u, rfl, ru⟩ := rv.one
  obtain ⟨t, rfl⟩ := ru
  obtain ⟨z, its, n, r, hl, e⟩ := I.lstM hH
  obtain ⟨w, hw, rw'⟩ := r.get hy
  refine call_meets F.slot_list_pop ⟨_, e, rfl⟩ F.entry_list_pop (F.args_list_pop_2 _ _)
    (MeetsSeq.list_pop_at l its.toArray n i t k w (fitsIndex_both h1 h2) (by rw [List.size_toArray, ← hl]; exact hk) (by rw [← Array.getElem?_toList]; exact hw) (by rw [List.size_toArray]; omega)) ⟨e, ?_⟩
  refine ⟨y, _, I.lset (its' := its.eraseIdx k) hH e ?_ (r.eraseIdx k) ?_, rw', q⟩
  · show its.toArray.eraseIdxIfInBounds k = (its.eraseIdx k).toArray
    rw [List.eraseIdxIfInBounds_toArray]
  · have := len_erase xs k
    omega

def rReverse : V → List V → Hp → VK → Prop := fun x vs H Q => ∃ l xs, x = .ref l ∧ vs = [] ∧ H l = some (.lst xs) ∧ Q .non (upd H l (.lst xs.reverse))
theorem mt_reverse : MtM X "list.reverse" rReverse := by
  intro pins s σ H x vs v us Q I rx rv h
  obtain ⟨l, xs, rfl, rfl, hH, q⟩ := h
  cases rx
  have hus := rv.zero
  subst hus
  obtain ⟨z, its, n, r, hl, e⟩ := I.lstM hH
  refine call_meets F.slot_list_reverse ⟨_, e, rfl⟩ F.entry_list_reverse (F.args_list_reverse_1 _) (AutoSeq1.list_reverse_list_0 l its.toArray n (by rw [List.size_toArray]; omega)) ⟨e, ?_⟩
  refine ⟨.non, _, I.lset (its' := its.reverse) hH e (by simp) r.reverse ?_, rfl, q⟩
  rw [List.length_reverse]
  omega

def rClear : V → List V → Hp → VK → Prop := fun x vs H Q => ∃ l xs, x = .ref l ∧ vs = [] ∧ H l = some (.lst xs) ∧ Q .non (upd H l (.lst []))
theorem mt_clear : MtM X "list.clear" rClear := by
  intro pins s σ H x vs v us Q I rx rv h
  obtain ⟨l, xs, rfl, rfl, hH, q⟩ := h
  cases rx
  have hus := rv.zero
  subst hus
  obtain ⟨z, its, n, r, hl, e⟩ := I.lstM hH
  refine call_meets F.slot_list_clear ⟨_, e, rfl⟩ F.entry_list_clear (F.args_list_clear_1 _) (AutoSeq1.list_clear_list_0 l its.toArray n (by rw [List.size_toArray]; omega)) ⟨e, ?_⟩
  exact ⟨.non, _, I.lset (its' := []) (ys := []) hH e rfl .nil (Nat.zero_le _), rfl, q⟩

/-! ### list + list, list += list, list * int -/
def rCat : R2 := fun x y H Q => ∃ l b xs zs, x = .ref l ∧ y = .ref b ∧ H l = some (.lst xs) ∧ H b = some (.lst zs) ∧ xs.length + zs.length ≤ sizeLine ∧ ∀ p, H p = none → Q (.ref p) (upd H p (.lst (xs ++ zs)))
theorem op_cat : OpR X (binaryOp .Add) rCat := by
  intro pins s σ H x y v u Q I rx ry h
  obtain ⟨l, b, xs, zs, rfl, rfl, hH, hB, hz, q⟩ := h
  cases rx
  cases ry
  obtain ⟨z, its, n, r, hl, e⟩ := I.lstM hH
  obtain ⟨z2, its2, n2, r2, hl2, e2⟩ := I.lstM hB
  refine PySem.P.add_list e e2 ?_ (by rw [List.size_toArray, List.size_toArray]; omega)
  have ea : its.toArray ++ its2.toArray = (its ++ its2).toArray := by simp
  rw [ea]
  exact ⟨.ref _, _, I.lnew (t' := s.toks) (r.append r2) (by rw [List.length_append]; omega), rfl, q _ I.fresh⟩
/-- a list times an int (a negative one is nothing) -/
def rRep : R2 := fun x y H Q => ∃ l k xs, x = .ref l ∧ y = .int k ∧ H l = some (.lst xs) ∧ -(2 ^ 63) ≤ k ∧ k < 2 ^ 63 ∧ xs.length * k.toNat ≤ sizeLine ∧
  ∀ p, H p = none → Q (.ref p) (upd H p (.lst (List.replicate k.toNat xs).flatten))
theorem len_rep {α : Type} (xs : List α) (k : Nat) : (List.replicate k xs).flatten.length = k * xs.length := by
  induction k with
  | zero => simp
  | succ k ih => rw [List.replicate_succ, List.flatten_cons, List.length_append, ih, Nat.succ_mul, Nat.add_comm]
theorem op_rep : OpR X (binaryOp .Mult) rRep := by
  intro pins s σ H x y v u Q I rx ry h
  obtain ⟨l, k, xs, rfl, rfl, hH, h1, h2, hz, q⟩ := h
  cases rx
  obtain ⟨t, rfl⟩ := ry
  obtain ⟨z, its, n, r, hl, e⟩ := I.lstM hH
  have hlen : its.toArray.size * k.toNat ≤ sizeLine := by rw [List.size_toArray, ← hl]; exact hz
  have hcap : ¬ its.toArray.size * k.toNat > (2 ^ 63 - 1) / 8 := by
    have : (sizeLine : Nat) ≤ (2 ^ 63 - 1) / 8 := by decide
    omega
  have hfit : ¬ (!Builtin.List.listFitsIndex k) = true := by
    rw [fitsIndex_both h1 h2]
    exact Bool.false_ne_true
  have hlong : ¬ Builtin.List.listTooLong (its.toArray.size * k.toNat) = true := by
    rw [notLongL hlen]
    exact Bool.false_ne_true
  have hnew : List.foldl (fun x1 x2 => x1 ++ x2) #[] (List.replicate (if its.toArray.isEmpty = true then 0 else k.toNat) its.toArray) = (List.replicate k.toNat its).flatten.toArray := by
    have f0 : ∀ m : Nat, List.foldl (fun x1 x2 => x1 ++ x2) #[] (List.replicate m its.toArray) = (List.replicate m its).flatten.toArray := fun m => by
      have := foldl_rep its m []
      rw [List.nil_append] at this
      exact this
    rw [f0]
    cases its with
    | nil => simp
    | cons a r' => rw [if_neg (by simp)]
  refine wpAny_binaryOp_repeat_ref (T := "list") (U := "int") (by decide) ⟨_, e, rfl⟩ (fun s' => typeIs_int s' k t) noFill_list_mul F.fills_int_mul F.slot_int_rmul repeat_list F.slot_int_index.lookup
    (call_meets F.slot_int_rmul (typeIs_int s k t) F.entry_int_rmul (F.args_int_rmul_2 _ _) (int___rmul___int_list k t l its.toArray n)
      ⟨e, rfl, ⟨_, e, rfl⟩, call_meets F.slot_list_mul ⟨_, e, rfl⟩ F.entry_list_mul (F.args_list_mul_2 _ _) (AutoListH.list___mul___list_int_3 l its.toArray n k t hfit hcap hlong) ⟨e, ?_⟩⟩)
  rw [hnew]
  exact ⟨.ref _, _, I.lnew (t' := s.toks) (r.rep k.toNat) (by rw [len_rep, Nat.mul_comm]; exact hz), rfl, q _ I.fresh⟩

/-! ### del xs[i] -/
theorem del_list {pins : List (Addr × Obj)} {s : Shared} {σ : St} {H : Hp} {l : Addr} {xs : List V} {i : Int} {t : Tok} {k : Nat} {Q : Unit → Shared → Prop} (I : Inv X pins σ H s) (hH : H l = some (.lst xs))
    (h1 : -(2 ^ 63) ≤ i) (h2 : i < 2 ^ 63) (hk : seqIndex? i xs.length = some k) (h : ∀ s', Inv X pins σ (upd H l (.lst (xs.eraseIdx k))) s' → Q () s') :
    wpAny (model X.prog X.w) X.A (delItem (.ref l) (.int i t)) Q X.xe s := by
  obtain ⟨z, its, n, r, hl, e⟩ := I.lstM hH
  refine PySem.P.delItem_list (k := k) e (fitsIndex_both h1 h2) (by rw [List.size_toArray, ← hl]; exact hk) (h _ ?_) (by rw [List.size_toArray]; omega)
  refine I.lset (its' := its.eraseIdx k) (t' := s.toks) hH e ?_ (r.eraseIdx k) ?_
  · show its.toArray.eraseIdxIfInBounds k = (its.eraseIdx k).toArray
    rw [List.eraseIdxIfInBounds_toArray]
  · have := len_erase xs k
    omega
end

/-! ### xs[a:b] = ys -/
section
variable {prog : Program} {w : World} {A : Around} {E : Value → Shared → Prop} {s : Shared}
theorem splice_eq (its its2 : List Value) (a c : Nat) : its.toArray.extract 0 a ++ its2.toArray ++ its.toArray.extract c its.toArray.size = (its.take a ++ its2 ++ its.drop c).toArray := by
  apply Array.toList_inj.mp
  first
    | (simp
       exact List.take_of_length_le (by simp))
    | simp [List.take_of_length_le]
    | simp
theorem bounds_run {a c n : Nat} (hac : a ≤ c) (hc : c ≤ n) : sliceBounds (some (a : Int)) (some (c : Int)) none n = ((a : Int), (c : Int), 1) := by
  simp only [sliceBounds, Option.getD_none]
  have h1 : ¬ ((a : Int) < 0) := by omega
  have h2 : ¬ ((c : Int) < 0) := by omega
  simp only [h1, h2, if_false, show (1 : Int) > 0 by decide, if_true]
  congr 1
  · omega
  · congr 1; omega
set_option maxRecDepth 100000 in
/-- list.__setitem__ with a slice of step one and another list -/
theorem setItem_slice {l b sl : Addr} {items new : Array Value} {n n2 : Nat} {vl vu : Value} {a c : Nat} {Q : Unit → Shared → Prop}
    (e : s.heap.get? l = some { cls := .type "list", data := .seq items n }) (e2 : s.heap.get? b = some { cls := .type "list", data := .seq new n2 }) (hne : l ≠ b)
    (hs : s.heap.IsSliceOf sl vl vu .none) (pl : IsPart vl (some (a : Int))) (pu : IsPart vu (some (c : Int))) (hac : a ≤ c) (hc : c ≤ items.size)
    (hsz : items.size + new.size ≤ sizeLine) (h : Q () { s with heap := s.heap.update l (Obj.mapSeq fun xs => xs.extract 0 a ++ new ++ xs.extract c xs.size) }) :
    wpAny (model prog w) A (setItem (.ref l) (.ref sl) (.ref b)) Q E s := by
  have hl : s.heap.IsList l items := PySem.IsL.isList e
  have hb : s.heap.IsList b new := PySem.IsL.isList e2
  obtain ⟨os, hos, hcs, hds⟩ := id hs
  have hTs : s.TypeIs (.ref sl) "slice" := ⟨os, hos, hcs⟩
  have hstep : ¬ ((rawPart none == rawInt 0) = true) := Bool.false_ne_true
  have hsame : Builtin.List.listSameRef (.ref l) (.ref b) = false := by
    unfold Builtin.List.listSameRef
    exact beq_eq_false_iff_ne.mpr hne
  have hmax : (max (a : Int) (c : Int)).toNat = c := by omega
  have hz' : ((fun xs : Array Value => xs.extract 0 a ++ new ++ xs.extract c xs.size) items).size ≤ sizeLine + 1 := by
    simp only [Array.size_append, Array.size_extract]
    omega
  unfold setItem
  try with_reducible refine wpAny_holding ?_
  first | refine wpAny_bind (wpAny_pure ?_) | skip
  refine wpAny_bind (wpAny_sequenceKey hl.typeIs (by decide) ?_)
  refine wpAny_bind (wpAny_callSpecial?_slot (name := Str.ofString "__setitem__") hl.typeIs slot_list_setitem
    (wpAny_call_entry slot_list_setitem hl.typeIs entry_list_setitem ?_ (args_list_setitem _ _ _)))
  show wpAny _ _ (Builtin.List.listSubscript? (.ref sl) >>= _) _ _ s
  refine wpAny_bind ?_
  unfold Builtin.List.listSubscript?
  refine wpAny_bind (wpAny_specialOf hTs slice_no_index ?_)
  simp only [Option.isNone_none, if_true]
  refine wpAny_pure ?_
  show wpAny _ _ (typeOf (.ref sl) >>= _) _ _ s
  refine wpAny_bind (wpAny_typeOf hTs ?_)
  first
    | rw [if_neg (by decide)]
    | refine PySem.W.KFB.if_not (by decide) ?_
  rw [listSliceParts_eq]
  refine wpAny_bind (wpAny_bind (wpAny_field hos hds (x := .none) rfl (wpAny_bind (wpAny_listPart .none ?_))))
  rw [if_neg hstep]
  refine wpAny_bind (wpAny_field hos hds (x := vl) rfl (wpAny_bind (wpAny_listPart pl ?_)))
  refine wpAny_bind (wpAny_field hos hds (x := vu) rfl (wpAny_bind (wpAny_listPart pu (wpAny_pure ?_))))
  first
    | simp only [hsame, Bool.false_eq_true, if_false]
    | refine PySem.W.KFB.if_not hsame ?_
    | (dsimp only
       rw [if_neg (by rw [hsame]; exact Bool.false_ne_true)])
  refine wpAny_bind (m := Builtin.List.listAllItems (.ref b) "must assign iterable to extended slice") ?_
  unfold Builtin.List.listAllItems
  refine wpAny_bind (wpAny_typeOf hb.typeIs ?_)
  first
    | refine PySem.W.KFB.if_so (by decide) ?_
    | rw [if_pos (by decide)]
    | simp only [beq_self_eq_true, Bool.true_or, if_true]
  unfold Builtin.List.listItems
  refine wpAny_bind (wpAny_seqItems e2 rfl (wpAny_pure ?_))
  refine wpAny_bind (wpAny_bind (wpAny_seqItems e rfl (wpAny_pure ?_)))
  refine wpAny_bind (wpAny_of_eq ((sliceIndices_raw (some (a : Int)) (some (c : Int)) none items.size (by simp)).trans (congrArg (pure : Int × Int × Int → Sem (Int × Int × Int)) (bounds_run hac hc))) ?_)
  show wpAny _ _ (if ((1 : Int) == 1) = true then _ else _) _ _ s
  rw [if_pos (by decide)]
  refine wpAny_bind (wpAny_rule ?_)
  first
    | simp only [notLongL hsz, Bool.false_eq_true, if_false]
    | refine PySem.W.KFB.if_not (notLongL hsz) ?_
  first | refine wpAny_bind (wpAny_pure ?_) | skip
  show wpAny _ _ (updateSeq l (fun xs => xs.extract 0 ((a : Int)).toNat ++ new ++ xs.extract (max (a : Int) (c : Int)).toNat xs.size) >>= _) _ _ s
  rw [hmax, Int.toNat_natCast]
  refine wpAny_bind (wpAny_updateSeq (hz := Nat.le_trans (Nat.le_add_right _ _) hsz) (_hz' := hz') e rfl ?_)
  refine wpAny_bind (wpAny_letGo ?_)
  first
    | exact wpAny_bind (wpAny_pure (wpAny_pure ⟨.none, rfl, wpAny_pure h⟩))
    | exact wpAny_pure ⟨.none, rfl, wpAny_pure h⟩
end

section
variable {X : Cx}
/-- xs[a:c] = ys of another list, at the value level: sl is the slice object that was just made -/
theorem set_slice {pins : List (Addr × Obj)} {s : Shared} {σ : St} {H : Hp} {l b sl : Addr} {xs ys : List V} {a c : Int} {vl vu : Value} {Q : Unit → Shared → Prop} (I : Inv X pins σ H s)
    (hH : H l = some (.lst xs)) (hB : H b = some (.lst ys)) (hne : l ≠ b) (hs : s.heap.IsSliceOf sl vl vu .none) (ra : RelV (.int a) vl) (rc : RelV (.int c) vu) (h0 : 0 ≤ a) (hac : a ≤ c) (hc : c ≤ xs.length)
    (hz : xs.length + ys.length ≤ sizeLine) (h : ∀ s', Inv X pins σ (upd H l (.lst (xs.take a.toNat ++ ys ++ xs.drop c.toNat))) s' → Q () s') :
    wpAny (model X.prog X.w) X.A (setItem (.ref l) (.ref sl) (.ref b)) Q X.xe s := by
  obtain ⟨ta, rfl⟩ := ra
  obtain ⟨tc, rfl⟩ := rc
  obtain ⟨z, its, n, r, hl, e⟩ := I.lstM hH
  obtain ⟨z2, its2, n2, r2, hl2, e2⟩ := I.lstM hB
  obtain ⟨a', rfl⟩ := Int.eq_ofNat_of_zero_le h0
  obtain ⟨c', rfl⟩ := Int.eq_ofNat_of_zero_le (Int.le_trans h0 hac)
  simp only [Int.toNat_natCast] at h
  refine setItem_slice (a := a') (c := c') e e2 hne hs (.int _ _) (.int _ _) (by omega) (by rw [List.size_toArray]; omega) (by rw [List.size_toArray, List.size_toArray]; omega) (h _ ?_)
  refine I.lset (its' := its.take a' ++ its2 ++ its.drop c') (t' := s.toks) hH e ?_ (Vals.append (Vals.append (r.take _) r2) (r.drop _)) ?_
  · exact splice_eq its its2 a' c'
  · rw [List.length_append, List.length_append, List.length_take, List.length_drop]
    omega
end
end L2

namespace Att
open PySem PySem.W PySem.Calls PyProof.Rows

/-! ### the script -/
theorem ints_of_wellAll {P : Params} {h : Heap} : ∀ (ns : List Int) (vs : List Value), WellAll P h vs (ns.map WData.int) → IntsAre vs ns := by
  intro ns
  induction ns with
  | nil =>
    intro vs w
    rw [List.map_nil] at w
    cases w
    exact .nil
  | cons n ns ih =>
    intro vs w
    rw [List.map_cons] at w
    cases w with
    | cons a b =>
      cases a
      exact .cons _ _ (ih _ b)

theorem script_of {l : OpenLaw} {n : Nat} (hn : l.most = some n) {P : Params} {h : Heap} {args : List WData} {vals : List Value}
    (hpre : l.row.toRowW.claim.pre args = true) (hwl : WellAll P h vals args) :
    ∃ a vs ns, vals = [Value.ref a] ∧ args = [WData.list (ns.map WData.int)] ∧ h.get? a = some { cls := .type "list", data := .seq vs.toArray } ∧ IntsAre vs ns ∧ ns.length ≤ n := by
  have hsh : WShape.hasAll [] args [.list .int] = true := (pre_splitW hpre).1
  have hc : l.pre.holds [] { args := args } = true := (pre_splitW hpre).2
  obtain ⟨d, r, rfl, h1, h2⟩ := hasAllW_cons hsh
  obtain rfl := hasAllW_nil h2
  obtain ⟨xs, rfl, h3⟩ := hasW_list h1
  obtain ⟨ns, rfl⟩ := items_int h3
  have hlen : ns.length ≤ n := by
    unfold OpenLaw.pre at hc
    have h4 : (WTm.not (.lt (.lit (.int (n : Int))) (.len (.arg 0)))).holds [] { args := [.list (ns.map .int)] } = true := by
      have h4 := (holds_andW hc).1
      rw [hn] at h4
      exact h4
    have h5 := condW_of h4 (w_not (w_lt w_lit (w_len_list (w_arg rfl))))
    rw [List.length_map] at h5
    refine Nat.le_of_not_lt fun q => ?_
    have q' : (n : Int) < ((ns.length : Nat) : Int) := by omega
    first
      | (rw [decide_eq_true q'] at h5; exact absurd h5 (by decide))
      | (simp at h5; omega)
  cases hwl with
  | cons w1 w2 =>
    cases w2
    cases w1 with
    | list ho hall => exact ⟨_, _, ns, rfl, rfl, ho, ints_of_wellAll ns _ hall, hlen⟩

theorem post_true (l : OpenLaw) (args : List WData) : l.row.toRowW.claim.post args (.bool true) args = true :=
  postW_of (r := l.row.toRowW) (X := (true == true))
    (show WShape.has [] (.bool true) .bool = true by first | rfl | decide | simp [WShape.has, WShape.arms, WShape.armsAll])
    (show (WTm.eq .res (.lit (.bool true))).value [] { args := args, res := some (.bool true), after := args } = some (.bool (true == true)) from w_eq_bool (w_res rfl) w_lit) rfl

/-! ### the attachment: holds_open's last premise (the goal 'hc' behind k_head) from a wpAny of the law's body -/
theorem attach {l : OpenLaw} {n : Nat} {q : Program} {loose : List Str} {XP : (Str → Option Value) → Heap → Prop} {YP : World → Heap → Prop} {d : DefRec} {x : Str}
    (hn : l.most = some n) (hdf : d.params.defaults = [])
    (hbind : ∀ pm cd doc v : Value, bindArgs (docDef d.name d.params d.body d.scope pm cd doc) ⟨[v], []⟩ = pure [(x, v)])
    (hx : d.scope.names.lookup x = some .local ∨ d.scope.names.lookup x = some .cell)
    (hk : d.scope.kind = .function) (hco : d.scope.isCoroutine = false) (hgen : d.scope.isGenerator = false)
    (body : ∀ (w : World) (s₀ s₁ s : Shared) (mg mb : Str → Option Value) (fa : Addr) (o : Obj) (pm cd doc : Value) (a : Addr) (vs : List Value) (ns : List Int),
      Ground q loose [] XP w s₀ mg mb s₁.heap → YP w s₁.heap →
      s₁.heap.get? fa = some o → o.data = .func (docDef d.name d.params d.body d.scope pm cd doc) → s₁.heap.CodeRec cd d.name → mg d.name = some (.ref fa) →
      s₁.heap.get? a = some { cls := .type "list", data := .seq vs.toArray } → IntsAre vs ns → ns.length ≤ n →
      s.gens = #[] → s.os = s₁.os →
      Fr s₁.heap s₁.heap.objs.size s.heap (bindL (envOfC d.name d.scope s₁.heap.objs.size fa cd).kindOf [(x, .ref a)] fun _ => none) →
      Cl s₁.heap.objs.size (cellsFrom (s₁.heap.objs.size + 1) d.scope.names []) s.heap (bindC (envOfC d.name d.scope s₁.heap.objs.size fa cd).kindOf [(x, .ref a)] fun _ => none) →
      wpAny (model l.prog w) (callerA.deeper (envOfC d.name d.scope s₁.heap.objs.size fa cd)) (execs d.body (envOfC d.name d.scope s₁.heap.objs.size fa cd))
        (fun f s' => f = .ret (.bool true) ∧ OldK s₁.heap s'.heap ∧ s'.os = s₁.os ∧ AllBare s'.gens) (fun _ _ => False) s) :
    WalkO q loose XP YP l.row.toRowW d [] (fun f vs => PySem.call f vs) := by
  intro w s₀ s₁ mg mb G Y fa o pm cd doc dV kV ho hd hcd hD hmg hg args vals as hpre hlay hrd hwl hlo
  obtain rfl : dV = .none := Dflts.none hD hdf
  obtain rfl : kV = .none := Dflts.noKw hD
  obtain ⟨a, vs, ns, rfl, rfl, hobj, hints, hlen⟩ := script_of hn hpre hwl
  refine enter_call ?_
  refine call_cells_ret (o := o) (by rw [depth_caller]; decide) ho (fd_plain hd) G.T.nolimit hcd (hbind pm cd doc (.ref a)) (fun y hy => ?_) (fun h₁ tk F X => ?_) hco hgen hk
  · obtain rfl : y = (x, Value.ref a) := List.mem_singleton.mp hy
    rcases hx with e | e
    · exact .inl e
    · exact .inr ⟨e, cellsFrom_some _ _ _ (.inl e)⟩
  · refine wpAny_mono (body w s₀ s₁ { s₁ with heap := h₁, toks := tk } mg mb fa o pm cd doc a vs ns G Y ho (fd_plain hd) hcd hmg hobj hints hlen hg rfl F X) (fun f s' hq => ?_) (fun _ _ hq => hq)
    obtain ⟨rfl, h2, h3, h4⟩ := hq
    exact ⟨.inl ⟨.bool true, .bool true, [], rfl, fun _ => rfl, .bool true, post_true l _, fun _ => ⟨List.Pairwise.nil, fun _ hm => (nomatch hm)⟩⟩, h2, h3, h4⟩

/-- the same from a codeAny of the CALL (for a layer whose function contracts speak of calls) -/
theorem attach_call {l : OpenLaw} {n : Nat} {q : Program} {loose : List Str} {XP : (Str → Option Value) → Heap → Prop} {YP : World → Heap → Prop} {d : DefRec}
    (hn : l.most = some n) (hdf : d.params.defaults = [])
    (call : ∀ (w : World) (s₀ s₁ : Shared) (mg mb : Str → Option Value) (fa : Addr) (o : Obj) (pm cd doc : Value) (a : Addr) (vs : List Value) (ns : List Int),
      Ground q loose [] XP w s₀ mg mb s₁.heap → YP w s₁.heap →
      s₁.heap.get? fa = some o → o.data = .func (docDef d.name d.params d.body d.scope pm cd doc) → s₁.heap.CodeRec cd d.name → mg d.name = some (.ref fa) →
      s₁.heap.get? a = some { cls := .type "list", data := .seq vs.toArray } → IntsAre vs ns → ns.length ≤ n → s₁.gens = #[] →
      codeAny (model l.prog w) callerA (.call (.ref fa) ⟨[.ref a], []⟩) (fun r s' => r = .ok (.ret (.bool true)) ∧ OldK s₁.heap s'.heap ∧ s'.os = s₁.os ∧ AllBare s'.gens) s₁) :
    WalkO q loose XP YP l.row.toRowW d [] (fun f vs => PySem.call f vs) := by
  intro w s₀ s₁ mg mb G Y fa o pm cd doc dV kV ho hd hcd hD hmg hg args vals as hpre hlay hrd hwl hlo
  obtain rfl : dV = .none := Dflts.none hD hdf
  obtain rfl : kV = .none := Dflts.noKw hD
  obtain ⟨a, vs, ns, rfl, rfl, hobj, hints, hlen⟩ := script_of hn hpre hwl
  refine enter_call (codeAny_mono (call w s₀ s₁ mg mb fa o pm cd doc a vs ns G Y ho (fd_plain hd) hcd hmg hobj hints hlen hg) fun r s' hq => ?_)
  obtain ⟨rfl, h2, h3, h4⟩ := hq
  exact ⟨.inl ⟨.bool true, .bool true, [], rfl, fun _ => rfl, .bool true, post_true l _, fun _ => ⟨List.Pairwise.nil, fun _ hm => (nomatch hm)⟩⟩, h2, h3, h4⟩

/-- the same where the top left finished generators (o_head chose holds_openN): nothing may have changed at all and no generator may be left -/
theorem attachN {l : OpenLaw} {n : Nat} {q : Program} {loose : List Str} {XP : (Str → Option Value) → Heap → Prop} {YP : World → Heap → Prop} {d : DefRec} {x : Str}
    (hn : l.most = some n) (hdf : d.params.defaults = [])
    (hbind : ∀ pm cd doc v : Value, bindArgs (docDef d.name d.params d.body d.scope pm cd doc) ⟨[v], []⟩ = pure [(x, v)])
    (hx : d.scope.names.lookup x = some .local ∨ d.scope.names.lookup x = some .cell)
    (hk : d.scope.kind = .function) (hco : d.scope.isCoroutine = false) (hgen : d.scope.isGenerator = false)
    (body : ∀ (w : World) (s₀ s₁ s : Shared) (mg mb : Str → Option Value) (fa : Addr) (o : Obj) (pm cd doc : Value) (a : Addr) (vs : List Value) (ns : List Int),
      Ground q loose [] XP w s₀ mg mb s₁.heap → YP w s₁.heap →
      s₁.heap.get? fa = some o → o.data = .func (docDef d.name d.params d.body d.scope pm cd doc) → s₁.heap.CodeRec cd d.name → mg d.name = some (.ref fa) →
      s₁.heap.get? a = some { cls := .type "list", data := .seq vs.toArray } → IntsAre vs ns → ns.length ≤ n →
      s.gens = #[] → s.os = s₁.os →
      Fr s₁.heap s₁.heap.objs.size s.heap (bindL (envOfC d.name d.scope s₁.heap.objs.size fa cd).kindOf [(x, .ref a)] fun _ => none) →
      Cl s₁.heap.objs.size (cellsFrom (s₁.heap.objs.size + 1) d.scope.names []) s.heap (bindC (envOfC d.name d.scope s₁.heap.objs.size fa cd).kindOf [(x, .ref a)] fun _ => none) →
      wpAny (model l.prog w) (callerA.deeper (envOfC d.name d.scope s₁.heap.objs.size fa cd)) (execs d.body (envOfC d.name d.scope s₁.heap.objs.size fa cd))
        (fun f s' => f = .ret (.bool true) ∧ (∀ b o, s₁.heap.get? b = some o → s'.heap.get? b = some o) ∧ s'.os = s₁.os ∧ s'.gens = #[]) (fun _ _ => False) s) :
    WalkN q loose XP YP l.row.toRowW d [] (fun f vs => PySem.call f vs) := by
  intro w s₀ s₁ mg mb G Y fa o pm cd doc dV kV ho hd hcd hD hmg hg args vals as hpre hlay hrd hwl hlo
  obtain rfl : dV = .none := Dflts.none hD hdf
  obtain rfl : kV = .none := Dflts.noKw hD
  obtain ⟨a, vs, ns, rfl, rfl, hobj, hints, hlen⟩ := script_of hn hpre hwl
  refine enter_callW ?_
  refine call_cells_ret (o := o) (by rw [depth_caller]; decide) ho (fd_plain hd) G.T.nolimit hcd (hbind pm cd doc (.ref a)) (fun y hy => ?_) (fun h₁ tk F X => ?_) hco hgen hk
  · obtain rfl : y = (x, Value.ref a) := List.mem_singleton.mp hy
    rcases hx with e | e
    · exact .inl e
    · exact .inr ⟨e, cellsFrom_some _ _ _ (.inl e)⟩
  · refine wpAny_mono (body w s₀ s₁ { s₁ with heap := h₁, toks := tk } mg mb fa o pm cd doc a vs ns G Y ho (fd_plain hd) hcd hmg hobj hints hlen hg rfl F X) (fun f s' hq => ?_) (fun _ _ hq => hq)
    obtain ⟨rfl, h2, h3, h4⟩ := hq
    exact ⟨.inl ⟨.bool true, .bool true, [], rfl, fun _ => rfl, .bool true, post_true l _, fun _ => ⟨List.Pairwise.nil, fun _ hm => (nomatch hm)⟩⟩, h2, h3, h4⟩

/-! ### rules over ANY heap (no ledger) from facts about the written part K: the library's own take a ledger (News) for what they write -/
section
variable {prog : Program} {w : World} {A : Around} {E : Value → Shared → Prop} {s : Shared} {K : Frag}

/-- a def of the module, or a method (qual 'C.m'), entered: the frame is the next address; cells behind it -/
theorem call_fn {R : Result → Shared → Prop} {name qual : Str} {params : Arguments} {body : List Stmt} {scope : Scope} {dV kV doc pm cdv ct oc : Value} {an od : Option Addr} {osl : Array (Option Value)} {f : Addr} {args : Args} {binds : List (Str × Value)}
    (X : K.In s.heap) (hlim : s.heap.NoLimit) (ho : K.lookup f = some ⟨oc, od, .func (fnOf name qual params body scope dV kV doc pm an cdv ct), osl⟩) (hcd : codeIn K cdv qual = true) (hroom : A.depth < recursionLimit)
    (hbind : BindsTo s (fnOf name qual params body scope dV kV doc pm an cdv ct) args binds)
    (hkind : (binds.all fun y => scope.names.lookup y.1 == some .local || scope.names.lookup y.1 == some .cell) = true)
    (h : ∀ s₁, InCallC s s.heap.objs.size (bindL (envOfC qual scope s.heap.objs.size f cdv).kindOf binds fun _ => none) (cellsFrom (s.heap.objs.size + 1) scope.names [])
        (bindC (envOfC qual scope s.heap.objs.size f cdv).kindOf binds fun _ => none) s₁ →
      wpAny (model prog w) (A.deeper (envOfC qual scope s.heap.objs.size f cdv)) (execs body (envOfC qual scope s.heap.objs.size f cdv))
        (fun fl s' => R (.ok (.ret (match fl with | .ret v => v | _ => .none))) s')
        (fun e s' => wpAny (model prog w) (A.deeper (envOfC qual scope s.heap.objs.size f cdv)) (leaving (envOfC qual scope s.heap.objs.size f cdv) e) (fun _ s'' => R (.error e) s'') (fun e' s'' => R (.error e') s'') s') s₁)
    (hco : scope.isCoroutine = false) (hgen : scope.isGenerator = false) (hk : scope.kind = .function) : codeAny (model prog w) A (.call (.ref f) args) R s := by
  refine codeAny_call_function hroom (X _ _ ho) rfl hco hgen rfl (codeRec_of X hcd) (hbind _ _ _ _ ?_)
  refine wpAny_newFunctionEnv_cells hk (kindsX hkind _) fun env he s₁ x => ?_
  subst he
  exact ⟨hlim.keeps x.toInCall.keep, codeAny_func (h s₁ x)⟩

/-- C(..): dict at size, instance at size + 1, then __init__ -/
theorem make_obj {R : Result → Shared → Prop} {C fI : Addr} {rest : List Value} {kw : List (Str × Value)}
    (X : K.In s.heap) (hm : makesIn K C = true) (hi : findIn K (.ref C) "__init__" = some (some (.ref fI))) (hf : isFn K (.ref fI) = true)
    (h : codeAny (model prog w) (A.under (.builtin "type.__call__" ⟨.ref C :: rest, kw⟩)) (.call (.ref fI) ⟨.ref (s.heap.objs.size + 1) :: rest, kw⟩) (InitBack (s.heap.objs.size + 1) R)
      { s with heap := (s.heap.push emptyDict).push (instObj C s.heap.objs.size) }) : codeAny (model prog w) A (.call (.ref C) ⟨rest, kw⟩) R s := by
  obtain ⟨hh, g, d, t, os⟩ := s
  exact make_core (makes_of X hm) (looks_findIn X hi) (fun self => bind_fn X self (beq_iff_eq.mp hf)) (.inl rfl) h

/-- x.name where the instance's dict holds the name and the class does not -/
theorem get_field {x C : Addr} {ox : Obj} {es : List DictEntry} {n : Nat} {name : Str} {expr : Bool} {v : Value} {Q : Value → Shared → Prop}
    (X : K.In s.heap) (I : PySem.W.InstAt s.heap x ox C (some (dictOf es n))) (hg : plainGet K C name = true) (hh : hasDictIn K C = true) (ha : findIn K (.ref C) name = some none)
    (hl : getL name es = some (some v)) (hv : handedIn v = true) (h : Q v { s with toks := s.toks + 1 }) : wpAny (model prog w) A (getAttr (.ref x) name expr) Q E s :=
  get_value X I (plainGet_of hg).1 (findObj_own hh ha rfl hl) hv h

/-- x.m(..): the method found in the class -/
theorem get_method {x C f : Addr} {ox : Obj} {es : List DictEntry} {n : Nat} {name : Str} {pl : Sem Bool} {Q : Value × List Value → Shared → Prop}
    (X : K.In s.heap) (I : PySem.W.InstAt s.heap x ox C (some (dictOf es n))) (hg : plainGet K C name = true) (hf : findIn K (.ref C) name = some (some (.ref f))) (ht : isFn K (.ref f) = true)
    (hl : getL name es = some none) (h : Q (.ref f, [.ref x]) s) : wpAny (model prog w) A (getMethod (.ref x) name pl) Q E s :=
  method_fn X I (plainGet_of hg).1 (plainGet_of hg).2 hf (beq_iff_eq.mp ht) (by show (lookIn name (dictOf es n)).map _ = _; rw [lookIn_dict, hl]; rfl) h

/-! the whole heap as the ledger: makes every rule that writes through a ledger a rule over any heap -/
def noObjs (h : Heap) : Heap := { h with objs := #[] }
theorem noObjs_get (h : Heap) (b : Addr) : (noObjs h).get? b = none := by
  cases e : (noObjs h).get? b with
  | none => rfl
  | some o => exact absurd (Heap.lt_size e) (Nat.not_lt_zero _)
def ledger (h : Heap) (L d : Addr) : List (Addr × Obj) := (List.range h.objs.size).filterMap fun a => if a = L ∨ a = d then none else (h.get? a).map fun o => (a, o)
theorem mem_ledger {h : Heap} {L d a : Addr} {o : Obj} : (a, o) ∈ ledger h L d ↔ a ≠ L ∧ a ≠ d ∧ h.get? a = some o := by
  unfold ledger
  rw [List.mem_filterMap]
  constructor
  · rintro ⟨b, _, e⟩
    split at e
    · cases e
    · rename_i hb
      obtain ⟨o', ho, e'⟩ := Option.map_eq_some_iff.mp e
      cases e'
      exact ⟨fun q => hb (.inl q), fun q => hb (.inr q), ho⟩
  · rintro ⟨n1, n2, ho⟩
    refine ⟨a, List.mem_range.mpr (Heap.lt_size ho), ?_⟩
    rw [if_neg (show ¬ (a = L ∨ a = d) from fun q => q.elim n1 n2), ho] <;> rfl
theorem news_ledger {h : Heap} {L d : Addr} {od : Obj} (hne : d ≠ L) (ho : h.get? d = some od) : News (noObjs h) L h ([] ++ (d, od) :: ledger h L d) := by
  rintro ⟨a, o⟩ hp
  rcases List.mem_cons.mp hp with e | hp
  · cases e
    exact ⟨ho, hne, noObjs_get _ _⟩
  · obtain ⟨n1, n2, e⟩ := mem_ledger.mp hp
    exact ⟨e, n1, noObjs_get _ _⟩
theorem fr_all {h : Heap} {L : Addr} {m : Str → Option Value} (n : h.Ns L m) : Fr (noObjs h) L h m :=
  ⟨n, fun b o e => (by rw [noObjs_get] at e; cases e), Nat.zero_le _⟩
/-- Upd of the head entry (for append_K, setItem_K ..) -/
theorem upd_ledger {h : Heap} {L d : Addr} {o o' : Obj} : Upd d o o' ((d, o) :: ledger h L d) ((d, o') :: ledger h L d) :=
  .head fun ⟨_, _⟩ hp => (mem_ledger.mp hp).2.1

/-- x.name = v over any heap: L is any namespace of the heap (the frame's, say): its map stays, its object is not told; all else but the dict stays -/
theorem set_field {x C dx L : Addr} {ox : Obj} {m : Str → Option Value} {es es' : List DictEntry} {n n' : Nat} {name : Str} {v : Value} {Q : Unit → Shared → Prop}
    (X : K.In s.heap) (I : PySem.W.InstAt s.heap x ox C (some (dictOf es n))) (hd : ox.dict = some dx) (hL : s.heap.Ns L m) (hne : dx ≠ L)
    (hs : findIn K (.ref C) "__setattr__" = some (some (.builtin "object.__setattr__"))) (hp : plainOver K C = true) (ht : takerIn K C name = some none) (hh : hasDictIn K C = true) (hl : (getL name es).isSome = true)
    (e : (putL name (PyData.keyHash w.params name) (.str name (s.toks + 1)) v es, putN name es n) = (es', n')) (hz : es'.length ≤ 1000)
    (h : ∀ h' : Heap, h'.Ns L m → h'.get? dx = some (dictOf es' n') → (∀ b o, b ≠ dx → b ≠ L → s.heap.get? b = some o → h'.get? b = some o) → Q () { s with heap := h', toks := s.toks + 2 }) :
    wpAny (model prog w) A (setAttr (.ref x) name v) Q E s := by
  obtain ⟨e1, e2⟩ := Prod.mk.inj e
  have hdx : s.heap.get? dx = some (dictOf es n) := by
    have := I.dict
    rw [hd] at this
    exact this
  refine set_plain X I hs (osa_dict (s := { s with toks := s.toks + 1 }) (h₀ := noObjs s.heap) (L := L) (m := m) (od := dictOf es n) (od' := dictOf es' n') (es := es') (n := n') (pre := []) (post := ledger s.heap L dx)
    (fr_all hL) (news_ledger hne hdx) X I hd hp ht hh hl (fun _ q => nomatch q) (fun ⟨_, _⟩ q => (mem_ledger.mp q).2.1) (by rw [putName_dict, e1, e2]) rfl hz fun h' F' N' => ?_)
  exact h h' F'.ns (N'.get (List.Mem.head _)) fun b o n1 n2 ho => N'.get (List.Mem.tail _ (mem_ledger.mpr ⟨n2, n1, ho⟩))
end
end Att

namespace L2
open PySem PySem.Spec PyProof.Rows

theorem vals_ints : ∀ {vs : List Value} {ns : List Int}, IntsAre vs ns → Vals (ns.map V.int) vs
  | _, _, .nil => .nil
  | _, _, .cons n t h => .cons ⟨t, rfl⟩ (vals_ints h)

/-- nothing is tracked but the script, known to the object (or it is an object of the module) -/
def Only (H : Hp) : Prop := ∀ b, H b = none ∨ ∃ o xs, H b = some (.frz o (.lst xs))

/-- THE HEAD: the law's promise, at the heap behind the top. F, the promise of the law's def, may use that base is part of the heap (so K.In base, base.Ns mainGlobals mg stand in Mod) -/
theorem law_call {P : Program} {w : World} {K : PySem.W.Frag} {mg mb : Str → Option Value} {CX : CXT} {k : Nat} {fa a : Addr} {fd : FuncData} {x : Str} {sp : Sp} {s₁ : Shared} {vs : List Value} {ns : List Int}
    (KX : K.In s₁.heap) (hns : s₁.heap.Ns mainGlobals mg) (hb : s₁.heap.Ns builtinsNs mb) (hbb : ∀ x : Str, x ≠ "__name__" → mb x = bootBuiltins x) (hlim : s₁.heap.NoLimit) (hg : s₁.gens = #[])
    (ha : s₁.heap.get? a = some { cls := .type "list", data := .seq vs.toArray }) (hi : IntsAre vs ns) (hl : ns.length ≤ sizeLine) (hr : Room k callerA)
    (F : ∀ base : Heap, K.In base → base.Ns mainGlobals mg → FnOk P w K mg base CX k fa fd [x] sp) (hbind : ∀ (s : Shared) (u : Value), BindsTo s fd ⟨[u], []⟩ [(x, u)])
    (hsp : ∀ H : Hp, Only H → SqL K H a (ns.map V.int) → sp [.ref a] H (fun v _ => v = .bl true) fun _ _ _ => False)
    (hCX : ∀ H e s', CX [] H s₁ (fun _ _ _ => False) e s' → False) :
    codeAny (model P w) callerA (.call (.ref fa) ⟨[.ref a], []⟩) (fun r s' => r = .ok (.ret (.bool true)) ∧ OldK s₁.heap s'.heap ∧ s'.os = s₁.os ∧ AllBare s'.gens) s₁ := by
  have rv := vals_ints hi
  have lenV := hi.length
  -- from an abstract heap in which nothing but the script may be tracked
  have core : ∀ H : Hp, Only H → SqL K H a (ns.map V.int) → HOk P w H s₁.heap → (∀ b, H b ≠ none → b = a) → (H a ≠ none → K.lookup a = none) →
      codeAny (model P w) callerA (.call (.ref fa) ⟨[.ref a], []⟩) (fun r s' => r = .ok (.ret (.bool true)) ∧ OldK s₁.heap s'.heap ∧ s'.os = s₁.os ∧ AllBare s'.gens) s₁ := by
    intro H hO hS hok hA hK
    have base_of : ∀ {b : Addr} {o : Obj}, s₁.heap.get? b = some o → H b = none → (hidT s₁.heap H).get? b = some o := fun e n => hidT_get e n
    have noA : ∀ {b : Addr} {o : Obj} {es : Array DictEntry} {ep : Nat}, s₁.heap.get? b = some o → o.data = .dict es ep → H b = none := fun {b o es ep} e d => by
      cases q : H b with
      | none => rfl
      | some u =>
        have e' : b = a := hA b (by rw [q]; simp)
        subst e'
        rw [ha] at e; cases e
        have d' : Data.seq vs.toArray _ = Data.dict es ep := d
        cases d'
    have nsK : ∀ {b : Addr} {m : Str → Option Value}, s₁.heap.Ns b m → (hidT s₁.heap H).Ns b m := fun {b m} ⟨o, es, ep, e, d, r⟩ => ⟨o, es, ep, base_of e (noA e d), d, r⟩
    have hKb : K.In (hidT s₁.heap H) := fun b o e => base_of (KX b o e) (by
      cases q : H b with
      | none => rfl
      | some u =>
        have e' : b = a := hA b (by rw [q]; simp)
        subst e'
        rw [hK (by rw [q]; simp)] at e; cases e)
    have hM : Mod K mg (hidT s₁.heap H) := ⟨hKb, nsK hns, ⟨mb, nsK hb, hbb⟩, let ⟨mc, h1, h2⟩ := hlim; ⟨mc, nsK h1, h2⟩⟩
    have e0 : Env0 P w K mg (hidT s₁.heap H) callerA [] s₁ H := ⟨rfl, hM, fun b o e => of_hidT e, Nat.le_of_eq (hidT_size _ _), trivial, fun b hb => absurd (show b ∈ ([] : List Addr) from hb) (by simp), hok, .of_eq hg⟩
    refine codeAny_mono ((F _ hKb (nsK hns)).run callerA [] s₁ H ⟨[.ref a], []⟩ [.ref a] [.ref a] _ _ hr e0 (hbind s₁ (.ref a)) (.cons rfl .nil) (hsp H hO hS)) fun r s' h => ?_
    cases r with
    | error e => exact (hCX H e s' h).elim
    | ok fl =>
      cases fl with
      | next => exact False.elim h
      | brk => exact False.elim h
      | cont => exact False.elim h
      | ret u =>
        obtain ⟨v, H', os, bare, un, hok', r', q⟩ := h
        have q' : v = .bl true := q
        subst q'
        obtain rfl : u = Value.bool true := r'
        refine ⟨rfl, OldK.of_keep fun b o e => ?_, os, bare⟩
        cases q : H b with
        | none => exact un.keep b o e q (by intro z; exact absurd (show b ∈ ([] : List Addr) from z) (by simp)) (by simp)
        | some u =>
          rcases hO b with z | ⟨ob, xs, z⟩
          · rw [q] at z; cases z
          · have z2 := un.frzs b ob _ z
            obtain ⟨e1, _⟩ := hok b _ z
            obtain ⟨e2, _⟩ := hok' b _ z2
            rw [e] at e1; cases e1
            exact e2
  cases hk : K.lookup a with
  | some o =>
    -- the script is one of the module's own objects
    have e := KX a o hk
    rw [ha] at e
    cases e
    refine core (fun _ => none) (fun _ => .inl rfl) (.inr ⟨_, vs.toArray, _, hk, rfl, rfl, rfl, by rw [List.size_toArray, lenV]; exact hl, by simpa using rv⟩) (fun b u z => by have z' : (none : Option HO) = some u := z; cases z') (fun b z => absurd rfl z) fun z => absurd rfl z
  | none =>
    refine core (fun b => if b = a then some (.frz { cls := .type "list", data := .seq vs.toArray } (.lst (ns.map V.int))) else none) (fun b => ?_) (.inl (.inr ⟨{ cls := .type "list", data := .seq vs.toArray }, if_pos rfl⟩)) (fun b u z => ?_) (fun b z => ?_) fun _ => hk
    · by_cases hb : b = a
      · exact .inr ⟨_, _, if_pos hb⟩
      · exact .inl (if_neg hb)
    · by_cases hb : b = a
      · have z' := (if_pos hb).symm.trans z
        cases z'
        subst hb
        exact ⟨ha, by rw [List.length_map]; exact hl, vs, _, rv, ha⟩
      · have z' := (if_neg hb).symm.trans z
        cases z'
    · by_cases hb : b = a
      · exact hb
      · exact absurd (if_neg hb) z
end L2

namespace L2
open PySem PySem.Spec PyProof.Rows

abbrev KOf {K : PySem.W.Frag} {h : Heap} (_ : K.In h) : PySem.W.Frag := K

/-- the goal that k_head leaves (case hc), from the law's promise. F gives the function object fd (K's own) once, then the promise over every base -/
theorem walk_of {l : PySem.W.OpenLaw} {n k : Nat} {q : Program} {loose : List Str} {XP : (Str → Option Value) → Heap → Prop} {YP : World → Heap → Prop} {d : DefRec} {K : Params → PySem.W.Frag} {CX : World → CXT} {sp : World → Sp} {x : Str}
    (hn : l.most = some n) (hn2 : n ≤ sizeLine) (hdf : d.params.defaults = []) (hr : Room k callerA)
    (hY : ∀ (w : World) (h : Heap), YP w h → (K w.params).In h)
    (F : ∀ (w : World) (mg : Str → Option Value) (fa : Addr) (h : Heap), (K w.params).In h → h.Ns mainGlobals mg → mg d.name = some (.ref fa) →
      ∃ fd : FuncData, (∀ (s : Shared) (u : Value), BindsTo s fd ⟨[u], []⟩ [(x, u)]) ∧
        ∀ base : Heap, (K w.params).In base → base.Ns mainGlobals mg → FnOk l.prog w (K w.params) mg base (CX w) k fa fd [x] (sp w))
    (hsp : ∀ (w : World) (H : Hp) (a : Addr) (ns : List Int), ns.length ≤ n → Only H → SqL (K w.params) H a (ns.map V.int) → sp w [.ref a] H (fun v _ => v = .bl true) fun _ _ _ => False)
    (hCX : ∀ (w : World) (H : Hp) (s : Shared) (e : Value) (s' : Shared), CX w [] H s (fun _ _ _ => False) e s' → False) :
    PySem.W.WalkO q loose XP YP l.row.toRowW d [] (fun f vs => PySem.call f vs) := by
  refine Att.attach_call hn hdf fun w s₀ s₁ mg mb fa o pm cd doc a vs ns G Y ho hd hcd hmg hobj hints hlen hg => ?_
  have KX := hY w _ Y
  obtain ⟨fd, hb, hF⟩ := F w mg fa _ KX G.T.g hmg
  exact law_call KX G.T.g G.T.b G.T.builtins G.T.nolimit hg hobj hints (Nat.le_trans hlen hn2) hr hF hb (fun H hO hS => hsp w H a ns hlen hO hS) fun H e s' => hCX w H s₁ e s'
/-- the same where the promise hangs on the written part alone: (sp := My.sp_law), no hole under a binder -/
theorem walk_ofK {l : PySem.W.OpenLaw} {n k : Nat} {q : Program} {loose : List Str} {XP : (Str → Option Value) → Heap → Prop} {YP : World → Heap → Prop} {d : DefRec} {K : Params → PySem.W.Frag} {CX : CXT} {sp : PySem.W.Frag → Sp} {x : Str}
    (hn : l.most = some n) (hn2 : n ≤ sizeLine) (hdf : d.params.defaults = []) (hr : Room k callerA)
    (hY : ∀ (w : World) (h : Heap), YP w h → (K w.params).In h)
    (F : ∀ (w : World) (mg : Str → Option Value) (fa : Addr) (h : Heap), (K w.params).In h → h.Ns mainGlobals mg → mg d.name = some (.ref fa) →
      ∃ fd : FuncData, (∀ (s : Shared) (u : Value), BindsTo s fd ⟨[u], []⟩ [(x, u)]) ∧
        ∀ base : Heap, (K w.params).In base → base.Ns mainGlobals mg → FnOk l.prog w (K w.params) mg base CX k fa fd [x] (sp (K w.params)))
    (hsp : ∀ (K : PySem.W.Frag) (H : Hp) (a : Addr) (ns : List Int), ns.length ≤ n → Only H → SqL K H a (ns.map V.int) → sp K [.ref a] H (fun v _ => v = .bl true) fun _ _ _ => False)
    (hCX : ∀ (H : Hp) (s : Shared) (e : Value) (s' : Shared), CX [] H s (fun _ _ _ => False) e s' → False) :
    PySem.W.WalkO q loose XP YP l.row.toRowW d [] (fun f vs => PySem.call f vs) :=
  walk_of (K := K) (CX := fun _ => CX) (sp := fun w => sp (K w.params)) hn hn2 hdf hr hY F (fun w H a ns h1 h2 h3 => hsp (K w.params) H a ns h1 h2 h3) fun _ H s e s' => hCX H s e s'
end L2

/- THE LAST THEOREM (shape; LID, My.* are yours):
   My.Adr: a structure of the addresses that your layer names (classes, functions); My.Txt K t: a structure (Prop) of the equations over K;
   My.txt_mk : {K} {implicit addresses ..} (e1 : nsIn K mainGlobals "law" = some (some (.ref f))) (e2 : K.lookup f = some ⟨oc, od, .func (fnOf "law" "law" params body scope dV kV doc pm an cdv ct), sl⟩) (e3 : codeIn K cdv "law" = true) .. : ∃ t, My.Txt K t

set_option maxRecDepth 100000 in
set_option maxHeartbeats 0 in
theorem PySem.Challenge.cw_LID_holds : PySem.Challenge.rw_LID.Holds := by
  w_on; o_law; k_head; (case hw => w_witness2)
  k_fill
  refine L2.walk_of (l := PySem.Challenge.rw_LID) (n := 63) (k := 40) (x := "script") (CX := fun w => ..) (sp := fun _ => My.sp_law) rfl (by decide) rfl ⟨rfl, by decide, by decide⟩ (fun w h Y => PySem.W.kIn_of Y) ?F ?S ?C
  case F =>
    intro w mg fa h KX G hmg
    have T : ∃ t, My.Txt (L2.KOf KX) t := by
      dsimp only [L2.KOf]                          -- K must stand as «<heap const> w.params» for k_is
      refine' My.txt_mk ?e1 ?e2 ?e3 ..
      (case e1 => PySem.W.k_is)                    -- in the order: a name -> its address -> its object -> its parts
      (case e2 => PySem.W.k_is)
      ..
    obtain ⟨t, T⟩ := T
    have e0 := hmg.symm.trans (PySem.W.mg_of KX G T.law)
    cases e0                                       -- fa is the law's own address
    exact ⟨_, fun s u => .of_eq rfl, fun base kb nb => My.law_fn T kb nb⟩     -- if «.of_eq rfl» comes too early: refine' ⟨_, ?b, fun base kb nb => My.law_fn T kb nb⟩; exact fun s u => .of_eq rfl
  case S => exact fun w H a ns hl hO hS => ..
  case C => exact ..
(the tactic k_is has no namespace: write k_is) -/

/-! SHORT WORDS over the layer: a def of the text, its body, what a loop and a test want. -/
namespace L2
open PySem PySem.Spec PyProof.Rows

/-! ### the text by places -/
/-- the j-th statement of a class's body -/
def inClass (s : Stmt) (j : Nat) : Stmt := match s with
  | .ClassDef _ _ _ body _ _ _ _ _ _ _ => body.getD j (.Pass ⟨0, 0, 0, 0⟩)
  | _ => .Pass ⟨0, 0, 0, 0⟩
def defArgs (s : Stmt) : Arguments := match s with
  | .FunctionDef _ a _ _ _ _ _ _ _ _ => a
  | _ => { posonlyargs := [], args := [], vararg := none, kwonlyargs := [], kw_defaults := [], kwarg := none, defaults := [] }
def defBody (s : Stmt) : List Stmt := match s with
  | .FunctionDef _ _ b _ _ _ _ _ _ _ => b
  | _ => []
def defScope (s : Stmt) : Scope := match s with
  | .FunctionDef _ _ _ _ _ _ sc _ _ _ => sc
  | _ => { kind := .function, names := [], isGenerator := false, isCoroutine := false }

/-! ### no exception leaves a def -/
abbrev CX0 : CXT := fun _ _ _ _ _ _ => False
abbrev E0 : XK := fun _ _ _ => False
theorem pass0 {X : Cx} : Passes CX0 X E0 := fun _ _ _ _ _ _ _ h => h.elim

/-! ### a def (or method) of the text as it stands behind the top -/
structure Fun (K : PySem.W.Frag) (x qual : Str) (st : Stmt) (f : Addr) (fd : FuncData) : Prop where
  ex : ∃ (oc : Value) (od : Option Addr) (kV doc pm : Value) (an : Option Addr) (cdv ct : Value) (osl : Array (Option Value)),
    fd = PySem.W.fnOf x qual (defArgs st) (defBody st) (defScope st) .none kV doc pm an cdv ct ∧ K.lookup f = some ⟨oc, od, .func fd, osl⟩ ∧ PySem.W.codeIn K cdv qual = true
  kp : PySem.W.keepIn K (.ref f) = true
section
variable {P : Program} {w : World} {K : PySem.W.Frag} {mg : Str → Option Value} {base : Heap}
/-- THE RULE for a def: its body as a term of rules, and the reading of that term -/
theorem Fun.ok {x qual : Str} {st : Stmt} {f : Addr} {fd : FuncData} {N ps : List Str} {k : Nat} {sp : Sp} (F : Fun K x qual st f fd) (S : FnScope N ps (defScope st)) (len : ∀ vs H Q E, sp vs H Q E → vs.length = ps.length)
    (hbody : ∀ (cdv : Value) (A : Around) (outer : List Env) (s : Shared) (H : Hp) (vs : List V) (Q : VK) (E : XK), Room k (A.deeper (envOfC qual (defScope st) s.heap.objs.size f cdv)) → sp vs H Q E →
      ∃ t, PSs (cxOf CX0 P w K mg base N qual (defScope st) f cdv A outer s H E).nox (defBody st) t ∧ t { nx := fun _ H' => Q .non H', rt := Q } (start N vs) H) : FnOk P w K mg base CX0 (k + 1) f fd ps sp := by
  obtain ⟨oc, od, kV, doc, pm, an, cdv, ct, osl, rfl, lk, hcd⟩ := F.ex
  refine fn_of lk hcd S len fun A outer s H vs Q E hr hsp => ?_
  obtain ⟨t, h, q⟩ := hbody cdv A outer s H vs Q E hr hsp
  exact ⟨t, h.nox, q⟩
/-- how its arguments bind (no defaults): h is «fun _ _ _ _ _ _ us hl => match us, hl with | [_, _], _ => rfl», one _ a parameter -/
theorem Fun.binds {x qual : Str} {st : Stmt} {f : Addr} {fd : FuncData} {ps : List Str} (F : Fun K x qual st f fd)
    (h : ∀ (kV doc pm : Value) (an : Option Addr) (cdv ct : Value) (us : List Value), us.length = ps.length → bindArgs (PySem.W.fnOf x qual (defArgs st) (defBody st) (defScope st) .none kV doc pm an cdv ct) ⟨us, []⟩ = pure (ps.zip us)) : Binds K fd ps [] := by
  obtain ⟨oc, od, kV, doc, pm, an, cdv, ct, osl, rfl, lk, hcd⟩ := F.ex
  exact .all (h kV doc pm an cdv ct)
theorem fun_mk {x qual : Str} {st : Stmt} {f : Addr} {oc : Value} {od an : Option Addr} {osl : Array (Option Value)} {kV doc pm cdv ct : Value} (l : K.lookup f = some ⟨oc, od, .func (PySem.W.fnOf x qual (defArgs st) (defBody st) (defScope st) .none kV doc pm an cdv ct), osl⟩)
    (c : PySem.W.codeIn K cdv qual = true) (k : PySem.W.keepIn K (.ref f) = true) : Fun K x qual st f (PySem.W.fnOf x qual (defArgs st) (defBody st) (defScope st) .none kV doc pm an cdv ct) := ⟨⟨oc, od, kV, doc, pm, an, cdv, ct, osl, rfl, l, c⟩, k⟩
end
theorem hu_of {A : Around} {k : Nat} (hr : Room k A) : A.units + 1 < cLine := Nat.lt_of_le_of_lt (Nat.add_le_add_left (by decide : 1 ≤ 64) _) hr.units
theorem small1000 {n : Nat} (h : n ≤ 1000) : n < sizeLine := Nat.lt_of_le_of_lt h (by decide)

/-! ### expressions in short: the name that stands in the i-th slot -/
section
variable {X : Cx}
theorem pv (i : Nat) {x : Str} {pos : Pos} (hN : X.N[i]? = some x := by rfl) (hv : Vis X.env.scope x := by first | exact Or.inl rfl | exact Or.inr (Or.inl rfl) | exact Or.inr (Or.inr rfl)) (hd : (x == ("__debug__" : Str)) = false := by decide)
    (hcd : (x == ("__classdict__" : Str)) = false := by decide) : PE X (.Name x pos) (tVar i) := pe_var hN hv hd hcd
end

/-! ### tests -/
theorem iteF {A B : Prop} (h : B) : if false = true then A else B := by
  rw [if_neg Bool.false_ne_true]
  exact h
theorem iteT {A B : Prop} (h : A) : if true = true then A else B := by
  rw [if_pos rfl]
  exact h
theorem ite2 {c A B : Prop} [Decidable c] (h1 : c → A) (h2 : ¬ c → B) : if c then A else B := by
  by_cases h : c
  · rw [if_pos h]
    exact h1 h
  · rw [if_neg h]
    exact h2 h
theorem iteNS {c A B : Prop} [Decidable c] (hc : c) (h : B) : if (!decide c) = true then A else B := by
  rw [decide_eq_true hc]
  exact iteF h

/-! ### heaps -/
/-- all that was tracked is as it was -/
def Same (H H' : Hp) : Prop := ∀ b o, H b = some o → H' b = some o
theorem Same.refl (H : Hp) : Same H H := fun _ _ h => h
theorem Same.trans {H H1 H2 : Hp} (a : Same H H1) (b : Same H1 H2) : Same H H2 := fun c o h => b c o (a c o h)
theorem Same.free {H H' : Hp} (e : Same H H') {l : Addr} (h : H' l = Option.none) : H l = Option.none := by
  cases q : H l with
  | none => rfl
  | some o =>
    rw [e l o q] at h
    cases h
theorem Same.seq {K : PySem.W.Frag} {H H' : Hp} {a : Addr} {xs : List V} (e : Same H H') (h : SqL K H a xs) : SqL K H' a xs := by
  rcases h with (h | ⟨o, h⟩) | h
  · exact .inl (.inl (e _ _ h))
  · exact .inl (.inr ⟨o, e _ _ h⟩)
  · exact .inr h

end L2

namespace L2
open PySem PySem.Spec PyProof.Rows
section
variable {X : Cx}
/-! ### one iterator just laid -/
theorem pi_one {tg : Expr} {pins : List (Addr × Obj)} {σ : St} {H : Hp} {s : Shared} {R : It → Hp → Prop} {J : It} {tn : Nat → Heap → Prop} {tk : Nat} (I : Inv X pins σ H s) (o : Obj)
    (T : Turn X.prog X.w X.K tg J [s.heap.objs.size] s.heap.objs.size tn) (st : tn 0 (s.heap.push o)) (q : R J H) : PIE X pins σ tg R (.ref s.heap.objs.size) { s with heap := s.heap.push o, toks := tk } := by
  refine ⟨s.heap.objs.size, [s.heap.objs.size], tn, J, H, rfl, I.kept fun b ob e => Heap.get?_push_of_some _ e, T, st, fun b hb => ?_, q⟩
  have e : b = s.heap.objs.size := by simpa using hb
  subst e
  exact I.fpOk (Nat.le_refl _) (I.hok.fresh (Nat.le_refl _))
end

/-! ### range with a step -/
/-- lo, lo + c, .. (n of them) -/
def Itc (lo c : Int) (n : Nat) : It := ⟨fun i _ => i < n, fun i H x H' => H' = H ∧ x = .int (lo + (i : Nat) * c), fun i _ => n ≤ i⟩
theorem turn_rangeC {P : Program} {w : World} {K : PySem.W.Frag} {tg : Expr} (it : Addr) (lo c : Int) (n : Nat) : Turn P w K tg (Itc lo c n) [it] it (fun i h => IsRangeIter h it (lo + (i : Nat) * c) ((n : Int) - (i : Nat)) c) where
  mem := by simp
  obj := fun i h st b hb => by
    have e : b = it := by simpa using hb
    subst e
    exact ⟨_, st, fun v z => nomatch z⟩
  keep := fun i h h' st k => k it (by simp) _ st
  item := by
    intro X hP hw hK hc i pins s σ H E I hf st hg
    subst hP hw hK
    obtain ⟨f0, f1, f2, f3, f4, f5⟩ := hf it (by simp)
    have W := Walks.range (prog := X.prog) (w := X.w) (I.ok.hd hc) it lo c n
    refine W.item i s _ _ hg st fun v h' tk hv st' kk => ?_
    obtain ⟨t, rfl⟩ := hv
    have I1 : Inv X pins σ H { s with heap := h', toks := tk } := I.turned (fun b o hb e => kk b o (by simpa using hb) e) f0 f1 f3 f4 f5
    exact ⟨_, rfl, go_of (s := { s with heap := h', toks := tk }) (n := "range_iterator") st' rfl rfl (by decide) ⟨.int (lo + (i : Nat) * c), H, I1, ⟨t, rfl⟩, ⟨rfl, rfl⟩, st', fun b hb => (hf b hb).1⟩⟩
  done := by
    intro X hP hw hK hc i pins s σ H E I hf st hg
    subst hP hw hK
    obtain ⟨f0, f1, f2, f3, f4, f5⟩ := hf it (by simp)
    exact wpAny_pyNext_range_end (I.ok.hd hc) st (by have : n ≤ i := hg; omega) fun h' eb => ⟨rfl, I.turned (t' := s.toks) (fun b o hb e => eb b o hb e) f0 f1 f3 f4 f5⟩
  self := fun A i s Q E st h => wpAny_pyIter_rangeiter st h
/-- range(i, j, c): small bounds, n items -/
def RgC (i j c : Int) (n : Nat) : Prop := c ≠ 0 ∧ c.natAbs < 1073741824 ∧ Builtin.Range.small i j c = true ∧ Builtin.Range.rangeSize i j c = n
def iRng3 (ta : TA) : TI := fun σ H R => ta σ H fun vs H1 => ∃ (i j c : Int) (n : Nat), vs = [.int i, .int j, .int c] ∧ RgC i j c n ∧ R (Itc i c n) H1
section
variable {X : Cx} {tg : Expr}
theorem pi_range3 {a b c : Expr} {ta : TA} {p pos : Pos} (hg : Gl X "range") (hm : X.mg "range" = none) (ha : PA X [a, b, c] ta)
    (hs : starEach [a, b, c] X.env = (false, eval a X.env) :: starEach [b, c] X.env := by rfl) (hpl : (backTo pos (starEach [b, c] X.env)).any (·.1) = false := by rfl) :
    PI X tg (.Call (.Name "range" p) [a, b, c] [] pos) (iRng3 ta) := by
  intro pins s σ H R I h
  refine Call_ (ld_blt I hg hm boot_range (PyProof.Rows.callWith_type1 (thn (ha pos pins s σ H _ I h) fun us s1 ⟨vs, H1, I1, r1, q1⟩ => ?_) hs hpl))
  obtain ⟨i, j, k, n, e, ⟨c0, c1, c2, c3⟩, q⟩ := q1
  subst e
  cases r1 with
  | cons r rr =>
    cases rr with
    | cons r' rr =>
      cases rr with
      | cons r'' rr =>
        cases rr
        obtain ⟨t, rfl⟩ := r
        obtain ⟨t', rfl⟩ := r'
        obtain ⟨t'', rfl⟩ := r''
        refine call_range_3 c0 ?_ (.inl (PyProof.noPylong_small c1))
        refine wpAny_pyIter_range (IsRange.new ..) c2 ?_
        have I2 : Inv X pins σ H1 { s1 with heap := s1.heap.push { cls := .type "range", data := .fields #[.int i t, .int j t', .int k t''] } } := I1.kept (t' := s1.toks) fun b o e => Heap.get?_push_of_some _ e
        refine pi_one (tk := s1.toks) I2 _ (turn_rangeC _ i k n) ?_ q
        have e1 : i + ((0 : Nat) : Int) * k = i := by simp
        have e2 : (n : Int) - ((0 : Nat) : Int) = Builtin.Range.rangeSize i j k := by rw [c3]; simp
        show IsRangeIter _ _ (i + ((0 : Nat) : Int) * k) ((n : Int) - ((0 : Nat) : Int)) k
        rw [e1, e2]
        exact Heap.get?_push_size _ rfl
end
/-- the turns of a step range, for the for loop -/
theorem for_rangeC {lo c : Int} {n : Nat} {g : TG} {tb : TS} {D : Ends} {σ : St} {H : Hp} (Pv : Nat → St → Hp → Prop) (h0 : Pv 0 σ H)
    (hs : ∀ i σ H, i < n → Pv i σ H → g (.int (lo + (i : Nat) * c)) σ H fun σ2 H2 => tb { D with nx := Pv (i + 1), ct := Pv (i + 1), bk := D.nx } σ2 H2) (hd : ∀ σ H, Pv n σ H → D.nx σ H) :
    ∃ W : Nat → Nat → St → Hp → Prop, (∃ m, W 0 m σ H) ∧ ∀ i m σ H, W i m σ H →
      ((Itc lo c n).stop i H ∧ D.nx σ H) ∨ ((Itc lo c n).go i H ∧ ∃ N : St → Hp → Prop, (∀ σ' H', N σ' H' → ∃ m', m' < m ∧ W (i + 1) m' σ' H') ∧ ∀ x H', (Itc lo c n).yld i H x H' → g x σ H' fun σ2 H2 => tb { D with nx := N, ct := N, bk := D.nx } σ2 H2) := by
  refine ⟨fun i m σ H => m = n - i ∧ i ≤ n ∧ Pv i σ H, ⟨n, by simp, Nat.zero_le _, h0⟩, ?_⟩
  rintro i m σ H ⟨rfl, hi, p⟩
  by_cases hlt : i < n
  · refine .inr ⟨hlt, Pv (i + 1), fun σ' H' p' => ⟨n - (i + 1), by omega, rfl, hlt, p'⟩, fun x H' y => ?_⟩
    obtain ⟨e, y⟩ := y
    subst e y
    exact hs i σ _ hlt p
  · have e : i = n := by omega
    subst e
    exact .inl ⟨Nat.le_refl _, hd σ H p⟩

end L2

namespace L2
open PySem PySem.Spec PyProof.Rows
/-! ### the head of a row against a Lean function: a list of whole numbers in, a list of whole numbers out -/
theorem readsAll_ints {R : PySem.W.WRecords} {cl : Str → Option Addr} {h : Heap} : ∀ {ys : List Int} {its : List Value}, Vals (ys.map V.int) its → PySem.W.ReadsAllW R cl h its (ys.map PySem.W.WData.int) []
  | [], _, r => by
    rw [List.map_nil] at r ⊢
    cases r
    exact .nil
  | y :: ys, _, r => by
    rw [List.map_cons] at r ⊢
    cases r with
    | cons r1 r2 =>
      obtain ⟨t, rfl⟩ := r1
      exact .cons (as := []) (bs := []) (.int y t) (readsAll_ints r2)
/-- how the answer lies: a list of these whole numbers; what was there stands -/
def SpecEnd (cl : Str → Option Addr) (ys : List Int) (s₁ : Shared) (r : Result) (s' : Shared) : Prop :=
  (∃ l, r = .ok (.ret (.ref l)) ∧ PySem.W.ReadsW [] cl s'.heap (.ref l) (.list (ys.map PySem.W.WData.int)) [l]) ∧ OldK s₁.heap s'.heap ∧ s'.os = s₁.os ∧ AllBare s'.gens
theorem spec_call {P : Program} {w : World} {K : PySem.W.Frag} {mg mb : Str → Option Value} {k : Nat} {fa a : Addr} {fd : FuncData} {x : Str} {sp : Sp} {s₁ : Shared} {vs : List Value} {ns ys : List Int} {cl : Str → Option Addr}
    (KX : K.In s₁.heap) (hns : s₁.heap.Ns mainGlobals mg) (hb : s₁.heap.Ns builtinsNs mb) (hbb : ∀ x : Str, x ≠ "__name__" → mb x = bootBuiltins x) (hlim : s₁.heap.NoLimit) (hg : s₁.gens = #[])
    (ha : s₁.heap.get? a = some { cls := .type "list", data := .seq vs.toArray }) (hi : IntsAre vs ns) (hl : ns.length ≤ sizeLine) (hr : Room k callerA)
    (F : ∀ base : Heap, K.In base → base.Ns mainGlobals mg → FnOk P w K mg base CX0 k fa fd [x] sp) (hbind : ∀ (s : Shared) (u : Value), BindsTo s fd ⟨[u], []⟩ [(x, u)])
    (hsp : ∀ H : Hp, Only H → SqL K H a (ns.map V.int) → sp [.ref a] H (fun v H' => ∃ l, v = .ref l ∧ H' l = some (.lst (ys.map V.int))) fun _ _ _ => False) :
    codeAny (model P w) callerA (.call (.ref fa) ⟨[.ref a], []⟩) (SpecEnd cl ys s₁) s₁ := by
  have rv := vals_ints hi
  have lenV := hi.length
  -- from an abstract heap in which nothing but the script may be tracked
  have core : ∀ H : Hp, Only H → SqL K H a (ns.map V.int) → HOk P w H s₁.heap → (∀ b, H b ≠ none → b = a) → (H a ≠ none → K.lookup a = none) →
      codeAny (model P w) callerA (.call (.ref fa) ⟨[.ref a], []⟩) (SpecEnd cl ys s₁) s₁ := by
    intro H hO hS hok hA hK
    have base_of : ∀ {b : Addr} {o : Obj}, s₁.heap.get? b = some o → H b = none → (hidT s₁.heap H).get? b = some o := fun e n => hidT_get e n
    have noA : ∀ {b : Addr} {o : Obj} {es : Array DictEntry} {ep : Nat}, s₁.heap.get? b = some o → o.data = .dict es ep → H b = none := fun {b o es ep} e d => by
      cases q : H b with
      | none => rfl
      | some u =>
        have e' : b = a := hA b (by rw [q]; simp)
        subst e'
        rw [ha] at e; cases e
        have d' : Data.seq vs.toArray _ = Data.dict es ep := d
        cases d'
    have nsK : ∀ {b : Addr} {m : Str → Option Value}, s₁.heap.Ns b m → (hidT s₁.heap H).Ns b m := fun {b m} ⟨o, es, ep, e, d, r⟩ => ⟨o, es, ep, base_of e (noA e d), d, r⟩
    have hKb : K.In (hidT s₁.heap H) := fun b o e => base_of (KX b o e) (by
      cases q : H b with
      | none => rfl
      | some u =>
        have e' : b = a := hA b (by rw [q]; simp)
        subst e'
        rw [hK (by rw [q]; simp)] at e; cases e)
    have hM : Mod K mg (hidT s₁.heap H) := ⟨hKb, nsK hns, ⟨mb, nsK hb, hbb⟩, let ⟨mc, h1, h2⟩ := hlim; ⟨mc, nsK h1, h2⟩⟩
    have e0 : Env0 P w K mg (hidT s₁.heap H) callerA [] s₁ H := ⟨rfl, hM, fun b o e => of_hidT e, Nat.le_of_eq (hidT_size _ _), trivial, fun b hb => absurd (show b ∈ ([] : List Addr) from hb) (by simp), hok, .of_eq hg⟩
    refine codeAny_mono ((F _ hKb (nsK hns)).run callerA [] s₁ H ⟨[.ref a], []⟩ [.ref a] [.ref a] _ _ hr e0 (hbind s₁ (.ref a)) (.cons rfl .nil) (hsp H hO hS)) fun r s' h => ?_
    cases r with
    | error e => exact False.elim h
    | ok fl =>
      cases fl with
      | next => exact False.elim h
      | brk => exact False.elim h
      | cont => exact False.elim h
      | ret u =>
        obtain ⟨v, H', os, bare, un, hok', r', q⟩ := h
        obtain ⟨l, q1, q2⟩ := q
        subst q1
        obtain rfl : u = Value.ref l := r'
        obtain ⟨_, its, n, rvl, el⟩ := hok' l _ q2
        refine ⟨⟨l, rfl, .list (as := []) el rfl rfl (readsAll_ints rvl)⟩, OldK.of_keep fun b o e => ?_, os, bare⟩
        cases q : H b with
        | none => exact un.keep b o e q (by intro z; exact absurd (show b ∈ ([] : List Addr) from z) (by simp)) (by simp)
        | some u =>
          rcases hO b with z | ⟨ob, xs, z⟩
          · rw [q] at z; cases z
          · have z2 := un.frzs b ob _ z
            obtain ⟨e1, _⟩ := hok b _ z
            obtain ⟨e2, _⟩ := hok' b _ z2
            rw [e] at e1; cases e1
            exact e2
  cases hk : K.lookup a with
  | some o =>
    -- the script is one of the module's own objects
    have e := KX a o hk
    rw [ha] at e
    cases e
    refine core (fun _ => none) (fun _ => .inl rfl) (.inr ⟨_, vs.toArray, _, hk, rfl, rfl, rfl, by rw [List.size_toArray, lenV]; exact hl, by simpa using rv⟩) (fun b u z => by have z' : (none : Option HO) = some u := z; cases z') (fun b z => absurd rfl z) fun z => absurd rfl z
  | none =>
    refine core (fun b => if b = a then some (.frz { cls := .type "list", data := .seq vs.toArray } (.lst (ns.map V.int))) else none) (fun b => ?_) (.inl (.inr ⟨{ cls := .type "list", data := .seq vs.toArray }, if_pos rfl⟩)) (fun b u z => ?_) (fun b z => ?_) fun _ => hk
    · by_cases hb : b = a
      · exact .inr ⟨_, _, if_pos hb⟩
      · exact .inl (if_neg hb)
    · by_cases hb : b = a
      · have z' := (if_pos hb).symm.trans z
        cases z'
        subst hb
        exact ⟨ha, by rw [List.length_map]; exact hl, vs, _, rv, ha⟩
      · have z' := (if_neg hb).symm.trans z
        cases z'
    · by_cases hb : b = a
      · exact hb
      · exact absurd (if_neg hb) z
end L2
namespace L2
open PySem PySem.W PySem.Calls PyProof.Rows
/-- what k_headS leaves (case hc), from the def's promise -/
theorem walk_spec {P : Program} {nm : Str} {least most l2 m2 : Nat} {lo hi lo2 hi2 : Int} {asked : List Int → Bool} {f : List Int → List Int} {k : Nat} {q : Program} {loose : List Str} {XP : (Str → Option Value) → Heap → Prop} {YP : World → Heap → Prop} {d : DefRec} {K : Params → PySem.W.Frag} {sp : PySem.W.Frag → Sp} {x : Str}
    (hn2 : most ≤ sizeLine) (hdf : d.params.defaults = []) (hr : Room k callerA)
    (hY : ∀ (w : World) (h : Heap), YP w h → (K w.params).In h)
    (F : ∀ (w : World) (mg : Str → Option Value) (fa : Addr) (h : Heap), (K w.params).In h → h.Ns mainGlobals mg → mg d.name = some (.ref fa) →
      ∃ fd : FuncData, (∀ (s : Shared) (u : Value), BindsTo s fd ⟨[u], []⟩ [(x, u)]) ∧
        ∀ base : Heap, (K w.params).In base → base.Ns mainGlobals mg → FnOk P w (K w.params) mg base CX0 k fa fd [x] (sp (K w.params)))
    (hsp : ∀ (K : PySem.W.Frag) (H : Hp) (a : Addr) (ns : List Int), asked ns = true → Only H → SqL K H a (ns.map V.int) → sp K [.ref a] H (fun v H' => ∃ l, v = .ref l ∧ H' l = some (.lst ((f ns).map V.int))) fun _ _ _ => False) :
    PySem.W.WalkOS q loose XP YP (OpenSpec.mk P nm [.list least most (.int lo hi)] (.list l2 m2 (.int lo2 hi2)) asked f) d [] (fun f vs => PySem.call f vs) := by
  intro w s₀ s₁ mg mb G Y fa o pm cd doc dV kV ho hd hcd hD hmg hg args vals as hpre hlay hrd hwl hlo
  obtain rfl : dV = .none := Dflts.none hD hdf
  obtain rfl : kV = .none := Dflts.noKw hD
  have hsh : WShape.hasAll [] args [.list .int] = true := os_shapes args hpre
  obtain ⟨d', r', rfl, h1, h2⟩ := hasAllW_cons hsh
  obtain rfl := hasAllW_nil h2
  obtain ⟨xs, rfl, h3⟩ := hasW_list h1
  obtain ⟨ns, rfl⟩ := items_int h3
  have eof : ofPy (PyData.list (ns.map PyData.int)) = .list (ns.map WData.int) := by
    rw [← ofPys_ints]
    rfl
  rw [← eof] at hpre
  obtain ⟨osDec, osLeast, osMost, osItems⟩ := os_dec_ints (least := least) (most := most) (lo := lo) (hi := hi) (ns := ns) (os_pre_isSome hpre)
  have osAsked : asked ns = true := os_pre_asked hpre osDec
  cases hwl with
  | cons w1 w2 =>
    cases w2
    cases w1 with
    | list hobj hall =>
      have KX := hY w _ Y
      obtain ⟨fd, hb, hF⟩ := F w mg fa _ KX G.T.g hmg
      refine enter_call (codeAny_mono (spec_call (cl := classAt s₀.heap) (ys := f ns) KX G.T.g G.T.b G.T.builtins G.T.nolimit hg hobj (Att.ints_of_wellAll ns _ hall) (Nat.le_trans osMost hn2) hr hF hb (fun H hO hS => hsp (K w.params) H _ ns osAsked hO hS)) fun r s' hq => ?_)
      obtain ⟨⟨l, rfl, hrd'⟩, g2, g3, g4⟩ := hq
      refine ⟨.inl ⟨.ref l, _, _, rfl, osNone, hrd', ?_, fun h => absurd h Bool.false_ne_true⟩, g2, g3, g4⟩
      refine osPost ?_
      rw [← eof]
      exact os_post osDec (same_self _)
end L2

set_option maxHeartbeats 4000000
namespace M
open Sn73

/-! ### the lock's ways, as the program goes them -/
def left (k : Lock) : Nat :=
  if k.phase = 0 then k.busy else if k.phase = 1 then k.lower else if k.phase = 2 then k.make.high - k.level else if k.phase = 3 then k.make.gate - k.upper
  else if k.phase = 4 then k.busy else if k.phase = 5 then k.upper else if k.phase = 6 then k.level else k.make.gate - k.lower
def goOn (k : Lock) (d : Nat) : Lock :=
  if k.phase = 0 then { k with busy := k.busy - d } else if k.phase = 1 then { k with lower := k.lower - d } else if k.phase = 2 then { k with level := k.level + d } else if k.phase = 3 then { k with upper := k.upper + d }
  else if k.phase = 4 then { k with busy := k.busy - d } else if k.phase = 5 then { k with upper := k.upper - d } else if k.phase = 6 then { k with level := k.level - d } else { k with lower := k.lower + d }
/-- the phase behind this one -/
def turn (k : Lock) : Lock :=
  if k.phase = 3 then { k with phase := 4, out := k.inside.length } else if k.phase = 7 then { k with phase := 0, out := k.inside.length } else { k with phase := k.phase + 1 }
def endMove (k : Lock) : Lock × List Event := match k.moving with
  | some (s, true) => ({ k with moving := none, inside := k.inside ++ [s] }, [⟨2 * (if k.phase = 0 then 0 else 1), s.id⟩])
  | some (s, false) => ({ k with moving := none }, [⟨if k.phase = 0 then 3 else 1, s.id⟩])
  | none => (k, [])
def arrive (k : Lock) : Lock × List Event := if k.phase = 0 ∨ k.phase = 4 then endMove k else (turn k, [])
def shipOf (c : Coming) : Ship := ⟨c.id, c.len⟩
def los (cs : List Coming) : List Ship := (cs.filter fun c => !(c.side == 1)).map shipOf
def his (cs : List Coming) : List Ship := (cs.filter fun c => c.side == 1).map shipOf
def addAll (k : Lock) (cs : List Coming) : Lock := { k with below := k.below ++ los cs, above := k.above ++ his cs }
theorem addAll_nil (k : Lock) : addAll k [] = k := by simp [addAll, los, his]
theorem addAll_append (k : Lock) (a b : List Coming) : addAll (addAll k a) b = addAll k (a ++ b) := by
  simp [addAll, los, his, List.filter_append, List.append_assoc]
theorem addAll_one (k : Lock) (c : Coming) : addAll k [c] = k.comes (shipOf c) (c.side == 1) := by
  unfold addAll Lock.comes los his
  by_cases h : (c.side == 1) = true
  · simp [h, List.filter_cons]
  · simp [h, List.filter_cons]
theorem foldl_comes (cs : List Coming) : ∀ k : Lock, (cs.map fun c => ((⟨c.id, c.len⟩ : Ship), c.side == 1)).foldl (fun (x : Lock) s => x.comes s.1 s.2) k = addAll k cs := by
  induction cs with
  | nil => intro k; simp [addAll_nil]
  | cons c r ih =>
    intro k
    rw [List.map_cons, List.foldl_cons, ih]
    show addAll (k.comes (shipOf c) (c.side == 1)) r = _
    rw [← addAll_one, addAll_append]
    rfl
/-! ### states that come -/
structure Good (k : Lock) : Prop where
  high : 1 ≤ k.make.high
  gate : 1 ≤ k.make.gate
  move : 1 ≤ k.make.move
  mv : k.moving = none ↔ k.busy = 0
  out : k.out ≤ k.inside.length
  ph : (k.phase = 0 ∧ k.lower = k.make.gate ∧ k.upper = 0 ∧ k.level = 0) ∨ (k.phase = 1 ∧ 1 ≤ k.lower ∧ k.lower ≤ k.make.gate ∧ k.upper = 0 ∧ k.level = 0 ∧ k.busy = 0)
    ∨ (k.phase = 2 ∧ k.lower = 0 ∧ k.upper = 0 ∧ k.level < k.make.high ∧ k.busy = 0) ∨ (k.phase = 3 ∧ k.lower = 0 ∧ k.upper < k.make.gate ∧ k.level = k.make.high ∧ k.busy = 0)
    ∨ (k.phase = 4 ∧ k.lower = 0 ∧ k.upper = k.make.gate ∧ k.level = k.make.high) ∨ (k.phase = 5 ∧ k.lower = 0 ∧ 1 ≤ k.upper ∧ k.upper ≤ k.make.gate ∧ k.level = k.make.high ∧ k.busy = 0)
    ∨ (k.phase = 6 ∧ k.lower = 0 ∧ k.upper = 0 ∧ 1 ≤ k.level ∧ k.level ≤ k.make.high ∧ k.busy = 0) ∨ (k.phase = 7 ∧ k.lower < k.make.gate ∧ k.upper = 0 ∧ k.level = 0 ∧ k.busy = 0)
theorem Good.phase {k : Lock} (g : Good k) : k.phase ≤ 7 := by have := g.ph; omega
theorem Good.left0 {k : Lock} (g : Good k) (h : left k = 0) : (k.phase = 0 ∨ k.phase = 4) ∧ k.busy = 0 := by
  have g6 := g.ph
  have g7 : k.phase = 0 ∨ k.phase = 1 ∨ k.phase = 2 ∨ k.phase = 3 ∨ k.phase = 4 ∨ k.phase = 5 ∨ k.phase = 6 ∨ k.phase = 7 := by omega
  unfold left at h
  rcases g7 with e | e | e | e | e | e | e | e <;> (simp [e] at h; omega)
theorem good_begin {m : Make} (h1 : 1 ≤ m.high) (h2 : 1 ≤ m.gate) (h3 : 1 ≤ m.move) : Good { make := m, lower := m.gate } :=
  ⟨h1, h2, h3, by simp, by simp, .inl ⟨rfl, rfl, rfl, rfl⟩⟩
theorem Good.add {k : Lock} (g : Good k) (cs : List Coming) : Good (addAll k cs) := ⟨g.high, g.gate, g.move, g.mv, g.out, g.ph⟩
theorem left_add (k : Lock) (cs : List Coming) : left (addAll k cs) = left k := rfl
theorem goOn_add (k : Lock) (cs : List Coming) (d : Nat) : goOn (addAll k cs) d = addAll (goOn k d) cs := by
  obtain ⟨mk, ph, lv, lo, up, ins, out, mv, bz, be, ab⟩ := k
  unfold goOn addAll
  dsimp only
  by_cases h0 : ph = 0
  · simp [h0]
  by_cases h1 : ph = 1
  · simp [h1]
  by_cases h2 : ph = 2
  · simp [h2]
  by_cases h3 : ph = 3
  · simp [h3]
  by_cases h4 : ph = 4
  · simp [h4]
  by_cases h5 : ph = 5
  · simp [h5]
  by_cases h6 : ph = 6
  · simp [h6]
  simp [h0, h1, h2, h3, h4, h5, h6]
theorem arrive_add (k : Lock) (cs : List Coming) : arrive (addAll k cs) = (addAll (arrive k).1 cs, (arrive k).2) := by
  obtain ⟨mk, ph, lv, lo, up, ins, out, mv, bz, be, ab⟩ := k
  unfold arrive addAll
  dsimp only
  by_cases h : ph = 0 ∨ ph = 4
  · rw [if_pos h, if_pos h]
    unfold endMove
    dsimp only
    cases mv with
    | none => rfl
    | some q => obtain ⟨s, b⟩ := q; cases b <;> rfl
  · rw [if_neg h, if_neg h]
    unfold turn
    dsimp only
    repeat' split
    all_goals rfl
theorem goOn_zero (k : Lock) : goOn k 0 = k := by
  obtain ⟨mk, ph, lv, lo, up, ins, out, mv, bz, be, ab⟩ := k
  unfold goOn
  dsimp only
  repeat' split
  all_goals rfl
theorem goOn_phase (k : Lock) (d : Nat) : (goOn k d).phase = k.phase := by
  unfold goOn; repeat' split
  all_goals rfl
theorem goOn_goOn (k : Lock) (a b : Nat) : goOn (goOn k a) b = goOn k (a + b) := by
  obtain ⟨mk, ph, lv, lo, up, ins, out, mv, bz, be, ab⟩ := k
  by_cases h0 : ph = 0
  · subst h0; simp [goOn, Nat.sub_add_eq]
  by_cases h1 : ph = 1
  · subst h1; simp [goOn, Nat.sub_add_eq]
  by_cases h2 : ph = 2
  · subst h2; simp [goOn, Nat.add_assoc]
  by_cases h3 : ph = 3
  · subst h3; simp [goOn, Nat.add_assoc]
  by_cases h4 : ph = 4
  · subst h4; simp [goOn, Nat.sub_add_eq]
  by_cases h5 : ph = 5
  · subst h5; simp [goOn, Nat.sub_add_eq]
  by_cases h6 : ph = 6
  · subst h6; simp [goOn, Nat.sub_add_eq]
  simp [goOn, h0, h1, h2, h3, h4, h5, h6, Nat.add_assoc]
theorem goOn_left (k : Lock) (d : Nat) : left (goOn k d) = left k - d := by
  obtain ⟨mk, ph, lv, lo, up, ins, out, mv, bz, be, ab⟩ := k
  by_cases h0 : ph = 0
  · subst h0; simp [goOn, left]
  by_cases h1 : ph = 1
  · subst h1; simp [goOn, left]
  by_cases h2 : ph = 2
  · subst h2; simp [goOn, left]; omega
  by_cases h3 : ph = 3
  · subst h3; simp [goOn, left]; omega
  by_cases h4 : ph = 4
  · subst h4; simp [goOn, left]
  by_cases h5 : ph = 5
  · subst h5; simp [goOn, left]
  by_cases h6 : ph = 6
  · subst h6; simp [goOn, left]
  simp [goOn, left, h0, h1, h2, h3, h4, h5, h6]; omega
/-- a move that goes on -/
theorem Good.on {k : Lock} (g : Good k) {d : Nat} (h : d < left k) : Good (goOn k d) := by
  obtain ⟨mk, ph, lv, lo, up, ins, out, mv, bz, be, ab⟩ := k
  obtain ⟨g1, g2, g3, g4, g5, g6⟩ := g
  dsimp only at g1 g2 g3 g4 g5 g6
  have g7 : ph = 0 ∨ ph = 1 ∨ ph = 2 ∨ ph = 3 ∨ ph = 4 ∨ ph = 5 ∨ ph = 6 ∨ ph = 7 := by omega
  rcases g7 with rfl | rfl | rfl | rfl | rfl | rfl | rfl | rfl <;>
    (simp [left] at h; refine ⟨?_, ?_, ?_, ?_, ?_, ?_⟩ <;> simp only [goOn] <;> simp <;> first | omega | (rw [g4]; omega) | assumption)
/-- a move's last second -/
theorem Good.arrived {k : Lock} (g : Good k) (h : 0 < left k) : Good (arrive (goOn k (left k))).1 := by
  obtain ⟨mk, ph, lv, lo, up, ins, out, mv, bz, be, ab⟩ := k
  obtain ⟨g1, g2, g3, g4, g5, g6⟩ := g
  dsimp only at g1 g2 g3 g4 g5 g6
  have g7 : ph = 0 ∨ ph = 1 ∨ ph = 2 ∨ ph = 3 ∨ ph = 4 ∨ ph = 5 ∨ ph = 6 ∨ ph = 7 := by omega
  rcases g7 with rfl | rfl | rfl | rfl | rfl | rfl | rfl | rfl
  case inl | inr.inr.inr.inr.inl =>
    cases mv with
    | none => simp [left] at h; simp at g4; omega
    | some q =>
      obtain ⟨s, b⟩ := q
      cases b <;> (refine ⟨?_, ?_, ?_, ?_, ?_, ?_⟩ <;> simp only [goOn, arrive, endMove, left] <;> simp <;> omega)
  all_goals (refine ⟨?_, ?_, ?_, ?_, ?_, ?_⟩ <;> simp only [goOn, arrive, endMove, left, turn] <;> simp <;> first | omega | (rw [g4]; omega))
theorem second_on {k : Lock} (g : Good k) (h : 1 < left k) : k.second = (goOn k 1, []) := by
  obtain ⟨mk, ph, lv, lo, up, ins, out, mv, bz, be, ab⟩ := k
  obtain ⟨g1, g2, g3, g4, g5, g6⟩ := g
  dsimp only at g1 g2 g3 g4 g5 g6
  have g7 : ph = 0 ∨ ph = 1 ∨ ph = 2 ∨ ph = 3 ∨ ph = 4 ∨ ph = 5 ∨ ph = 6 ∨ ph = 7 := by omega
  rcases g7 with rfl | rfl | rfl | rfl | rfl | rfl | rfl | rfl
  case inl | inr.inr.inr.inr.inl =>
    cases mv with
    | none => simp [left] at h; simp at g4; omega
    | some q =>
      obtain ⟨s, b⟩ := q
      simp [left] at h
      cases b <;> simp [Lock.second, Lock.atGate, goOn, h]
  all_goals (simp [left] at h; simp [Lock.second, goOn]; omega)
theorem second_last {k : Lock} (g : Good k) (h : left k = 1) : k.second = arrive (goOn k 1) := by
  obtain ⟨mk, ph, lv, lo, up, ins, out, mv, bz, be, ab⟩ := k
  obtain ⟨g1, g2, g3, g4, g5, g6⟩ := g
  dsimp only at g1 g2 g3 g4 g5 g6
  have g7 : ph = 0 ∨ ph = 1 ∨ ph = 2 ∨ ph = 3 ∨ ph = 4 ∨ ph = 5 ∨ ph = 6 ∨ ph = 7 := by omega
  rcases g7 with rfl | rfl | rfl | rfl | rfl | rfl | rfl | rfl
  case inl | inr.inr.inr.inr.inl =>
    cases mv with
    | none => simp [left] at h; simp at g4; omega
    | some q =>
      obtain ⟨s, b⟩ := q
      simp [left] at h
      subst h
      cases b <;> simp [Lock.second, Lock.atGate, goOn, arrive, endMove]
  · simp [left] at h; subst h; simp [Lock.second, goOn, arrive, turn]
  · simp [left] at h
    have e1 : mk.high = lv + 1 := by omega
    simp [Lock.second, goOn, arrive, turn, e1]
  · simp [left] at h
    have e1 : mk.gate = up + 1 := by omega
    simp [Lock.second, goOn, arrive, turn, e1]
  · simp [left] at h; subst h; simp [Lock.second, goOn, arrive, turn]
  · simp [left] at h; subst h; simp [Lock.second, goOn, arrive, turn]
  · simp [left] at h
    have e1 : mk.gate = lo + 1 := by omega
    simp [Lock.second, goOn, arrive, turn, e1]
end M

namespace M
open Sn73

/-! ### the run, second by second -/
theorem run_append (a b : List (List (Ship × Bool))) : ∀ k : Lock, run k (a ++ b) = ((run (run k a).1 b).1, (run k a).2 ++ (run (run k a).1 b).2) := by
  induction a with
  | nil => intro k; rfl
  | cons l r ih =>
    intro k
    show ((run (k.step l).1 (r ++ b)).1, (k.step l).2 :: (run (k.step l).1 (r ++ b)).2) = _
    rw [ih]
    rfl
theorem run_len (a : List (List (Ship × Bool))) : ∀ k : Lock, (run k a).2.length = a.length := by
  induction a with
  | nil => intro k; rfl
  | cons l r ih =>
    intro k
    show (run (k.step l).1 r).2.length + 1 = r.length + 1
    rw [ih]
theorem per_succ (l : List Coming) (n : Nat) : perSecond l (n + 1) = perSecond l n ++ [(l.filter fun c => c.time == n + 1).map fun c => ((⟨c.id, c.len⟩ : Ship), c.side == 1)] := by
  unfold perSecond
  rw [List.range_succ, List.map_append]
  rfl
theorem per_len (l : List Coming) (n : Nat) : (perSecond l n).length = n := by simp [perSecond]
/-- what a second tells -/
def tells (t : Nat) (es : List Event) : List Nat := es.flatMap fun e => [4 * t + e.what, e.id]
theorem told_snoc (a : List (List Event)) (e : List Event) : told (a ++ [e]) = told a ++ tells (a.length + 1) e := by
  unfold told tells
  rw [List.zipIdx_append, List.flatMap_append]
  simp
def stAt (k : Lock) (l : List Coming) (s : Nat) : Lock := (run k (perSecond l s)).1
def toldAt (k : Lock) (l : List Coming) (s : Nat) : List Nat := told (run k (perSecond l s)).2
theorem stAt_succ (k : Lock) (l : List Coming) (s : Nat) : stAt k l (s + 1) = (addAll (stAt k l s) (l.filter fun c => c.time == s + 1)).second.1 := by
  unfold stAt
  rw [per_succ, run_append]
  show (Lock.step (run k (perSecond l s)).1 _).1 = _
  unfold Lock.step
  rw [foldl_comes]
theorem toldAt_succ (k : Lock) (l : List Coming) (s : Nat) : toldAt k l (s + 1) = toldAt k l s ++ tells (s + 1) (addAll (stAt k l s) (l.filter fun c => c.time == s + 1)).second.2 := by
  unfold toldAt
  rw [per_succ, run_append]
  show told ((run k (perSecond l s)).2 ++ [(Lock.step (run k (perSecond l s)).1 _).2]) = _
  rw [told_snoc, run_len, per_len]
  unfold Lock.step
  rw [foldl_comes]
  rfl
theorem toldAt_mono (k : Lock) (l : List Coming) (s d : Nat) : (toldAt k l s).length ≤ (toldAt k l (s + d)).length := by
  induction d with
  | zero => exact Nat.le_refl _
  | succ d ih =>
    rw [← Nat.add_assoc, toldAt_succ, List.length_append]
    omega
/-! ### who has come -/
abbrev Up (l : List Coming) : Prop := l.Pairwise fun a b => a.time ≤ b.time
theorem up_split (s : Nat) : ∀ l : List Coming, Up l → (l.filter fun c => decide (c.time ≤ s + 1)) = (l.filter fun c => decide (c.time ≤ s)) ++ l.filter fun c => c.time == s + 1 := by
  intro l
  induction l with
  | nil => intro _; rfl
  | cons c r ih =>
    intro h
    obtain ⟨h1, h2⟩ := List.pairwise_cons.mp h
    have ih := ih h2
    by_cases a : c.time ≤ s
    · have b : ¬ c.time = s + 1 := by omega
      rw [List.filter_cons_of_pos (by simp; omega), List.filter_cons_of_pos (by simpa using a), List.filter_cons_of_neg (by simpa using b), ih]
      rfl
    · have e0 : (r.filter fun c => decide (c.time ≤ s)) = [] := List.filter_eq_nil_iff.mpr fun x hx => by have := h1 x hx; simp; omega
      rw [e0, List.nil_append] at ih
      by_cases b : c.time = s + 1
      · rw [List.filter_cons_of_pos (by simp; omega), List.filter_cons_of_neg (by simpa using a), e0, List.filter_cons_of_pos (by simpa using b), ih]
        rfl
      · rw [List.filter_cons_of_neg (by simp; omega), List.filter_cons_of_neg (by simpa using a), e0, List.filter_cons_of_neg (by simpa using b), ih]
        rfl
def pend (l : List Coming) (j s : Nat) : List Coming := (l.drop j).filter fun c => decide (c.time ≤ s)
theorem pend_succ {l : List Coming} {j s : Nat} (hu : Up l) (hb : ∀ c ∈ l.take j, c.time ≤ s) : pend l j (s + 1) = pend l j s ++ l.filter fun c => c.time == s + 1 := by
  have e : (l.filter fun c => c.time == s + 1) = (l.drop j).filter fun c => c.time == s + 1 := by
    conv => lhs; rw [← List.take_append_drop j l, List.filter_append]
    rw [List.filter_eq_nil_iff.mpr fun c hc => by have := hb c hc; simp; omega]
    rfl
  rw [e]
  exact up_split s (l.drop j) (hu.sublist (List.drop_sublist _ _))
theorem pend_cons {l : List Coming} {j s : Nat} {c : Coming} (h : l[j]? = some c) (hc : c.time ≤ s) : pend l j s = c :: pend l (j + 1) s := by
  unfold pend
  obtain ⟨hl, e⟩ := List.getElem?_eq_some_iff.mp h
  rw [List.drop_eq_getElem_cons hl, e, List.filter_cons_of_pos (by simpa using hc)]
theorem pend_stop {l : List Coming} {j s : Nat} {c : Coming} (hu : Up l) (h : l[j]? = some c) (hc : ¬ c.time ≤ s) : pend l j s = [] := by
  unfold pend
  obtain ⟨hl, e⟩ := List.getElem?_eq_some_iff.mp h
  have hu' : Up (l.drop j) := hu.sublist (List.drop_sublist _ _)
  rw [List.drop_eq_getElem_cons hl, e] at hu' ⊢
  obtain ⟨h1, _⟩ := List.pairwise_cons.mp hu'
  refine List.filter_eq_nil_iff.mpr fun x hx => ?_
  rcases List.mem_cons.mp hx with rfl | hx
  · simpa using hc
  · have := h1 x hx
    simp
    omega
theorem pend_end {l : List Coming} {j s : Nat} (h : l.length ≤ j) : pend l j s = [] := by
  unfold pend
  rw [List.drop_eq_nil_of_le h]
  rfl
theorem pend_len (l : List Coming) (j s : Nat) : (pend l j s).length ≤ l.length - j := by
  unfold pend
  have := List.length_filter_le (fun c : Coming => decide (c.time ≤ s)) (l.drop j)
  rw [List.length_drop] at this
  exact this
/-- behind those that have come by the second s -/
def past (l : List Coming) (j s : Nat) : Nat := j + (pend l j s).length
theorem past_step {l : List Coming} {j s : Nat} {c : Coming} (h : l[j]? = some c) (hc : c.time ≤ s) : past l j s = past l (j + 1) s := by
  unfold past
  rw [pend_cons h hc, List.length_cons]
  omega
theorem past_none {l : List Coming} {j s : Nat} (h : pend l j s = []) : past l j s = j := by
  unfold past
  rw [h]
  rfl
theorem past_pend {l : List Coming} (hu : Up l) (s : Nat) : ∀ (n j : Nat), l.length - j = n → pend l (past l j s) s = [] ∧ (∀ c ∈ l.take j, c.time ≤ s) → pend l (past l j s) s = [] := fun _ _ _ h => h.1
theorem past_spec {l : List Coming} (hu : Up l) (s : Nat) : ∀ (n j : Nat), l.length - j = n → j ≤ l.length → (∀ c ∈ l.take j, c.time ≤ s) →
    past l j s ≤ l.length ∧ pend l (past l j s) s = [] ∧ (∀ c ∈ l.take (past l j s), c.time ≤ s) := by
  intro n
  induction n with
  | zero =>
    intro j hn hj hb
    have e : pend l j s = [] := pend_end (by omega)
    rw [past_none e]
    exact ⟨hj, e, hb⟩
  | succ n ih =>
    intro j hn hj hb
    have hl : j < l.length := by omega
    have hc : l[j]? = some l[j] := List.getElem?_eq_getElem hl
    by_cases ht : l[j].time ≤ s
    · rw [past_step hc ht]
      refine ih (j + 1) (by omega) hl fun c hm => ?_
      rw [List.take_succ_eq_append_getElem hl] at hm
      rcases List.mem_append.mp hm with hm | hm
      · exact hb c hm
      · rw [List.mem_singleton.mp hm]; exact ht
    · have e : pend l j s = [] := pend_stop hu hc ht
      rw [past_none e]
      exact ⟨hj, e, hb⟩
/-! ### the bound: what may still be told -/
def movW : Option (Ship × Bool) → Nat
  | none => 0
  | some (_, true) => 4
  | some (_, false) => 2
def pot (k : Lock) : Nat := 4 * (k.below.length + k.above.length) + 2 * k.inside.length + movW k.moving
theorem los_his (cs : List Coming) : (los cs).length + (his cs).length = cs.length := by
  unfold los his
  rw [List.length_map, List.length_map]
  induction cs with
  | nil => rfl
  | cons c r ih => by_cases h : (c.side == 1) = true <;> simp [List.filter_cons, h] at ih ⊢ <;> omega
theorem pot_add (k : Lock) (cs : List Coming) : pot (addAll k cs) = pot k + 4 * cs.length := by
  have h := los_his cs
  unfold pot addAll
  dsimp only
  rw [List.length_append, List.length_append]
  omega
theorem pot_on (k : Lock) (d : Nat) : pot (goOn k d) = pot k := by
  obtain ⟨mk, ph, lv, lo, up, ins, out, mv, bz, be, ab⟩ := k
  unfold goOn
  dsimp only
  repeat' split
  all_goals rfl
theorem pot_arrive (k : Lock) (t : Nat) : pot (arrive k).1 + (tells t (arrive k).2).length = pot k := by
  obtain ⟨mk, ph, lv, lo, up, ins, out, mv, bz, be, ab⟩ := k
  unfold arrive
  dsimp only
  split
  · unfold endMove
    dsimp only
    cases mv with
    | none => simp [tells]
    | some q => obtain ⟨s, b⟩ := q; cases b <;> simp [tells, pot, movW] <;> omega
  · unfold turn
    dsimp only
    repeat' split
    all_goals simp [tells, pot]
theorem pot_count {k : Lock} : pot k ≤ 4 * k.count := by
  obtain ⟨mk, ph, lv, lo, up, ins, out, mv, bz, be, ab⟩ := k
  unfold pot Lock.count
  dsimp only
  cases mv with
  | none => simp [movW]; omega
  | some q => obtain ⟨s, b⟩ := q; cases b <;> simp [movW] <;> omega
/-! ### at an open gate with nobody on the move -/
/-- nothing to do until somebody comes -/
def Idle (k : Lock) : Prop := k.inside = [] ∧ k.below = [] ∧ k.above = []
theorem gate_second {k : Lock} (h : k.phase = 0 ∨ k.phase = 4) : k.second = k.atGate := by
  unfold Lock.second
  rcases h with h | h <;> rw [h] <;> rfl
theorem gate_events {k : Lock} (h : k.moving = none) : k.atGate.2 = [] := by
  unfold Lock.atGate
  rw [h]
  dsimp only
  repeat' split
  all_goals rfl
theorem gate_out {k : Lock} (hm : k.moving = none) (ho : 0 < k.out) {s : Ship} {r : List Ship} (hi : k.inside = s :: r) :
    k.atGate.1 = { k with out := k.out - 1, inside := r, moving := some (s, false), busy := k.make.move } := by
  unfold Lock.atGate
  rw [hm]
  dsimp only
  rw [if_pos ho, hi]
theorem gate_in0 {k : Lock} (hm : k.moving = none) (ho : k.out = 0) (hp : k.phase = 0) {s : Ship} {r : List Ship} (hi : k.below = s :: r) (hf : filled k.inside + s.len ≤ k.make.room) :
    k.atGate.1 = { k with below := r, moving := some (s, true), busy := k.make.move } := by
  unfold Lock.atGate Lock.here
  rw [hm]
  dsimp only
  rw [if_neg (by omega), if_pos hp, hi]
  dsimp only
  rw [if_pos hf, if_pos hp]
theorem gate_in4 {k : Lock} (hm : k.moving = none) (ho : k.out = 0) (hp : k.phase = 4) {s : Ship} {r : List Ship} (hi : k.above = s :: r) (hf : filled k.inside + s.len ≤ k.make.room) :
    k.atGate.1 = { k with above := r, moving := some (s, true), busy := k.make.move } := by
  unfold Lock.atGate Lock.here
  rw [hm]
  dsimp only
  rw [if_neg (by omega), if_neg (by omega), hi]
  dsimp only
  rw [if_pos hf, if_neg (by omega)]
theorem gate_full {k : Lock} (hm : k.moving = none) (ho : k.out = 0) {s : Ship} {r : List Ship} (hi : k.here = s :: r) (hf : ¬ filled k.inside + s.len ≤ k.make.room) : k.atGate.1 = { k with phase := k.phase + 1 } := by
  unfold Lock.atGate
  rw [hm]
  dsimp only
  rw [if_neg (by omega), hi]
  dsimp only
  rw [if_neg hf]
theorem gate_on {k : Lock} (hm : k.moving = none) (ho : k.out = 0) (hi : k.here = []) (hf : k.inside ≠ [] ∨ k.there ≠ []) : k.atGate.1 = { k with phase := k.phase + 1 } := by
  unfold Lock.atGate
  rw [hm]
  dsimp only
  rw [if_neg (by omega), hi]
  dsimp only
  rw [if_pos hf]
theorem gate_none {k : Lock} (hm : k.moving = none) (ho : k.out = 0) (hi : k.here = []) (hf : ¬ (k.inside ≠ [] ∨ k.there ≠ [])) : k.atGate.1 = k := by
  unfold Lock.atGate
  rw [hm]
  dsimp only
  rw [if_neg (by omega), hi]
  dsimp only
  rw [if_neg hf]
theorem Good.at0 {k : Lock} (g : Good k) (h : k.phase = 0) : k.lower = k.make.gate ∧ k.upper = 0 ∧ k.level = 0 := by
  have := g.ph
  rcases this with q | q | q | q | q | q | q | q
  · exact q.2
  all_goals exact absurd (q.1.symm.trans h) (by decide)
theorem Good.at4 {k : Lock} (g : Good k) (h : k.phase = 4) : k.lower = 0 ∧ k.upper = k.make.gate ∧ k.level = k.make.high := by
  have := g.ph
  rcases this with q | q | q | q | q | q | q | q
  case inr.inr.inr.inr.inl => exact q.2
  all_goals exact absurd (q.1.symm.trans h) (by decide)
theorem Good.next {k : Lock} (g : Good k) (h : k.phase = 0 ∨ k.phase = 4) (hb : k.busy = 0) : Good { k with phase := k.phase + 1 } := by
  refine ⟨g.high, g.gate, g.move, g.mv, g.out, ?_⟩
  dsimp only
  have := g.gate
  rcases h with h | h
  · obtain ⟨a, b, c⟩ := g.at0 h
    exact .inr (.inl ⟨by omega, by omega, by omega, b, c, hb⟩)
  · obtain ⟨a, b, c⟩ := g.at4 h
    exact .inr (.inr (.inr (.inr (.inr (.inl ⟨by omega, a, by omega, by omega, c, hb⟩)))))
/-- the same gate open -/
theorem Good.here {k k' : Lock} (g : Good k) (h : k.phase = 0 ∨ k.phase = 4) (e1 : k'.make = k.make) (e2 : k'.phase = k.phase) (e3 : k'.lower = k.lower) (e4 : k'.upper = k.upper) (e5 : k'.level = k.level)
    (mv : k'.moving = none ↔ k'.busy = 0) (out : k'.out ≤ k'.inside.length) : Good k' := by
  refine ⟨by rw [e1]; exact g.high, by rw [e1]; exact g.gate, by rw [e1]; exact g.move, mv, out, ?_⟩
  rw [e1, e2, e3, e4, e5]
  rcases h with h | h
  · exact .inl ⟨h, g.at0 h⟩
  · exact .inr (.inr (.inr (.inr (.inl ⟨h, g.at4 h⟩))))
theorem gate_both {k : Lock} (g : Good k) (h : k.phase = 0 ∨ k.phase = 4) (hb : k.busy = 0) : Good k.atGate.1 ∧ pot k.atGate.1 = pot k := by
  have hm := g.mv.mpr hb
  have g5 := g.out
  have g3 := g.move
  have g7 : ∀ s b, (some ((s, b) : Ship × Bool) = none) ↔ k.make.move = 0 := fun s b => by simp; omega
  by_cases ho : 0 < k.out
  · cases hi : k.inside with
    | nil => rw [hi] at g5; simp at g5; omega
    | cons s r =>
      rw [gate_out hm ho hi]
      rw [hi, List.length_cons] at g5
      refine ⟨g.here h rfl rfl rfl rfl rfl (g7 _ _) ?_, ?_⟩
      · dsimp only; omega
      · unfold pot
        dsimp only
        rw [hi, hm, List.length_cons]
        simp only [movW]
        omega
  · have ho : k.out = 0 := by omega
    cases hh : k.here with
    | nil =>
      by_cases hf : k.inside ≠ [] ∨ k.there ≠ []
      · rw [gate_on hm ho hh hf]
        exact ⟨g.next h hb, rfl⟩
      · rw [gate_none hm ho hh hf]
        exact ⟨g, rfl⟩
    | cons s r =>
      by_cases hf : filled k.inside + s.len ≤ k.make.room
      · rcases h with h | h
        · have hi : k.below = s :: r := by
            have e : k.here = k.below := by unfold Lock.here; rw [if_pos h]
            rw [← e]; exact hh
          rw [gate_in0 hm ho h hi hf]
          refine ⟨g.here (by omega) rfl rfl rfl rfl rfl (g7 _ _) g5, ?_⟩
          · unfold pot
            dsimp only
            rw [hi, hm, List.length_cons]
            simp only [movW]
            omega
        · have hi : k.above = s :: r := by
            have e : k.here = k.above := by unfold Lock.here; rw [if_neg (by omega)]
            rw [← e]; exact hh
          rw [gate_in4 hm ho h hi hf]
          refine ⟨g.here (by omega) rfl rfl rfl rfl rfl (g7 _ _) g5, ?_⟩
          · unfold pot
            dsimp only
            rw [hi, hm, List.length_cons]
            simp only [movW]
            omega
      · rw [gate_full hm ho hh hf]
        exact ⟨g.next h hb, rfl⟩
theorem gate_good {k : Lock} (g : Good k) (h : k.phase = 0 ∨ k.phase = 4) (hb : k.busy = 0) : Good k.atGate.1 := (gate_both g h hb).1
theorem gate_pot {k : Lock} (g : Good k) (h : k.phase = 0 ∨ k.phase = 4) (hb : k.busy = 0) : pot k.atGate.1 = pot k := (gate_both g h hb).2
theorem gate_idle {k : Lock} (g : Good k) (hb : k.busy = 0) (i : Idle k) : k.atGate = (k, []) := by
  have hm := g.mv.mpr hb
  have g5 := g.out
  obtain ⟨mk, ph, lv, lo, up, ins, out, mv, bz, be, ab⟩ := k
  obtain ⟨i1, i2, i3⟩ := i
  dsimp only at *
  subst hm i1 i2 i3
  simp at g5
  subst g5
  simp [Lock.atGate, Lock.here, Lock.there]
/-! ### the program's state against the document's -/
structure Sim (k0 : Lock) (l : List Coming) (n s j : Nat) (k : Lock) (T : List Nat) : Prop where
  up : Up l
  sn : s ≤ n
  jn : j ≤ l.length
  before : ∀ c ∈ l.take j, c.time ≤ s
  good : Good k
  st : stAt k0 l s = addAll k (pend l j s)
  tl : toldAt k0 l s = T
  pot : T.length + pot k + 4 * (l.length - j) ≤ 16384
theorem Sim.start {k0 : Lock} {l : List Coming} {n : Nat} (hu : Up l) (h1 : ∀ c ∈ l, 1 ≤ c.time) (g : Good k0) (hc : k0.count + l.length ≤ 4096) : Sim k0 l n 0 0 k0 [] := by
  have e : pend l 0 0 = [] := List.filter_eq_nil_iff.mpr fun c hc => by have := h1 c (by simpa using hc); simp; omega
  have := @pot_count k0
  refine ⟨hu, Nat.zero_le _, Nat.zero_le _, by simp, g, ?_, rfl, ?_⟩
  · rw [e, addAll_nil]; rfl
  · show 0 + M.pot k0 + 4 * (l.length - 0) ≤ 16384
    omega
theorem Sim.more {k0 : Lock} {l : List Coming} {n s j : Nat} {k : Lock} {T : List Nat} (S : Sim k0 l n s j k T) : ∀ d, d < left k → s + d ≤ n → Sim k0 l n (s + d) j (goOn k d) T := by
  intro d
  induction d with
  | zero => intro _ _; rw [goOn_zero]; exact S
  | succ d ih =>
    intro h1 h2
    have I := ih (by omega) (by omega)
    have e1 := pend_succ I.up I.before
    have e2 : (addAll (stAt k0 l (s + d)) (l.filter fun c => c.time == s + d + 1)).second = (addAll (goOn k (d + 1)) (pend l j (s + d + 1)), []) := by
      rw [I.st, addAll_append, ← e1, second_on (I.good.add _) (by rw [left_add, goOn_left]; omega), goOn_add, goOn_goOn]
    refine ⟨I.up, h2, I.jn, fun c hc => by have := I.before c hc; omega, S.good.on h1, ?_, ?_, ?_⟩
    · rw [← Nat.add_assoc, stAt_succ, e2]
    · rw [← Nat.add_assoc, toldAt_succ, e2, I.tl]
      simp [tells]
    · have := S.pot
      rw [pot_on]
      exact this
theorem Sim.arrive {k0 : Lock} {l : List Coming} {n s j : Nat} {k : Lock} {T : List Nat} (S : Sim k0 l n s j k T) (h0 : 0 < left k) (h : s + left k ≤ n) :
    Sim k0 l n (s + left k) j (M.arrive (goOn k (left k))).1 (T ++ tells (s + left k) (M.arrive (goOn k (left k))).2) := by
  obtain ⟨d, hd⟩ : ∃ d, left k = d + 1 := ⟨left k - 1, by omega⟩
  have I := S.more d (by omega) (by omega)
  have e1 := pend_succ I.up I.before
  have e2 : (addAll (stAt k0 l (s + d)) (l.filter fun c => c.time == s + d + 1)).second = (addAll (M.arrive (goOn k (d + 1))).1 (pend l j (s + d + 1)), (M.arrive (goOn k (d + 1))).2) := by
    rw [I.st, addAll_append, ← e1, second_last (I.good.add _) (by rw [left_add, goOn_left]; omega), goOn_add, goOn_goOn, arrive_add]
  refine ⟨I.up, h, I.jn, fun c hc => by have := S.before c hc; omega, S.good.arrived h0, ?_, ?_, ?_⟩
  · rw [hd, ← Nat.add_assoc, stAt_succ, e2]
  · rw [hd, ← Nat.add_assoc, toldAt_succ, e2, I.tl]
  · have a := S.pot
    have b := pot_arrive (goOn k (left k)) (s + left k)
    rw [pot_on] at b
    rw [List.length_append]
    omega
/-- those that have come are let wait -/
theorem Sim.chosen {k0 : Lock} {l : List Coming} {n s j : Nat} {k : Lock} {T : List Nat} (S : Sim k0 l n s j k T) (h0 : left k = 0) (h : s < n) :
    Sim k0 l n (s + 1) (past l j (s + 1)) (addAll k (pend l j (s + 1))).atGate.1 T ∧ pend l (past l j (s + 1)) (s + 1) = [] := by
  obtain ⟨hp, hb⟩ := S.good.left0 h0
  have G : Good (addAll k (pend l j (s + 1))) := S.good.add _
  have hm : (addAll k (pend l j (s + 1))).moving = none := G.mv.mpr hb
  have e1 := pend_succ S.up S.before
  obtain ⟨p1, p2, p3⟩ := past_spec S.up (s + 1) _ j rfl S.jn fun c hc => Nat.le_succ_of_le (S.before c hc)
  have e2 : (addAll (stAt k0 l s) (l.filter fun c => c.time == s + 1)).second = ((addAll k (pend l j (s + 1))).atGate.1, []) := by
    rw [S.st, addAll_append, ← e1, gate_second (k := addAll k (pend l j (s + 1))) hp]
    exact Prod.ext rfl (gate_events hm)
  refine ⟨⟨S.up, h, p1, p3, gate_good G hp hb, ?_, ?_, ?_⟩, p2⟩
  · rw [stAt_succ, e2, p2, addAll_nil]
  · rw [toldAt_succ, e2, S.tl]
    simp [tells]
  · have a := S.pot
    have b := gate_pot G hp hb
    have c := pot_add k (pend l j (s + 1))
    have d := pend_len l j (s + 1)
    have f : past l j (s + 1) = j + (pend l j (s + 1)).length := rfl
    have := S.jn
    omega
theorem Sim.idle {k0 : Lock} {l : List Coming} {n s j : Nat} {k : Lock} {T : List Nat} (S : Sim k0 l n s j k T) (h0 : left k = 0) (i : Idle k) : ∀ d, s + d ≤ n → pend l j (s + d) = [] → Sim k0 l n (s + d) j k T := by
  intro d
  induction d with
  | zero => intro _ _; exact S
  | succ d ih =>
    intro h1 h2
    have e0 : pend l j (s + d) = [] := by
      refine List.filter_eq_nil_iff.mpr fun c hc => ?_
      have := List.filter_eq_nil_iff.mp h2 c hc
      simp at this ⊢
      omega
    have I := ih (by omega) e0
    obtain ⟨hp, hb⟩ := S.good.left0 h0
    have e1 := pend_succ I.up I.before
    have e2 : (addAll (stAt k0 l (s + d)) (l.filter fun c => c.time == s + d + 1)).second = (k, []) := by
      rw [I.st, addAll_append, ← e1]
      show (addAll k (pend l j (s + (d + 1)))).second = _
      rw [h2, addAll_nil, gate_second hp, gate_idle S.good hb i]
    refine ⟨I.up, h1, I.jn, fun c hc => by have := I.before c hc; omega, S.good, ?_, ?_, S.pot⟩
    · rw [← Nat.add_assoc, stAt_succ, e2]
      show k = addAll k (pend l j (s + (d + 1)))
      rw [h2, addAll_nil]
    · rw [← Nat.add_assoc, toldAt_succ, e2, I.tl]
      simp [tells]
end M

namespace M
open Sn73

/-! ### the comings -/
def flat1 (c : Coming) : List Int := [(c.time : Int), (c.id : Int), (c.len : Int), (c.side : Int)]
def flat (l : List Coming) : List Int := l.flatMap flat1
theorem flat_len (l : List Coming) : (flat l).length = 4 * l.length := by
  induction l with
  | nil => rfl
  | cons c r ih =>
    show (flat1 c ++ flat r).length = _
    rw [List.length_append, ih, List.length_cons]
    show 4 + _ = _
    omega
theorem flat_get {l : List Coming} : ∀ {j : Nat} {c : Coming}, l[j]? = some c → (flat l)[4 * j]? = some (c.time : Int) ∧ (flat l)[4 * j + 1]? = some (c.id : Int) ∧ (flat l)[4 * j + 2]? = some (c.len : Int) ∧ (flat l)[4 * j + 3]? = some (c.side : Int) := by
  induction l with
  | nil => intro j c h; simp at h
  | cons d r ih =>
    intro j c h
    cases j with
    | zero =>
      have e : d = c := by simpa using h
      subst e
      exact ⟨rfl, rfl, rfl, rfl⟩
    | succ j =>
      have q := ih (j := j) (c := c) (by simpa using h)
      have e : ∀ i, (flat (d :: r))[4 * (j + 1) + i]? = (flat r)[4 * j + i]? := fun i => by
        show (flat1 d ++ flat r)[4 * (j + 1) + i]? = _
        rw [List.getElem?_append_right (by show 4 ≤ _; omega)]
        congr 1
        show 4 * (j + 1) + i - 4 = _
        omega
      refine ⟨?_, ?_, ?_, ?_⟩
      · exact (e 0).trans q.1
      · rw [e 1]; exact q.2.1
      · rw [e 2]; exact q.2.2.1
      · rw [e 3]; exact q.2.2.2
theorem flat_of : ∀ (r : List Int), Sn73Neutral.rowsOk r = true → r = flat (Sn73Neutral.comings r)
  | [], _ => rfl
  | [_], h => by simp [Sn73Neutral.rowsOk] at h
  | [_, _], h => by simp [Sn73Neutral.rowsOk] at h
  | [_, _, _], h => by simp [Sn73Neutral.rowsOk] at h
  | t :: i :: n :: s :: l, h => by
    have h' : ((Sn73Neutral.word t && Sn73Neutral.word i) && (NeutralIO.bytes [n, s] && Sn73Neutral.rowsOk l)) = true := h
    simp [Sn73Neutral.word, NeutralIO.within, NeutralIO.bytes] at h'
    obtain ⟨⟨⟨a1, _⟩, ⟨a2, _⟩⟩, ⟨⟨a3, _⟩, ⟨a4, _⟩⟩, a5⟩ := h'
    have ih := flat_of l a5
    have e : Sn73Neutral.comings (t :: i :: n :: s :: l) = ⟨t.toNat, i.toNat, n.toNat, s.toNat⟩ :: Sn73Neutral.comings l := rfl
    rw [e]
    show _ = flat1 _ ++ flat (Sn73Neutral.comings l)
    rw [← ih]
    show _ = ((t.toNat : Int) :: (i.toNat : Int) :: (n.toNat : Int) :: (s.toNat : Int) :: l)
    rw [Int.toNat_of_nonneg a1, Int.toNat_of_nonneg a2, Int.toNat_of_nonneg a3, Int.toNat_of_nonneg a4]
/-- each coming as it may be, from the second e on -/
def okFrom (n room : Nat) : Nat → List Coming → Bool
  | _, [] => true
  | e, c :: r => (decide (e ≤ c.time) && decide (c.time ≤ n)) && ((decide (1 ≤ c.len) && decide (c.len ≤ room)) && (decide (c.side ≤ 1) && okFrom n room c.time r))
theorem okFrom_up {n room : Nat} : ∀ (l : List Coming) (e : Nat), okFrom n room e l = true → Up l ∧ (∀ c ∈ l, e ≤ c.time ∧ c.time ≤ n ∧ 1 ≤ c.len ∧ c.len ≤ room ∧ c.side ≤ 1) := by
  intro l
  induction l with
  | nil => intro e _; exact ⟨List.Pairwise.nil, by simp⟩
  | cons c r ih =>
    intro e h
    simp [okFrom] at h
    obtain ⟨⟨h1, h2⟩, ⟨h3, h4⟩, h5, h6⟩ := h
    obtain ⟨a, b⟩ := ih c.time h6
    refine ⟨List.pairwise_cons.mpr ⟨fun d hd => (b d hd).1, a⟩, fun d hd => ?_⟩
    rcases List.mem_cons.mp hd with rfl | hd
    · exact ⟨h1, h2, h3, h4, h5⟩
    · obtain ⟨b1, b2⟩ := b d hd
      exact ⟨Nat.le_trans h1 b1, b2⟩
theorem rising_cons (c d : Coming) (r : List Coming) : rising ((c :: d :: r).map fun c => c.time) = (decide (c.time ≤ d.time) && rising ((d :: r).map fun c => c.time)) := rfl
theorem okFrom_spec (n room : Nat) : ∀ (l : List Coming) (e : Nat), (1 ≤ e) → okFrom n room e l = ((match l with | [] => true | c :: _ => decide (e ≤ c.time)) && (rising (l.map fun c => c.time) &&
    (l.all fun c => decide (1 ≤ c.time) && (decide (c.time ≤ n) && (decide (1 ≤ c.len) && (decide (c.len ≤ room) && decide (c.side ≤ 1))))))) := by
  intro l
  induction l with
  | nil => intro e _; rfl
  | cons c r ih =>
    intro e he
    by_cases h0 : e ≤ c.time
    · have ih := ih c.time (by omega)
      have h1 : 1 ≤ c.time := by omega
      cases r with
      | nil => simp [okFrom, rising, h0, h1, Bool.and_assoc]
      | cons d r =>
        rw [rising_cons]
        show ((decide (e ≤ c.time) && decide (c.time ≤ n)) && ((decide (1 ≤ c.len) && decide (c.len ≤ room)) && (decide (c.side ≤ 1) && okFrom n room c.time (d :: r)))) = _
        have ea : ∀ p : Coming → Bool, (c :: d :: r).all p = (p c && (d :: r).all p) := fun p => rfl
        rw [ih, ea]
        dsimp only
        generalize (List.all (d :: r) _) = Z
        generalize rising _ = Y
        simp only [h0, h1, decide_true, Bool.true_and]
        generalize decide (c.time ≤ n) = a1
        generalize decide (1 ≤ c.len) = a2
        generalize decide (c.len ≤ room) = a3
        generalize decide (c.side ≤ 1) = a4
        generalize decide (c.time ≤ d.time) = a5
        revert a1 a2 a3 a4 a5 Y Z
        decide
    · simp [okFrom, h0]
/-- what a run looks at first -/
theorem ok_all (n room : Nat) (l : List Coming) : okFrom n room 1 l = (rising (l.map fun c => c.time) && (l.all fun c => decide (1 ≤ c.time) && (decide (c.time ≤ n) && (decide (1 ≤ c.len) && (decide (c.len ≤ room) && decide (c.side ≤ 1)))))) := by
  rw [okFrom_spec n room l 1 (Nat.le_refl _)]
  cases l with
  | nil => rfl
  | cons c r =>
    dsimp only
    rw [List.all_cons]
    generalize (List.all r _) = Z
    generalize rising _ = Y
    generalize decide (1 ≤ c.time) = a1
    generalize (decide (c.time ≤ n) && (decide (1 ≤ c.len) && (decide (c.len ≤ room) && decide (c.side ≤ 1)))) = a2
    revert a1 a2 Y Z
    decide
def nums (m n most : Int) : Bool := (decide (0 ≤ m) && decide (m ≤ 1024)) && ((decide (0 ≤ n) && decide (n ≤ 1000000)) && (decide (0 ≤ most) && decide (most ≤ 65536)))
theorem run_cond (k : Lock) (l : List Coming) (m n most : Int) : (between m 0 COME && (between n 0 LONG && (between most 0 SPACE && (rising (l.map fun c => c.time) && (l.all fun c => decide (1 ≤ c.time) && (decide (c.time ≤ n.toNat) && (decide (1 ≤ c.len) && (decide (c.len ≤ k.make.room) && decide (c.side ≤ 1))))))))) =
    (nums m n most && okFrom n.toNat k.make.room 1 l) := by
  rw [ok_all]
  show ((decide ((0 : Int) ≤ m) && decide (m ≤ 1024)) && ((decide ((0 : Int) ≤ n) && decide (n ≤ 1000000)) && ((decide ((0 : Int) ≤ most) && decide (most ≤ 65536)) && _))) = _
  unfold nums
  simp only [Bool.and_assoc]
theorem run_bad {k : Lock} {l : List Coming} {m n most : Int} (h : (nums m n most && okFrom n.toNat k.make.room 1 l) = false) : Sn73.step (some k) (.run l m n most) = (some k, { value := -2 }) := by
  show (if _ = false then _ else _) = _
  rw [run_cond, if_pos h]
theorem run_many {k : Lock} {l : List Coming} {m n most : Int} (h : (nums m n most && okFrom n.toNat k.make.room 1 l) = true) (h2 : 4096 < k.count + l.length) : Sn73.step (some k) (.run l m n most) = (some k, { value := -4 }) := by
  show (if _ = false then _ else _) = _
  rw [run_cond, if_neg (by rw [h]; decide), if_pos (show ALL < k.count + l.length from h2)]
theorem run_over {k : Lock} {l : List Coming} {m n most : Int} (h : (nums m n most && okFrom n.toNat k.make.room 1 l) = true) (h2 : k.count + l.length ≤ 4096) (h3 : most < ((toldAt k l n.toNat).length : Int)) :
    Sn73.step (some k) (.run l m n most) = (some k, { value := -3 }) := by
  show (if _ = false then _ else _) = _
  rw [run_cond, if_neg (by rw [h]; decide), if_neg (show ¬ ALL < k.count + l.length from by show ¬ 4096 < _; omega)]
  show (if most < ((toldAt k l n.toNat).length : Int) then _ else _) = _
  rw [if_pos h3]
theorem run_ok {k : Lock} {l : List Coming} {m n most : Int} (h : (nums m n most && okFrom n.toNat k.make.room 1 l) = true) (h2 : k.count + l.length ≤ 4096) (h3 : ((toldAt k l n.toNat).length : Int) ≤ most) :
    Sn73.step (some k) (.run l m n most) = (some (stAt k l n.toNat), { value := ((toldAt k l n.toNat).length : Nat), out := toldAt k l n.toNat }) := by
  show (if _ = false then _ else _) = _
  rw [run_cond, if_neg (by rw [h]; decide), if_neg (show ¬ ALL < k.count + l.length from by show ¬ 4096 < _; omega)]
  show (if most < ((toldAt k l n.toNat).length : Int) then _ else _) = _
  rw [if_neg (by omega)]
  rfl
/-! ### the calls one behind another -/
theorem whole_id (c : List (List Int)) : PySn73.whole c = c := by
  unfold PySn73.whole
  split <;> rfl
theorem whole_map (cs : List (List (List Int))) : cs.map PySn73.whole = cs := by
  induction cs with
  | nil => rfl
  | cons c r ih => rw [List.map_cons, ih, whole_id]
abbrev Calls (f : Nat) (l : List Int) (cs : List (List (List Int))) : Prop := PyFlat.calls PySn73.shape f l = some cs
theorem calls_cons {f : Nat} {p : Int} {r : List Int} {cs : List (List (List Int))} (h : Calls f (p :: r) cs) :
    ∃ f' c t cs', f = f' + 1 ∧ PyFlat.call PySn73.shape (p :: r) = some (c, t) ∧ Calls f' t cs' ∧ cs = c :: cs' := by
  cases f with
  | zero => cases h
  | succ f =>
    have h' : (match PyFlat.call PySn73.shape (p :: r) with
      | none => none
      | some (c, t) => match PyFlat.calls PySn73.shape f t with
        | none => none
        | some cs => some (c :: cs)) = some cs := h
    cases e : PyFlat.call PySn73.shape (p :: r) with
    | none => rw [e] at h'; cases h'
    | some q =>
      obtain ⟨c, t⟩ := q
      rw [e] at h'
      dsimp only at h'
      cases e2 : PyFlat.calls PySn73.shape f t with
      | none => rw [e2] at h'; cases h'
      | some cs' =>
        rw [e2] at h'
        exact ⟨f, c, t, cs', rfl, rfl, e2, (Option.some.inj h').symm⟩
theorem calls_nil {f : Nat} {cs : List (List (List Int))} (h : Calls f [] cs) : cs = [] := by
  cases f <;> exact (Option.some.inj h).symm
theorem call_cases {p : Int} {r t : List Int} {c : List (List Int)} (h : PyFlat.call PySn73.shape (p :: r) = some (c, t)) :
    (p = 0 ∧ ∃ a b d e, r = a :: b :: d :: e :: t ∧ c = [[0, a, b, d, e]]) ∨ (p = 1 ∧ ∃ m n most row, r = m :: n :: most :: (row.length : Int) :: (row ++ t) ∧ c = [[1, m, n, most], row]) ∨ (p = 2 ∧ t = r ∧ c = [[2]]) := by
  unfold PyFlat.call at h
  dsimp only at h
  by_cases h0 : p = 0
  · subst h0
    have e : PySn73.shape 0 = some (4, 0) := rfl
    rw [e] at h
    dsimp only at h
    split at h
    · cases h
    · rename_i hl
      match r, hl, h with
      | a :: b :: d :: e :: u, _, h =>
        simp [PyFlat.rows] at h
        obtain ⟨rfl, rfl⟩ := h
        exact .inl ⟨rfl, a, b, d, e, rfl, rfl⟩
      | [], hl, _ => simp at hl
      | [_], hl, _ => simp at hl
      | [_, _], hl, _ => simp at hl
      | [_, _, _], hl, _ => simp at hl
  by_cases h1 : p = 1
  · subst h1
    have e : PySn73.shape 1 = some (3, 1) := rfl
    rw [e] at h
    dsimp only at h
    split at h
    · cases h
    · rename_i hl
      match r, hl, h with
      | a :: b :: d :: u, _, h =>
        match u, h with
        | [], h => simp [PyFlat.rows, PyFlat.row] at h
        | n :: v, h =>
          simp only [List.drop_succ_cons, List.drop_zero, PyFlat.rows, PyFlat.row] at h
          by_cases hn : 0 ≤ n ∧ n.toNat ≤ v.length
          · rw [if_pos hn] at h
            simp at h
            obtain ⟨rfl, rfl⟩ := h
            refine .inr (.inl ⟨rfl, a, b, d, v.take n.toNat, ?_, rfl⟩)
            rw [List.take_append_drop, List.length_take, Nat.min_eq_left hn.2, Int.toNat_of_nonneg hn.1]
          · rw [if_neg hn] at h
            cases h
      | [], hl, _ => simp at hl
      | [_], hl, _ => simp at hl
      | [_, _], hl, _ => simp at hl
  by_cases h2 : p = 2
  · subst h2
    have e : PySn73.shape 2 = some (0, 0) := rfl
    rw [e] at h
    simp [PyFlat.rows] at h
    obtain ⟨rfl, rfl⟩ := h
    exact .inr (.inr ⟨rfl, rfl, rfl⟩)
  · have e : PySn73.shape p = none := by
      unfold PySn73.shape
      rw [if_neg h0, if_neg h1, if_neg h2]
    rw [e] at h
    cases h
/-- what is due of the calls from a state on -/
def due (s : Sn73Neutral.S) (cs : List (List (List Int))) : List Int := PyFlat.told (PyFlat.played Sn73Neutral.step s cs)
theorem due_nil (s : Sn73Neutral.S) : due s [] = [] := rfl
theorem due_cons (s : Sn73Neutral.S) (c : List (List Int)) (cs : List (List (List Int))) : due s (c :: cs) = (((Sn73Neutral.step s c).2.length : Int) :: (Sn73Neutral.step s c).2) ++ due (Sn73Neutral.step s c).1 cs := by
  unfold due
  show PyFlat.told ((Sn73Neutral.step s c).2 :: _) = _
  unfold PyFlat.told
  rw [List.flatMap_cons]
theorem fine_cons {s : Sn73Neutral.S} {c : List (List Int)} {cs : List (List (List Int))} (h : Sn73Neutral.fine s (c :: cs) = true) : Sn73Neutral.askedOne c = true ∧ Sn73Neutral.fine (Sn73Neutral.step s c).1 cs = true := by
  have h' : (Sn73Neutral.askedOne c && Sn73Neutral.fine (Sn73Neutral.step s c).1 cs) = true := h
  simpa using h'
/-- begin -/
def beg (r h g m : Int) : Bool := ((decide (1 ≤ r) && decide (r ≤ 64)) && (decide (1 ≤ h) && decide (h ≤ 1000))) && ((decide (1 ≤ g) && decide (g ≤ 1000)) && (decide (1 ≤ m) && decide (m ≤ 1000)))
theorem beg_iff {r h g m : Int} : beg r h g m = true ↔ (1 ≤ r ∧ r ≤ 64 ∧ 1 ≤ h ∧ h ≤ 1000 ∧ 1 ≤ g ∧ g ≤ 1000 ∧ 1 ≤ m ∧ m ≤ 1000) := by
  unfold beg
  simp only [Bool.and_eq_true, decide_eq_true_eq]
  omega
theorem right_iff {r h g m : Int} : (makeOf r h g m).right = true ↔ (1 ≤ r.toNat ∧ r.toNat ≤ 64 ∧ 1 ≤ h.toNat ∧ h.toNat ≤ 1000 ∧ 1 ≤ g.toNat ∧ g.toNat ≤ 1000 ∧ 1 ≤ m.toNat ∧ m.toNat ≤ 1000) := by
  unfold Make.right makeOf
  simp only [Bool.and_eq_true, decide_eq_true_eq]
theorem beg_bad {s : Sn73Neutral.S} {r h g m : Int} (hb : beg r h g m = false) : Sn73Neutral.step s [[0, r, h, g, m]] = (s, [-2]) := by
  show (let x := Sn73.step s (.begin_ r h g m); (x.1, x.2.value :: Sn73Neutral.ints x.2.out)) = _
  have e : Sn73.step s (.begin_ r h g m) = (s, { value := -2 }) := by
    show (if _ then _ else _) = _
    rw [if_pos]
    have a := (not_congr (beg_iff (r := r) (h := h) (g := g) (m := m))).mp (by rw [hb]; decide)
    by_cases q : (makeOf r h g m).right = true
    · have b := right_iff.mp q
      omega
    · exact .inr (.inr (.inr (.inr (by simpa using q))))
  rw [e]
  rfl
theorem beg_ok {s : Sn73Neutral.S} {r h g m : Int} (hb : beg r h g m = true) : Sn73Neutral.step s [[0, r, h, g, m]] = (some { make := ⟨r.toNat, h.toNat, g.toNat, m.toNat⟩, lower := g.toNat }, [0]) := by
  show (let x := Sn73.step s (.begin_ r h g m); (x.1, x.2.value :: Sn73Neutral.ints x.2.out)) = _
  have e : Sn73.step s (.begin_ r h g m) = (some { make := makeOf r h g m, lower := g.toNat }, { value := 0 }) := by
    show (if _ then _ else _) = _
    have a := beg_iff.mp hb
    have b : (makeOf r h g m).right = true := right_iff.mpr (by omega)
    rw [if_neg (by rintro (q | q | q | q | q); · omega
                   · omega
                   · omega
                   · omega
                   · rw [b] at q; cases q)]
  rw [e]
  rfl
theorem run_step (k : Lock) (m n most : Int) (row : List Int) : Sn73Neutral.step (some k) [[1, m, n, most], row] = ((Sn73.step (some k) (.run (Sn73Neutral.comings row) m n most)).1, (Sn73.step (some k) (.run (Sn73Neutral.comings row) m n most)).2.value :: Sn73Neutral.ints (Sn73.step (some k) (.run (Sn73Neutral.comings row) m n most)).2.out) := rfl
theorem state_step (k : Lock) : Sn73Neutral.step (some k) [[2]] = (some k, ([k.phase, k.level, k.lower, k.upper, k.inside.length, k.below.length, k.above.length, k.busy] : List Nat).map fun (x : Nat) => (x : Int)) := rfl
/-- the first call begins -/
theorem asked_first {cs : List (List (List Int))} (h : Sn73Neutral.asked cs = true) : Sn73Neutral.fine Sn73Neutral.start cs = true ∧ ∃ a r cs', cs = ((0 :: a) :: r) :: cs' ∧ (Sn73Neutral.step Sn73Neutral.start ((0 :: a) :: r)).2 = [0] := by
  unfold Sn73Neutral.asked at h
  rw [Bool.and_eq_true] at h
  refine ⟨h.2, ?_⟩
  have h1 := h.1
  split at h1
  · rename_i a r cs'
    exact ⟨a, r, cs', rfl, by simpa using h1⟩
  · cases h1
theorem row_of {m n most : Int} {row : List Int} (h : Sn73Neutral.askedOne [[1, m, n, most], row] = true) : row = flat (Sn73Neutral.comings row) ∧ (0 ≤ m → m ≤ 1024 → ((Sn73Neutral.comings row).length : Int) = m) := by
  have h' : (Sn73Neutral.int m && (Sn73Neutral.int n && (Sn73Neutral.int most && ((row.all Sn73Neutral.word && decide (row.length = 4 * Sn73Neutral.upTo m 0 1024)) && (Sn73Neutral.rowsOk row))))) = true := h
  simp only [Bool.and_eq_true, decide_eq_true_eq] at h'
  obtain ⟨_, _, _, ⟨_, hl⟩, hr⟩ := h'
  have e := flat_of row hr
  refine ⟨e, fun h0 h1 => ?_⟩
  have hl2 := flat_len (Sn73Neutral.comings row)
  rw [← e, hl] at hl2
  unfold Sn73Neutral.upTo at hl2
  rw [if_pos ⟨h0, h1⟩] at hl2
  omega
end M

namespace Ship
open PySem L2
open Sn73 (Lock Coming Event)
/-! ### the text by places -/
def top (i : Nat) : Stmt := PySem.Challenge.pw_shiplock_s01_answers.main.body.getD i (.Pass ⟨0, 0, 0, 0⟩)
abbrev s_init : Stmt := inClass (top 5) 0
abbrev s_twin : Stmt := inClass (top 5) 1
abbrev s_near : Stmt := inClass (top 5) 2
abbrev s_count : Stmt := inClass (top 5) 3
abbrev s_left : Stmt := inClass (top 5) 4
abbrev s_goon : Stmt := inClass (top 5) 5
abbrev s_arrive : Stmt := inClass (top 5) 6
abbrev s_turn : Stmt := inClass (top 5) 7
abbrev s_startm : Stmt := inClass (top 5) 8
abbrev s_endm : Stmt := inClass (top 5) 9
abbrev s_send : Stmt := inClass (top 5) 10
abbrev s_choose : Stmt := inClass (top 5) 11
abbrev s_take : Stmt := inClass (top 5) 12
abbrev s_state : Stmt := inClass (top 5) 13
abbrev s_pass : Stmt := top 6
abbrev s_within : Stmt := top 7
abbrev s_right : Stmt := top 8
abbrev s_dinit : Stmt := inClass (top 9) 0
abbrev s_begin : Stmt := inClass (top 9) 1
abbrev s_run : Stmt := inClass (top 9) 2
abbrev s_answer : Stmt := inClass (top 9) 3
abbrev s_clen : Stmt := top 10
abbrev s_answers : Stmt := top 11
theorem sc_init : FnScope ["self", "room", "high", "gate", "move"] ["self", "room", "high", "gate", "move"] (defScope s_init) := ⟨rfl, rfl, rfl, by decide +kernel, rfl, by decide +kernel, by decide +kernel⟩
theorem sc_twin : FnScope ["self", "other"] ["self"] (defScope s_twin) := ⟨rfl, rfl, rfl, by decide +kernel, rfl, by decide +kernel, by decide +kernel⟩
theorem sc_near : FnScope ["self"] ["self"] (defScope s_near) := ⟨rfl, rfl, rfl, by decide +kernel, rfl, by decide +kernel, by decide +kernel⟩
theorem sc_count : FnScope ["self", "moving"] ["self"] (defScope s_count) := ⟨rfl, rfl, rfl, by decide +kernel, rfl, by decide +kernel, by decide +kernel⟩
theorem sc_left : FnScope ["self", "stage"] ["self"] (defScope s_left) := ⟨rfl, rfl, rfl, by decide +kernel, rfl, by decide +kernel, by decide +kernel⟩
theorem sc_goon : FnScope ["self", "seconds", "stage"] ["self", "seconds"] (defScope s_goon) := ⟨rfl, rfl, rfl, by decide +kernel, rfl, by decide +kernel, by decide +kernel⟩
theorem sc_arrive : FnScope ["self", "second"] ["self", "second"] (defScope s_arrive) := ⟨rfl, rfl, rfl, by decide +kernel, rfl, by decide +kernel, by decide +kernel⟩
theorem sc_turn : FnScope ["self"] ["self"] (defScope s_turn) := ⟨rfl, rfl, rfl, by decide +kernel, rfl, by decide +kernel, by decide +kernel⟩
theorem sc_startm : FnScope ["self", "ship", "inward"] ["self", "ship", "inward"] (defScope s_startm) := ⟨rfl, rfl, rfl, by decide +kernel, rfl, by decide +kernel, by decide +kernel⟩
theorem sc_endm : FnScope ["self", "second", "ship", "side"] ["self", "second"] (defScope s_endm) := ⟨rfl, rfl, rfl, by decide +kernel, rfl, by decide +kernel, by decide +kernel⟩
theorem sc_send : FnScope ["self", "ship"] ["self"] (defScope s_send) := ⟨rfl, rfl, rfl, by decide +kernel, rfl, by decide +kernel, by decide +kernel⟩
theorem sc_choose : FnScope ["self", "side", "queue"] ["self"] (defScope s_choose) := ⟨rfl, rfl, rfl, by decide +kernel, rfl, by decide +kernel, by decide +kernel⟩
theorem sc_take : FnScope ["self", "comings", "place", "second"] ["self", "comings", "place", "second"] (defScope s_take) := ⟨rfl, rfl, rfl, by decide +kernel, rfl, by decide +kernel, by decide +kernel⟩
theorem sc_state : FnScope ["self", "below", "above"] ["self"] (defScope s_state) := ⟨rfl, rfl, rfl, by decide +kernel, rfl, by decide +kernel, by decide +kernel⟩
theorem sc_pass : FnScope ["lock", "n", "most", "comings", "told", "second", "place", "left", "step"] ["lock", "n", "most", "comings"] (defScope s_pass) := ⟨rfl, rfl, rfl, by decide +kernel, rfl, by decide +kernel, by decide +kernel⟩
theorem sc_within : FnScope ["value", "least", "greatest"] ["value", "least", "greatest"] (defScope s_within) := ⟨rfl, rfl, rfl, by decide +kernel, rfl, by decide +kernel, by decide +kernel⟩
theorem sc_right : FnScope ["comings", "n", "room", "earliest", "place"] ["comings", "n", "room"] (defScope s_right) := ⟨rfl, rfl, rfl, by decide +kernel, rfl, by decide +kernel, by decide +kernel⟩
theorem sc_dinit : FnScope ["self"] ["self"] (defScope s_dinit) := ⟨rfl, rfl, rfl, by decide +kernel, rfl, by decide +kernel, by decide +kernel⟩
theorem sc_begin : FnScope ["self", "room", "high", "gate", "move"] ["self", "room", "high", "gate", "move"] (defScope s_begin) := ⟨rfl, rfl, rfl, by decide +kernel, rfl, by decide +kernel, by decide +kernel⟩
theorem sc_run : FnScope ["self", "m", "n", "most", "comings", "later", "told"] ["self", "m", "n", "most", "comings"] (defScope s_run) := ⟨rfl, rfl, rfl, by decide +kernel, rfl, by decide +kernel, by decide +kernel⟩
theorem sc_answer : FnScope ["self", "call"] ["self", "call"] (defScope s_answer) := ⟨rfl, rfl, rfl, by decide +kernel, rfl, by decide +kernel, by decide +kernel⟩
theorem sc_clen : FnScope ["calls", "start"] ["calls", "start"] (defScope s_clen) := ⟨rfl, rfl, rfl, by decide +kernel, rfl, by decide +kernel, by decide +kernel⟩
theorem sc_answers : FnScope ["calls", "desk", "given", "start", "end", "answer"] ["calls"] (defScope s_answers) := ⟨rfl, rfl, rfl, by decide +kernel, rfl, by decide +kernel, by decide +kernel⟩
/-! ### a lock's attributes -/
structure LF where
  room : V
  high : V
  gate : V
  move : V
  phase : V
  water : V
  openings : V
  waiting : V
  chamber : V
  filled : V
  leaving : V
  mover : V
  inward : V
  to_go : V
def lf (f : LF) : List (Str × V) := [("room", f.room), ("high", f.high), ("gate", f.gate), ("move", f.move), ("phase", f.phase), ("water", f.water), ("openings", f.openings), ("waiting", f.waiting), ("chamber", f.chamber), ("filled", f.filled), ("leaving", f.leaving), ("mover", f.mover), ("inward", f.inward), ("to_go", f.to_go)]
theorem lk_room (f : LF) : (lf f).lookup ("room" : Str) = some f.room := by rfl
theorem pt_room (f : LF) (v : V) : putF "room" v (lf f) = lf { f with room := v } := by rfl
theorem lk_high (f : LF) : (lf f).lookup ("high" : Str) = some f.high := by rfl
theorem pt_high (f : LF) (v : V) : putF "high" v (lf f) = lf { f with high := v } := by rfl
theorem lk_gate (f : LF) : (lf f).lookup ("gate" : Str) = some f.gate := by rfl
theorem pt_gate (f : LF) (v : V) : putF "gate" v (lf f) = lf { f with gate := v } := by rfl
theorem lk_move (f : LF) : (lf f).lookup ("move" : Str) = some f.move := by rfl
theorem pt_move (f : LF) (v : V) : putF "move" v (lf f) = lf { f with move := v } := by rfl
theorem lk_phase (f : LF) : (lf f).lookup ("phase" : Str) = some f.phase := by rfl
theorem pt_phase (f : LF) (v : V) : putF "phase" v (lf f) = lf { f with phase := v } := by rfl
theorem lk_water (f : LF) : (lf f).lookup ("water" : Str) = some f.water := by rfl
theorem pt_water (f : LF) (v : V) : putF "water" v (lf f) = lf { f with water := v } := by rfl
theorem lk_openings (f : LF) : (lf f).lookup ("openings" : Str) = some f.openings := by rfl
theorem pt_openings (f : LF) (v : V) : putF "openings" v (lf f) = lf { f with openings := v } := by rfl
theorem lk_waiting (f : LF) : (lf f).lookup ("waiting" : Str) = some f.waiting := by rfl
theorem pt_waiting (f : LF) (v : V) : putF "waiting" v (lf f) = lf { f with waiting := v } := by rfl
theorem lk_chamber (f : LF) : (lf f).lookup ("chamber" : Str) = some f.chamber := by rfl
theorem pt_chamber (f : LF) (v : V) : putF "chamber" v (lf f) = lf { f with chamber := v } := by rfl
theorem lk_filled (f : LF) : (lf f).lookup ("filled" : Str) = some f.filled := by rfl
theorem pt_filled (f : LF) (v : V) : putF "filled" v (lf f) = lf { f with filled := v } := by rfl
theorem lk_leaving (f : LF) : (lf f).lookup ("leaving" : Str) = some f.leaving := by rfl
theorem pt_leaving (f : LF) (v : V) : putF "leaving" v (lf f) = lf { f with leaving := v } := by rfl
theorem lk_mover (f : LF) : (lf f).lookup ("mover" : Str) = some f.mover := by rfl
theorem pt_mover (f : LF) (v : V) : putF "mover" v (lf f) = lf { f with mover := v } := by rfl
theorem lk_inward (f : LF) : (lf f).lookup ("inward" : Str) = some f.inward := by rfl
theorem pt_inward (f : LF) (v : V) : putF "inward" v (lf f) = lf { f with inward := v } := by rfl
theorem lk_to_go (f : LF) : (lf f).lookup ("to_go" : Str) = some f.to_go := by rfl
theorem pt_to_go (f : LF) (v : V) : putF "to_go" v (lf f) = lf { f with to_go := v } := by rfl
theorem no_twin (f : LF) : (lf f).lookup ("twin" : Str) = none := by rfl
theorem no_near (f : LF) : (lf f).lookup ("near_side" : Str) = none := by rfl
theorem no_count (f : LF) : (lf f).lookup ("ship_count" : Str) = none := by rfl
theorem no_left (f : LF) : (lf f).lookup ("seconds_left" : Str) = none := by rfl
theorem no_goon (f : LF) : (lf f).lookup ("go_on" : Str) = none := by rfl
theorem no_arrive (f : LF) : (lf f).lookup ("arrive" : Str) = none := by rfl
theorem no_turn (f : LF) : (lf f).lookup ("turn_phase" : Str) = none := by rfl
theorem no_startm (f : LF) : (lf f).lookup ("start_ship_move" : Str) = none := by rfl
theorem no_endm (f : LF) : (lf f).lookup ("end_ship_move" : Str) = none := by rfl
theorem no_send (f : LF) : (lf f).lookup ("send_out" : Str) = none := by rfl
theorem no_choose (f : LF) : (lf f).lookup ("choose" : Str) = none := by rfl
theorem no_take (f : LF) : (lf f).lookup ("take_comings" : Str) = none := by rfl
theorem no_state (f : LF) : (lf f).lookup ("state" : Str) = none := by rfl
theorem lf_len (f : LF) : (lf f).length < 1000 := by show 14 < 1000; decide
/-- a desk's -/
def df (v : V) : List (Str × V) := [("lock", v)]
theorem dk_lock (v : V) : (df v).lookup ("lock" : Str) = some v := by rfl
theorem dp_lock (v u : V) : putF "lock" u (df v) = df u := by rfl
theorem dp_new (u : V) : putF "lock" u [] = df u := by rfl
theorem df_len (v : V) : (df v).length < 1000 := by show 1 < 1000; decide
theorem dn_begin (v : V) : (df v).lookup ("begin" : Str) = none := by rfl
theorem dn_run (v : V) : (df v).lookup ("run" : Str) = none := by rfl
theorem dn_answer (v : V) : (df v).lookup ("answer" : Str) = none := by rfl
/-! ### where a lock stands -/
structure Ad where
  p : Addr
  dx : Addr
  lo : Addr
  lw : Addr
  l0 : Addr
  l1 : Addr
  lc : Addr
structure Nd (A : Ad) : Prop where
  ow : A.lo ≠ A.lw
  o0 : A.lo ≠ A.l0
  o1 : A.lo ≠ A.l1
  oc : A.lo ≠ A.lc
  w0 : A.lw ≠ A.l0
  w1 : A.lw ≠ A.l1
  wc : A.lw ≠ A.lc
  z1 : A.l0 ≠ A.l1
  zc : A.l0 ≠ A.lc
  c1 : A.l1 ≠ A.lc
structure Raw (C : Addr) (H : Hp) (A : Ad) (f : LF) (a b : V) (x0 x1 xc : List V) : Prop where
  ob : H A.p = some (.ins C A.dx (lf f))
  op : H A.lo = some (.lst [a, b])
  wt : H A.lw = some (.lst [.ref A.l0, .ref A.l1])
  b0 : H A.l0 = some (.lst x0)
  b1 : H A.l1 = some (.lst x1)
  ch : H A.lc = some (.lst xc)
  nd : Nd A
/-- tuples stay -/
def TK (H H' : Hp) : Prop := ∀ t xs, H t = some (.tup xs) → H' t = some (.tup xs)
theorem TK.trans {H H1 H2 : Hp} (a : TK H H1) (b : TK H1 H2) : TK H H2 := fun t xs h => b t xs (a t xs h)
theorem TK.refl (H : Hp) : TK H H := fun _ _ h => h
theorem tk_lst {H : Hp} {a : Addr} {xs : List V} {o : HO} (h : H a = some (.lst xs)) : TK H (upd H a o) := fun t ys e => by rw [upd_ne (ne_of e h (by intro z; cases z))]; exact e
theorem tk_ins {H : Hp} {a C dx : Addr} {fs : List (Str × V)} {o : HO} (h : H a = some (.ins C dx fs)) : TK H (upd H a o) := fun t ys e => by rw [upd_ne (ne_of e h (by intro z; cases z))]; exact e
theorem tk_new {H : Hp} {a : Addr} {o : HO} (h : H a = none) : TK H (upd H a o) := fun t ys e => by rw [upd_ne (ne_of_none e h)]; exact e
theorem tk_same {H H' : Hp} (h : Same H H') : TK H H' := fun t xs e => h t _ e
theorem same_new {H : Hp} {a : Addr} {o : HO} (h : H a = none) : Same H (upd H a o) := fun b u e => by rw [upd_ne (ne_of_none e h)]; exact e
/-- what a call on the lock leaves as it was -/
def Fr (A : Ad) (H H' : Hp) : Prop := ∀ b o, H b = some o → b ≠ A.p → b ≠ A.lo → b ≠ A.l0 → b ≠ A.l1 → b ≠ A.lc → H' b = some o
theorem Fr.refl (A : Ad) (H : Hp) : Fr A H H := fun _ _ h _ _ _ _ _ => h
theorem Fr.trans {A : Ad} {H H1 H2 : Hp} (a : Fr A H H1) (b : Fr A H1 H2) : Fr A H H2 := fun c o h n1 n2 n3 n4 n5 => b c o (a c o h n1 n2 n3 n4 n5) n1 n2 n3 n4 n5
theorem fr_same {A : Ad} {H H' : Hp} (h : Same H H') : Fr A H H' := fun b o e _ _ _ _ _ => h b o e
theorem fr_p {A : Ad} {H : Hp} {o : HO} : Fr A H (upd H A.p o) := fun b u e n _ _ _ _ => by rw [upd_ne n]; exact e
theorem fr_o {A : Ad} {H : Hp} {o : HO} : Fr A H (upd H A.lo o) := fun b u e _ n _ _ _ => by rw [upd_ne n]; exact e
theorem fr_0 {A : Ad} {H : Hp} {o : HO} : Fr A H (upd H A.l0 o) := fun b u e _ _ n _ _ => by rw [upd_ne n]; exact e
theorem fr_1 {A : Ad} {H : Hp} {o : HO} : Fr A H (upd H A.l1 o) := fun b u e _ _ _ n _ => by rw [upd_ne n]; exact e
theorem fr_c {A : Ad} {H : Hp} {o : HO} : Fr A H (upd H A.lc o) := fun b u e _ _ _ _ n => by rw [upd_ne n]; exact e
section
variable {C : Addr} {H H' : Hp} {A : Ad} {f f' : LF} {a b a' b' : V} {x0 x1 xc ys : List V}
theorem Raw.po (R : Raw C H A f a b x0 x1 xc) : A.p ≠ A.lo := ne_of R.ob R.op (by intro z; cases z)
theorem Raw.pw (R : Raw C H A f a b x0 x1 xc) : A.p ≠ A.lw := ne_of R.ob R.wt (by intro z; cases z)
theorem Raw.p0 (R : Raw C H A f a b x0 x1 xc) : A.p ≠ A.l0 := ne_of R.ob R.b0 (by intro z; cases z)
theorem Raw.p1 (R : Raw C H A f a b x0 x1 xc) : A.p ≠ A.l1 := ne_of R.ob R.b1 (by intro z; cases z)
theorem Raw.pc (R : Raw C H A f a b x0 x1 xc) : A.p ≠ A.lc := ne_of R.ob R.ch (by intro z; cases z)
theorem Raw.same (R : Raw C H A f a b x0 x1 xc) (k : Same H H') : Raw C H' A f a b x0 x1 xc := ⟨k _ _ R.ob, k _ _ R.op, k _ _ R.wt, k _ _ R.b0, k _ _ R.b1, k _ _ R.ch, R.nd⟩
theorem Raw.setP (R : Raw C H A f a b x0 x1 xc) {fs : List (Str × V)} (e : fs = lf f') : Raw C (upd H A.p (.ins C A.dx fs)) A f' a b x0 x1 xc := by
  subst e
  exact ⟨upd_same, by rw [upd_ne R.po.symm]; exact R.op, by rw [upd_ne R.pw.symm]; exact R.wt, by rw [upd_ne R.p0.symm]; exact R.b0, by rw [upd_ne R.p1.symm]; exact R.b1, by rw [upd_ne R.pc.symm]; exact R.ch, R.nd⟩
theorem Raw.setO (R : Raw C H A f a b x0 x1 xc) (e : ys = [a', b']) : Raw C (upd H A.lo (.lst ys)) A f a' b' x0 x1 xc := by
  subst e
  exact ⟨by rw [upd_ne R.po]; exact R.ob, upd_same, by rw [upd_ne R.nd.ow.symm]; exact R.wt, by rw [upd_ne R.nd.o0.symm]; exact R.b0, by rw [upd_ne R.nd.o1.symm]; exact R.b1, by rw [upd_ne R.nd.oc.symm]; exact R.ch, R.nd⟩
theorem Raw.set0 (R : Raw C H A f a b x0 x1 xc) : Raw C (upd H A.l0 (.lst ys)) A f a b ys x1 xc :=
  ⟨by rw [upd_ne R.p0]; exact R.ob, by rw [upd_ne R.nd.o0]; exact R.op, by rw [upd_ne R.nd.w0]; exact R.wt, upd_same, by rw [upd_ne R.nd.z1.symm]; exact R.b1, by rw [upd_ne R.nd.zc.symm]; exact R.ch, R.nd⟩
theorem Raw.set1 (R : Raw C H A f a b x0 x1 xc) : Raw C (upd H A.l1 (.lst ys)) A f a b x0 ys xc :=
  ⟨by rw [upd_ne R.p1]; exact R.ob, by rw [upd_ne R.nd.o1]; exact R.op, by rw [upd_ne R.nd.w1]; exact R.wt, by rw [upd_ne R.nd.z1]; exact R.b0, upd_same, by rw [upd_ne R.nd.c1.symm]; exact R.ch, R.nd⟩
theorem Raw.setC (R : Raw C H A f a b x0 x1 xc) : Raw C (upd H A.lc (.lst ys)) A f a b x0 x1 ys :=
  ⟨by rw [upd_ne R.pc]; exact R.ob, by rw [upd_ne R.nd.oc]; exact R.op, by rw [upd_ne R.nd.wc]; exact R.wt, by rw [upd_ne R.nd.zc]; exact R.b0, by rw [upd_ne R.nd.c1]; exact R.b1, upd_same, R.nd⟩
theorem Raw.tk (R : Raw C H A f a b x0 x1 xc) (F : Fr A H H') : TK H H' := fun t xs e => F t _ e (ne_of e R.ob (by intro z; cases z)) (ne_of e R.op (by intro z; cases z)) (ne_of e R.b0 (by intro z; cases z)) (ne_of e R.b1 (by intro z; cases z)) (ne_of e R.ch (by intro z; cases z))
end
/-! ### ships -/
def ShipAt (H : Hp) (v : V) (s : Sn73.Ship) : Prop := ∃ t, v = .ref t ∧ H t = some (.tup [.int (s.id : Nat), .int (s.len : Nat)])
abbrev Ships (H : Hp) : List V → List Sn73.Ship → Prop := Paired (ShipAt H)
theorem ShipAt.keep {H H' : Hp} {v : V} {s : Sn73.Ship} (h : ShipAt H v s) (k : TK H H') : ShipAt H' v s := let ⟨t, e, q⟩ := h; ⟨t, e, k t _ q⟩
theorem Ships.keep {H H' : Hp} {xs : List V} {ss : List Sn73.Ship} (h : Ships H xs ss) (k : TK H H') : Ships H' xs ss := Paired.mapP h fun _ _ q => q.keep k
theorem Ships.len {H : Hp} {xs : List V} {ss : List Sn73.Ship} (h : Ships H xs ss) : xs.length = ss.length := Paired.length h
theorem Ships.append {H : Hp} : ∀ {xs ys : List V} {ss ts : List Sn73.Ship}, Ships H xs ss → Ships H ys ts → Ships H (xs ++ ys) (ss ++ ts)
  | _, _, _, _, .nil, q => q
  | _, _, _, _, .cons a b, q => .cons a (Ships.append b q)
/-- who is on the move -/
def Mv (H : Hp) : Option (Sn73.Ship × Bool) → V → Bool → Prop
  | none, v, _ => v = .non
  | some (s, b), v, i => i = b ∧ ShipAt H v s
theorem Mv.keep {H H' : Hp} {m : Option (Sn73.Ship × Bool)} {v : V} {i : Bool} (h : Mv H m v i) (k : TK H H') : Mv H' m v i := by
  cases m with
  | none => exact h
  | some q => obtain ⟨s, b⟩ := q; exact ⟨h.1, h.2.keep k⟩
def bas (A : Ad) (k : Lock) (mv : V) (inw : Bool) : LF :=
  ⟨.int (k.make.room : Nat), .int (k.make.high : Nat), .int (k.make.gate : Nat), .int (k.make.move : Nat), .int (k.phase : Nat), .int (k.level : Nat), .ref A.lo, .ref A.lw, .ref A.lc, .int (Sn73.filled k.inside : Nat), .int (k.out : Nat), mv, .bl inw, .int (k.busy : Nat)⟩
structure Full (C : Addr) (H : Hp) (A : Ad) (k : Lock) (mv : V) (inw : Bool) (x0 x1 xc : List V) : Prop where
  raw : Raw C H A (bas A k mv inw) (.int (k.lower : Nat)) (.int (k.upper : Nat)) x0 x1 xc
  s0 : Ships H x0 k.below
  s1 : Ships H x1 k.above
  sc : Ships H xc k.inside
  mv : Mv H k.moving mv inw
def LockAt (C : Addr) (H : Hp) (A : Ad) (k : Lock) : Prop := ∃ mv inw x0 x1 xc, Full C H A k mv inw x0 x1 xc
theorem LockAt.same {C : Addr} {H H' : Hp} {A : Ad} {k : Lock} (L : LockAt C H A k) (s : Same H H') : LockAt C H' A k :=
  let ⟨mv, inw, x0, x1, xc, F⟩ := L
  ⟨mv, inw, x0, x1, xc, F.raw.same s, F.s0.keep (tk_same s), F.s1.keep (tk_same s), F.sc.keep (tk_same s), F.mv.keep (tk_same s)⟩
/-! ### small words -/
theorem ifEqT {a b : Int} {A B : Prop} (h : a = b) (x : A) : if decide (V.int a = V.int b) = true then A else B := by
  rw [if_pos (by simp [h])]
  exact x
theorem ifEqF {a b : Int} {A B : Prop} (h : a ≠ b) (x : B) : if decide (V.int a = V.int b) = true then A else B := by
  rw [if_neg (by simp [h])]
  exact x
theorem ifT {c A B : Prop} [Decidable c] (h : c) (x : A) : if decide c = true then A else B := by
  rw [if_pos (by simp [h])]
  exact x
theorem ifF {c A B : Prop} [Decidable c] (h : ¬ c) (x : B) : if decide c = true then A else B := by
  rw [if_neg (by simp [h])]
  exact x
theorem at_z {xs : List V} {z : Int} {v : V} (j : Nat) (e : z = (j : Int)) (h : xs[j]? = some v) : atI xs z = some v := by
  rw [e]
  exact atI_nat h
/-- o[i], by values, of a tracked list -/
def rGetL : V → V → Hp → VK → Prop := fun o i H Q => ∃ p xs z, ∃ j : Nat, ∃ v, o = .ref p ∧ i = .int z ∧ H p = some (.lst xs) ∧ z = (j : Int) ∧ xs[j]? = some v ∧ Q v H
theorem get_list {X : Cx} : PGet X rGetL := by
  intro pins s σ H o i ov iv Q I ro ri h
  obtain ⟨p, xs, z, j, v, rfl, rfl, hp, rfl, hx, q⟩ := h
  cases ro
  obtain ⟨t, rfl⟩ := ri
  obtain ⟨its, n, r, ho, hz⟩ := I.lst hp
  obtain ⟨u, hu, ru⟩ := r.get hx
  have hl := r.length
  have hj : j < xs.length := (List.getElem?_eq_some_iff.mp hx).1
  have hn := line63
  exact wpAny_getItem_list ⟨_, ho, rfl, _, rfl⟩ (by omega) (by omega) (by simpa using hu) ⟨v, H, I, ru, q⟩
theorem ix_ok {n j : Nat} {z : Int} (e : z = (j : Int)) (h : j < n) : ixN n z = some j := by
  subst e
  unfold ixN
  rw [if_pos (by omega), if_pos (by omega)]
  simp
/-! ### what the top has made -/
structure Adr where
  C : Addr
  D : Addr
  f_init : Addr
  d_init : FuncData
  f_twin : Addr
  d_twin : FuncData
  f_near : Addr
  d_near : FuncData
  f_count : Addr
  d_count : FuncData
  f_left : Addr
  d_left : FuncData
  f_goon : Addr
  d_goon : FuncData
  f_arrive : Addr
  d_arrive : FuncData
  f_turn : Addr
  d_turn : FuncData
  f_startm : Addr
  d_startm : FuncData
  f_endm : Addr
  d_endm : FuncData
  f_send : Addr
  d_send : FuncData
  f_choose : Addr
  d_choose : FuncData
  f_take : Addr
  d_take : FuncData
  f_state : Addr
  d_state : FuncData
  f_pass : Addr
  d_pass : FuncData
  f_within : Addr
  d_within : FuncData
  f_right : Addr
  d_right : FuncData
  f_dinit : Addr
  d_dinit : FuncData
  f_begin : Addr
  d_begin : FuncData
  f_run : Addr
  d_run : FuncData
  f_answer : Addr
  d_answer : FuncData
  f_clen : Addr
  d_clen : FuncData
  f_answers : Addr
  d_answers : FuncData
structure Txt (K : PySem.W.Frag) (mg : Str → Option Value) (a : Adr) : Prop where
  cl : Cls K a.C
  clD : Cls K a.D
  n_room : NoAttr K a.C "room"
  n_high : NoAttr K a.C "high"
  n_gate : NoAttr K a.C "gate"
  n_move : NoAttr K a.C "move"
  n_phase : NoAttr K a.C "phase"
  n_water : NoAttr K a.C "water"
  n_openings : NoAttr K a.C "openings"
  n_waiting : NoAttr K a.C "waiting"
  n_chamber : NoAttr K a.C "chamber"
  n_filled : NoAttr K a.C "filled"
  n_leaving : NoAttr K a.C "leaving"
  n_mover : NoAttr K a.C "mover"
  n_inward : NoAttr K a.C "inward"
  n_to_go : NoAttr K a.C "to_go"
  n_lock : NoAttr K a.D "lock"
  mgC : mg "Lock" = some (.ref a.C)
  mgD : mg "Desk" = some (.ref a.D)
  z_len : mg "len" = none
  z_list : mg "list" = none
  z_min : mg "min" = none
  z_range : mg "range" = none
  c_WRONG_VALUE : ∃ t, mg "WRONG_VALUE" = some (.int (-2) t)
  c_TOO_MUCH_TO_TELL : ∃ t, mg "TOO_MUCH_TO_TELL" = some (.int (-3) t)
  c_TOO_MANY_SHIPS : ∃ t, mg "TOO_MANY_SHIPS" = some (.int (-4) t)
  c_MOST_SHIPS : ∃ t, mg "MOST_SHIPS" = some (.int (4096) t)
  mkC : Mk K a.C a.f_init
  mkD : Mk K a.D a.f_dinit
  F_init : Fun K "__init__" "Lock.__init__" s_init a.f_init a.d_init
  b_init : Binds K a.d_init ["self", "room", "high", "gate", "move"] []
  F_twin : Fun K "twin" "Lock.twin" s_twin a.f_twin a.d_twin
  b_twin : Binds K a.d_twin ["self"] []
  m_twin : Meth K a.C "twin" a.f_twin
  F_near : Fun K "near_side" "Lock.near_side" s_near a.f_near a.d_near
  b_near : Binds K a.d_near ["self"] []
  m_near : Meth K a.C "near_side" a.f_near
  F_count : Fun K "ship_count" "Lock.ship_count" s_count a.f_count a.d_count
  b_count : Binds K a.d_count ["self"] []
  m_count : Meth K a.C "ship_count" a.f_count
  F_left : Fun K "seconds_left" "Lock.seconds_left" s_left a.f_left a.d_left
  b_left : Binds K a.d_left ["self"] []
  m_left : Meth K a.C "seconds_left" a.f_left
  F_goon : Fun K "go_on" "Lock.go_on" s_goon a.f_goon a.d_goon
  b_goon : Binds K a.d_goon ["self", "seconds"] []
  m_goon : Meth K a.C "go_on" a.f_goon
  F_arrive : Fun K "arrive" "Lock.arrive" s_arrive a.f_arrive a.d_arrive
  b_arrive : Binds K a.d_arrive ["self", "second"] []
  m_arrive : Meth K a.C "arrive" a.f_arrive
  F_turn : Fun K "turn_phase" "Lock.turn_phase" s_turn a.f_turn a.d_turn
  b_turn : Binds K a.d_turn ["self"] []
  m_turn : Meth K a.C "turn_phase" a.f_turn
  F_startm : Fun K "start_ship_move" "Lock.start_ship_move" s_startm a.f_startm a.d_startm
  b_startm : Binds K a.d_startm ["self", "ship", "inward"] []
  m_startm : Meth K a.C "start_ship_move" a.f_startm
  F_endm : Fun K "end_ship_move" "Lock.end_ship_move" s_endm a.f_endm a.d_endm
  b_endm : Binds K a.d_endm ["self", "second"] []
  m_endm : Meth K a.C "end_ship_move" a.f_endm
  F_send : Fun K "send_out" "Lock.send_out" s_send a.f_send a.d_send
  b_send : Binds K a.d_send ["self"] []
  m_send : Meth K a.C "send_out" a.f_send
  F_choose : Fun K "choose" "Lock.choose" s_choose a.f_choose a.d_choose
  b_choose : Binds K a.d_choose ["self"] []
  m_choose : Meth K a.C "choose" a.f_choose
  F_take : Fun K "take_comings" "Lock.take_comings" s_take a.f_take a.d_take
  b_take : Binds K a.d_take ["self", "comings", "place", "second"] []
  m_take : Meth K a.C "take_comings" a.f_take
  F_state : Fun K "state" "Lock.state" s_state a.f_state a.d_state
  b_state : Binds K a.d_state ["self"] []
  m_state : Meth K a.C "state" a.f_state
  F_pass : Fun K "pass_seconds" "pass_seconds" s_pass a.f_pass a.d_pass
  b_pass : Binds K a.d_pass ["lock", "n", "most", "comings"] []
  g_pass : mg "pass_seconds" = some (.ref a.f_pass)
  F_within : Fun K "within" "within" s_within a.f_within a.d_within
  b_within : Binds K a.d_within ["value", "least", "greatest"] []
  g_within : mg "within" = some (.ref a.f_within)
  F_right : Fun K "comings_are_right" "comings_are_right" s_right a.f_right a.d_right
  b_right : Binds K a.d_right ["comings", "n", "room"] []
  g_right : mg "comings_are_right" = some (.ref a.f_right)
  F_dinit : Fun K "__init__" "Desk.__init__" s_dinit a.f_dinit a.d_dinit
  b_dinit : Binds K a.d_dinit ["self"] []
  F_begin : Fun K "begin" "Desk.begin" s_begin a.f_begin a.d_begin
  b_begin : Binds K a.d_begin ["self", "room", "high", "gate", "move"] []
  m_begin : Meth K a.D "begin" a.f_begin
  F_run : Fun K "run" "Desk.run" s_run a.f_run a.d_run
  b_run : Binds K a.d_run ["self", "m", "n", "most", "comings"] []
  m_run : Meth K a.D "run" a.f_run
  F_answer : Fun K "answer" "Desk.answer" s_answer a.f_answer a.d_answer
  b_answer : Binds K a.d_answer ["self", "call"] []
  m_answer : Meth K a.D "answer" a.f_answer
  F_clen : Fun K "call_length" "call_length" s_clen a.f_clen a.d_clen
  b_clen : Binds K a.d_clen ["calls", "start"] []
  g_clen : mg "call_length" = some (.ref a.f_clen)
  F_answers : Fun K "answers" "answers" s_answers a.f_answers a.d_answers
end Ship

namespace Ship
open PySem L2
open Sn73 (Lock Coming Event)
abbrev iV : Nat → V := fun n => .int (n : Int)
theorem free_upd {H : Hp} {a l : Addr} {o : HO} (h : upd H a o l = none) : H l = none := by
  by_cases e : l = a
  · rw [e, upd_same] at h; cases h
  · rw [upd_ne e] at h; exact h
section
variable {P : Program} {w : World} {K : PySem.W.Frag} {mg : Str → Option Value} {base : Heap} {a : Adr}
/-! ### near_side -/
def sp_near (C : Addr) : Sp := fun vs H Q _ => ∃ (p dx : Addr) (f : LF) (ph : Int), vs = [.ref p] ∧ H p = some (.ins C dx (lf f)) ∧ f.phase = .int ph ∧ Q (.int (ph / 4)) H
theorem ok_near (T : Txt K mg a) : FnOk P w K mg base CX0 1 a.f_near a.d_near ["self"] (sp_near a.C) := by
  refine T.F_near.ok sc_near (fun vs H Q E h => ?_) (fun cdv Ar outer s H vs Q E hr h => ?_)
  · obtain ⟨p, dx, f, ph, rfl, _⟩ := h
    rfl
  · obtain ⟨p, dx, f, ph, rfl, hp, e, k⟩ := h
    refine ⟨_, pss_one (ps_ret (pe_op op_fdiv (pe_fld (pv 0) rfl) pe_int)), ?_⟩
    exact ⟨_, rfl, _, _, _, _, _, rfl, hp, T.cl, T.n_phase, (lk_phase f).trans (congrArg some e), _, _, rfl, rfl, ⟨by decide, by decide⟩, k⟩
/-! ### ship_count -/
def sp_count (C : Addr) : Sp := fun vs H Q _ => ∃ (A : Ad) (k : Lock), vs = [.ref A.p] ∧ LockAt C H A k ∧ (k.moving = none ↔ k.busy = 0) ∧ Q (.int (k.count : Nat)) H
theorem ok_count (T : Txt K mg a) : FnOk P w K mg base CX0 1 a.f_count a.d_count ["self"] (sp_count a.C) := by
  refine T.F_count.ok sc_count (fun vs H Q E h => ?_) (fun cdv Ar outer s H vs Q E hr h => ?_)
  · obtain ⟨A, k, rfl, _⟩ := h
    rfl
  · obtain ⟨A, k, rfl, ⟨mv, inw, x0, x1, xc, L⟩, hm, kq⟩ := h
    have R := L.raw
    have e0 := L.s0.len
    have e1 := L.s1.len
    have ec := L.sc.len
    refine ⟨_, pss_cons (ps_set (i := 1) sc_count.nd rfl (Or.inl rfl) (pe_ifExp (pt_cmpR op_gt (pe_fld (pv 0) rfl) pe_int (nomark _)) pe_int pe_int))
      (pss_one (ps_ret (pe_op op_add (pe_op op_add (pe_op op_add (pe_callB call_len_seq (by rfl) T.z_len PySem.boot_len (pa_cons (pe_ix ix_list (pe_fld (pv 0) rfl) pe_int (fun _ _ => rfl)) pa_nil)) (pe_callB call_len_seq (by rfl) T.z_len PySem.boot_len (pa_cons (pe_ix ix_list (pe_fld (pv 0) rfl) pe_int (fun _ _ => rfl)) pa_nil))) (pe_callB call_len_seq (by rfl) T.z_len PySem.boot_len (pa_cons (pe_fld (pv 0) rfl) pa_nil))) (pv 1)))), ?_⟩
    refine ⟨_, rfl, _, _, _, _, _, rfl, R.ob, T.cl, T.n_to_go, lk_to_go _, _, _, rfl, rfl, _, rfl, ?_⟩
    by_cases hb : k.busy = 0
    · refine ifF (by omega) ?_
      have hn := hm.mpr hb
      have e : ((k.count : Nat) : Int) = (x0.length : Int) + (x1.length : Int) + (xc.length : Int) + 0 := by
        unfold Lock.count
        rw [if_pos hn, e0, e1, ec]
        omega
      rw [e] at kq
      exact ⟨_, rfl, _, _, _, _, _, rfl, R.ob, T.cl, T.n_waiting, lk_waiting _, _, _, _, _, rfl, rfl, SqL.of R.wt, at_z 0 rfl rfl, _, _, rfl, .inl (SqL.of R.b0), _, rfl, _, _, _, _, _, rfl, R.ob, T.cl, T.n_waiting, lk_waiting _, _, _, _, _, rfl, rfl, SqL.of R.wt, at_z 1 rfl rfl, _, _, rfl, .inl (SqL.of R.b1), _, _, rfl, rfl, _, rfl, _, _, _, _, _, rfl, R.ob, T.cl, T.n_chamber, lk_chamber _, _, _, rfl, .inl (SqL.of R.ch), _, _, rfl, rfl, _, rfl, _, _, rfl, rfl, kq⟩
    · refine ifT (by omega) ?_
      have hn : ¬ k.moving = none := fun z => hb (hm.mp z)
      have e : ((k.count : Nat) : Int) = (x0.length : Int) + (x1.length : Int) + (xc.length : Int) + 1 := by
        unfold Lock.count
        rw [if_neg hn, e0, e1, ec]
        omega
      rw [e] at kq
      exact ⟨_, rfl, _, _, _, _, _, rfl, R.ob, T.cl, T.n_waiting, lk_waiting _, _, _, _, _, rfl, rfl, SqL.of R.wt, at_z 0 rfl rfl, _, _, rfl, .inl (SqL.of R.b0), _, rfl, _, _, _, _, _, rfl, R.ob, T.cl, T.n_waiting, lk_waiting _, _, _, _, _, rfl, rfl, SqL.of R.wt, at_z 1 rfl rfl, _, _, rfl, .inl (SqL.of R.b1), _, _, rfl, rfl, _, rfl, _, _, _, _, _, rfl, R.ob, T.cl, T.n_chamber, lk_chamber _, _, _, rfl, .inl (SqL.of R.ch), _, _, rfl, rfl, _, rfl, _, _, rfl, rfl, kq⟩
/-! ### seconds_left -/
theorem phases {k : Lock} (g : M.Good k) : k.phase = 0 ∨ k.phase = 1 ∨ k.phase = 2 ∨ k.phase = 3 ∨ k.phase = 4 ∨ k.phase = 5 ∨ k.phase = 6 ∨ k.phase = 7 := by have := g.phase; omega
def sp_left (C : Addr) : Sp := fun vs H Q _ => ∃ (A : Ad) (k : Lock), vs = [.ref A.p] ∧ LockAt C H A k ∧ M.Good k ∧ Q (.int (M.left k : Nat)) H
theorem ok_left (T : Txt K mg a) : FnOk P w K mg base CX0 2 a.f_left a.d_left ["self"] (sp_left a.C) := by
  refine T.F_left.ok sc_left (fun vs H Q E h => ?_) (fun cdv Ar outer s H vs Q E hr h => ?_)
  · obtain ⟨A, k, rfl, _⟩ := h
    rfl
  · obtain ⟨A, k, rfl, ⟨mv, inw, x0, x1, xc, L⟩, g, kq⟩ := h
    have R := L.raw
    have gp := g.ph
    refine ⟨_, pss_cons (ps_set (i := 1) sc_left.nd rfl (Or.inl rfl) (pe_op op_mod (pe_fld (pv 0) rfl) pe_int))
      (pss_cons (ps_if (pt_cmpR op_eq (pv 1) pe_int (nomark _)) (pss_one (ps_ret (pe_fld (pv 0) rfl))) pss_nil)
      (pss_cons (ps_if (pt_cmpR op_eq (pv 1) pe_int (nomark _)) (pss_one (ps_ret (pe_ix ix_list (pe_fld (pv 0) rfl) (pe_meth0 (pv 0) T.cl T.m_near (ok_near T) (hr.mono (by decide)) T.b_near .nil pass0) (fun _ _ => rfl)))) pss_nil)
      (pss_cons (ps_if (pt_cmpR op_eq (pv 1) pe_int (nomark _)) (pss_one (ps_ret (pe_ifExp (pt_cmpR op_eq (pe_fld (pv 0) rfl) pe_int (nomark _)) (pe_op op_sub (pe_fld (pv 0) rfl) (pe_fld (pv 0) rfl)) (pe_fld (pv 0) rfl)))) pss_nil)
      (pss_one (ps_ret (pe_op op_sub (pe_fld (pv 0) rfl) (pe_ix ix_list (pe_fld (pv 0) rfl) (pe_op op_sub pe_int (pe_meth0 (pv 0) T.cl T.m_near (ok_near T) (hr.mono (by decide)) T.b_near .nil pass0)) (fun _ _ => rfl)))))))), ?_⟩
    refine ⟨_, rfl, _, _, _, _, _, rfl, R.ob, T.cl, T.n_phase, lk_phase _, _, _, rfl, rfl, (by show (0 : Int) < 4; decide), _, rfl, rfl, _, rfl, ?_⟩
    have st0 : k.phase = 0 ∨ k.phase = 4 → M.left k = k.busy := fun h => by rcases h with h | h <;> simp [M.left, h]
    rcases phases g with e | e | e | e | e | e | e | e
    · refine ifEqT (by omega) ?_
      rw [st0 (by omega)] at kq
      exact ⟨_, rfl, _, _, _, _, _, rfl, R.ob, T.cl, T.n_to_go, lk_to_go _, kq⟩
    · refine ifEqF (by omega) ⟨_, rfl, rfl, _, rfl, ifEqT (by omega) ?_⟩
      have el : M.left k = k.lower := by simp [M.left, e]
      rw [el] at kq
      exact ⟨_, rfl, _, _, _, _, _, rfl, R.ob, T.cl, T.n_openings, lk_openings _, _, rfl, _, _, _, rfl, R.ob, no_near _, _, _, _, _, rfl, R.ob, rfl, _, _, _, _, rfl, rfl, SqL.of R.op, at_z 0 (by omega) rfl, kq⟩
    · refine ifEqF (by omega) ⟨_, rfl, rfl, _, rfl, ifEqF (by omega) ⟨_, rfl, rfl, _, rfl, ifEqT (by omega) ⟨_, rfl, _, _, _, _, _, rfl, R.ob, T.cl, T.n_phase, lk_phase _, rfl, _, rfl, ifEqT (by omega) ?_⟩⟩⟩
      have el : ((M.left k : Nat) : Int) = (k.make.high : Int) - (k.level : Int) := by
        have : M.left k = k.make.high - k.level := by simp [M.left, e]
        omega
      rw [el] at kq
      exact ⟨_, rfl, _, _, _, _, _, rfl, R.ob, T.cl, T.n_high, lk_high _, _, rfl, _, _, _, _, _, rfl, R.ob, T.cl, T.n_water, lk_water _, _, _, rfl, rfl, kq⟩
    · refine ifEqF (by omega) ⟨_, rfl, rfl, _, rfl, ifEqF (by omega) ⟨_, rfl, rfl, _, rfl, ifEqF (by omega) ?_⟩⟩
      have el : ((M.left k : Nat) : Int) = (k.make.gate : Int) - (k.upper : Int) := by
        have : M.left k = k.make.gate - k.upper := by simp [M.left, e]
        omega
      rw [el] at kq
      exact ⟨_, rfl, _, _, _, _, _, rfl, R.ob, T.cl, T.n_gate, lk_gate _, _, rfl, _, _, _, _, _, rfl, R.ob, T.cl, T.n_openings, lk_openings _, _, rfl, _, _, _, rfl, R.ob, no_near _, _, _, _, _, rfl, R.ob, rfl, _, _, rfl, rfl, _, _, _, _, rfl, rfl, SqL.of R.op, at_z 1 (by omega) rfl, _, _, rfl, rfl, kq⟩
    · refine ifEqT (by omega) ?_
      rw [st0 (by omega)] at kq
      exact ⟨_, rfl, _, _, _, _, _, rfl, R.ob, T.cl, T.n_to_go, lk_to_go _, kq⟩
    · refine ifEqF (by omega) ⟨_, rfl, rfl, _, rfl, ifEqT (by omega) ?_⟩
      have el : M.left k = k.upper := by simp [M.left, e]
      rw [el] at kq
      exact ⟨_, rfl, _, _, _, _, _, rfl, R.ob, T.cl, T.n_openings, lk_openings _, _, rfl, _, _, _, rfl, R.ob, no_near _, _, _, _, _, rfl, R.ob, rfl, _, _, _, _, rfl, rfl, SqL.of R.op, at_z 1 (by omega) rfl, kq⟩
    · refine ifEqF (by omega) ⟨_, rfl, rfl, _, rfl, ifEqF (by omega) ⟨_, rfl, rfl, _, rfl, ifEqT (by omega) ⟨_, rfl, _, _, _, _, _, rfl, R.ob, T.cl, T.n_phase, lk_phase _, rfl, _, rfl, ifEqF (by omega) ?_⟩⟩⟩
      have el : M.left k = k.level := by simp [M.left, e]
      rw [el] at kq
      exact ⟨_, rfl, _, _, _, _, _, rfl, R.ob, T.cl, T.n_water, lk_water _, kq⟩
    · refine ifEqF (by omega) ⟨_, rfl, rfl, _, rfl, ifEqF (by omega) ⟨_, rfl, rfl, _, rfl, ifEqF (by omega) ?_⟩⟩
      have el : ((M.left k : Nat) : Int) = (k.make.gate : Int) - (k.lower : Int) := by
        have : M.left k = k.make.gate - k.lower := by simp [M.left, e]
        omega
      rw [el] at kq
      exact ⟨_, rfl, _, _, _, _, _, rfl, R.ob, T.cl, T.n_gate, lk_gate _, _, rfl, _, _, _, _, _, rfl, R.ob, T.cl, T.n_openings, lk_openings _, _, rfl, _, _, _, rfl, R.ob, no_near _, _, _, _, _, rfl, R.ob, rfl, _, _, rfl, rfl, _, _, _, _, rfl, rfl, SqL.of R.op, at_z 0 (by omega) rfl, _, _, rfl, rfl, kq⟩
/-! ### go_on -/
def sp_goon (C : Addr) : Sp := fun vs H Q _ => ∃ (A : Ad) (k : Lock) (d : Nat), vs = [.ref A.p, .int (d : Int)] ∧ LockAt C H A k ∧ M.Good k ∧ d ≤ M.left k ∧ ∀ H' : Hp, LockAt C H' A (M.goOn k d) → Fr A H H' → Q .non H'
theorem ok_goon (T : Txt K mg a) : FnOk P w K mg base CX0 2 a.f_goon a.d_goon ["self", "seconds"] (sp_goon a.C) := by
  refine T.F_goon.ok sc_goon (fun vs H Q E h => ?_) (fun cdv Ar outer s H vs Q E hr h => ?_)
  · obtain ⟨A, k, d, rfl, _⟩ := h
    rfl
  · obtain ⟨A, k, d, rfl, ⟨mv, inw, x0, x1, xc, L⟩, g, hd, kq⟩ := h
    have R := L.raw
    have gp := g.ph
    have tkp : ∀ o, TK H (upd H A.p o) := fun o => tk_ins R.ob
    have tko : ∀ o, TK H (upd H A.lo o) := fun o => tk_lst R.op
    refine ⟨_, pss_cons (ps_set (i := 2) sc_goon.nd rfl (Or.inl rfl) (pe_op op_mod (pe_fld (pv 0) rfl) pe_int))
      (pss_one (ps_if (pt_cmpR op_eq (pv 2) pe_int (nomark _)) (pss_one (ps_fldaug (pv 0) (pv 1) in_sub))
      (pss_one (ps_if (pt_cmpR op_eq (pv 2) pe_int (nomark _)) (pss_one (ps_augS (pe_fld (pv 0) rfl) (pe_meth0 (pv 0) T.cl T.m_near (ok_near T) (hr.mono (by decide)) T.b_near .nil pass0) get_list (pv 1) ip_sub set_list))
      (pss_one (ps_if (pt_cmpR op_eq (pv 2) pe_int (nomark _)) (pss_one (ps_fldaug (pv 0) (pe_ifExp (pt_cmpR op_eq (pe_fld (pv 0) rfl) pe_int (nomark _)) (pv 1) (pe_un un_neg (pv 1))) in_add))
      (pss_one (ps_augS (pe_fld (pv 0) rfl) (pe_op op_sub pe_int (pe_meth0 (pv 0) T.cl T.m_near (ok_near T) (hr.mono (by decide)) T.b_near .nil pass0)) get_list (pv 1) ip_add set_list)))))))), ?_⟩
    refine ⟨_, rfl, _, _, _, _, _, rfl, R.ob, T.cl, T.n_phase, lk_phase _, _, _, rfl, rfl, (by show (0 : Int) < 4; decide), _, rfl, rfl, _, rfl, ?_⟩
    rcases phases g with e | e | e | e | e | e | e | e
    · refine ifEqT (by omega) ?_
      have el : M.left k = k.busy := by simp [M.left, e]
      have eg : M.goOn k d = { k with busy := k.busy - d } := by simp [M.goOn, e]
      have ei : (k.busy : Int) - (d : Int) = ((k.busy - d : Nat) : Int) := by omega
      refine ⟨_, rfl, _, _, _, _, _, rfl, R.ob, T.cl, T.n_to_go, lk_to_go _, _, rfl, _, _, rfl, rfl, _, _, R.ob, lf_len _, ?_⟩
      refine kq _ ?_ fr_p
      rw [eg]
      exact ⟨mv, inw, x0, x1, xc, R.setP (by rw [ei]; rfl), L.s0.keep (tkp _), L.s1.keep (tkp _), L.sc.keep (tkp _), L.mv.keep (tkp _)⟩
    · refine ifEqF (by omega) ⟨_, rfl, rfl, _, rfl, ifEqT (by omega) ?_⟩
      have el : M.left k = k.lower := by simp [M.left, e]
      have eg : M.goOn k d = { k with lower := k.lower - d } := by simp [M.goOn, e]
      have ei : (k.lower : Int) - (d : Int) = ((k.lower - d : Nat) : Int) := by omega
      refine ⟨_, rfl, _, _, _, _, _, rfl, R.ob, T.cl, T.n_openings, lk_openings _, _, rfl, _, _, _, rfl, R.ob, no_near _, _, _, _, _, rfl, R.ob, rfl, _, _, _, 0, _, rfl, rfl, R.op, (by omega), rfl, _, rfl, _, _, rfl, rfl, _, _, _, 0, rfl, rfl, R.op, ix_ok (by omega) (by show 0 < 2; decide), ?_⟩
      refine kq _ ?_ fr_o
      rw [eg]
      exact ⟨mv, inw, x0, x1, xc, R.setO (by dsimp only; rw [ei]; rfl), L.s0.keep (tko _), L.s1.keep (tko _), L.sc.keep (tko _), L.mv.keep (tko _)⟩
    · refine ifEqF (by omega) ⟨_, rfl, rfl, _, rfl, ifEqF (by omega) ⟨_, rfl, rfl, _, rfl, ifEqT (by omega) ?_⟩⟩
      have el : M.left k = k.make.high - k.level := by simp [M.left, e]
      have eg : M.goOn k d = { k with level := k.level + d } := by simp [M.goOn, e]
      have ei : (k.level : Int) + (d : Int) = ((k.level + d : Nat) : Int) := by omega
      refine ⟨_, rfl, _, _, _, _, _, rfl, R.ob, T.cl, T.n_water, lk_water _, _, rfl, _, _, _, _, _, rfl, R.ob, T.cl, T.n_phase, lk_phase _, rfl, _, rfl, ifEqT (by omega) ⟨_, rfl, _, _, rfl, rfl, _, _, R.ob, lf_len _, ?_⟩⟩
      refine kq _ ?_ fr_p
      rw [eg]
      exact ⟨mv, inw, x0, x1, xc, R.setP (by rw [ei]; rfl), L.s0.keep (tkp _), L.s1.keep (tkp _), L.sc.keep (tkp _), L.mv.keep (tkp _)⟩
    · refine ifEqF (by omega) ⟨_, rfl, rfl, _, rfl, ifEqF (by omega) ⟨_, rfl, rfl, _, rfl, ifEqF (by omega) ?_⟩⟩
      have eg : M.goOn k d = { k with upper := k.upper + d } := by simp [M.goOn, e]
      have ei : (k.upper : Int) + (d : Int) = ((k.upper + d : Nat) : Int) := by omega
      refine ⟨_, rfl, _, _, _, _, _, rfl, R.ob, T.cl, T.n_openings, lk_openings _, _, rfl, _, _, _, rfl, R.ob, no_near _, _, _, _, _, rfl, R.ob, rfl, _, _, rfl, rfl, _, _, _, 1, _, rfl, rfl, R.op, (by omega), rfl, _, rfl, _, _, rfl, rfl, _, _, _, 1, rfl, rfl, R.op, ix_ok (by omega) (by show 1 < 2; decide), ?_⟩
      refine kq _ ?_ fr_o
      rw [eg]
      exact ⟨mv, inw, x0, x1, xc, R.setO (by dsimp only; rw [ei]; rfl), L.s0.keep (tko _), L.s1.keep (tko _), L.sc.keep (tko _), L.mv.keep (tko _)⟩
    · refine ifEqT (by omega) ?_
      have el : M.left k = k.busy := by simp [M.left, e]
      have eg : M.goOn k d = { k with busy := k.busy - d } := by simp [M.goOn, e]
      have ei : (k.busy : Int) - (d : Int) = ((k.busy - d : Nat) : Int) := by omega
      refine ⟨_, rfl, _, _, _, _, _, rfl, R.ob, T.cl, T.n_to_go, lk_to_go _, _, rfl, _, _, rfl, rfl, _, _, R.ob, lf_len _, ?_⟩
      refine kq _ ?_ fr_p
      rw [eg]
      exact ⟨mv, inw, x0, x1, xc, R.setP (by rw [ei]; rfl), L.s0.keep (tkp _), L.s1.keep (tkp _), L.sc.keep (tkp _), L.mv.keep (tkp _)⟩
    · refine ifEqF (by omega) ⟨_, rfl, rfl, _, rfl, ifEqT (by omega) ?_⟩
      have el : M.left k = k.upper := by simp [M.left, e]
      have eg : M.goOn k d = { k with upper := k.upper - d } := by simp [M.goOn, e]
      have ei : (k.upper : Int) - (d : Int) = ((k.upper - d : Nat) : Int) := by omega
      refine ⟨_, rfl, _, _, _, _, _, rfl, R.ob, T.cl, T.n_openings, lk_openings _, _, rfl, _, _, _, rfl, R.ob, no_near _, _, _, _, _, rfl, R.ob, rfl, _, _, _, 1, _, rfl, rfl, R.op, (by omega), rfl, _, rfl, _, _, rfl, rfl, _, _, _, 1, rfl, rfl, R.op, ix_ok (by omega) (by show 1 < 2; decide), ?_⟩
      refine kq _ ?_ fr_o
      rw [eg]
      exact ⟨mv, inw, x0, x1, xc, R.setO (by dsimp only; rw [ei]; rfl), L.s0.keep (tko _), L.s1.keep (tko _), L.sc.keep (tko _), L.mv.keep (tko _)⟩
    · refine ifEqF (by omega) ⟨_, rfl, rfl, _, rfl, ifEqF (by omega) ⟨_, rfl, rfl, _, rfl, ifEqT (by omega) ?_⟩⟩
      have el : M.left k = k.level := by simp [M.left, e]
      have eg : M.goOn k d = { k with level := k.level - d } := by simp [M.goOn, e]
      have ei : (k.level : Int) + (-(d : Int)) = ((k.level - d : Nat) : Int) := by omega
      refine ⟨_, rfl, _, _, _, _, _, rfl, R.ob, T.cl, T.n_water, lk_water _, _, rfl, _, _, _, _, _, rfl, R.ob, T.cl, T.n_phase, lk_phase _, rfl, _, rfl, ifEqF (by omega) ⟨_, rfl, _, rfl, _, _, rfl, rfl, _, _, R.ob, lf_len _, ?_⟩⟩
      refine kq _ ?_ fr_p
      rw [eg]
      exact ⟨mv, inw, x0, x1, xc, R.setP (by rw [ei]; rfl), L.s0.keep (tkp _), L.s1.keep (tkp _), L.sc.keep (tkp _), L.mv.keep (tkp _)⟩
    · refine ifEqF (by omega) ⟨_, rfl, rfl, _, rfl, ifEqF (by omega) ⟨_, rfl, rfl, _, rfl, ifEqF (by omega) ?_⟩⟩
      have eg : M.goOn k d = { k with lower := k.lower + d } := by simp [M.goOn, e]
      have ei : (k.lower : Int) + (d : Int) = ((k.lower + d : Nat) : Int) := by omega
      refine ⟨_, rfl, _, _, _, _, _, rfl, R.ob, T.cl, T.n_openings, lk_openings _, _, rfl, _, _, _, rfl, R.ob, no_near _, _, _, _, _, rfl, R.ob, rfl, _, _, rfl, rfl, _, _, _, 0, _, rfl, rfl, R.op, (by omega), rfl, _, rfl, _, _, rfl, rfl, _, _, _, 0, rfl, rfl, R.op, ix_ok (by omega) (by show 0 < 2; decide), ?_⟩
      refine kq _ ?_ fr_o
      rw [eg]
      exact ⟨mv, inw, x0, x1, xc, R.setO (by dsimp only; rw [ei]; rfl), L.s0.keep (tko _), L.s1.keep (tko _), L.sc.keep (tko _), L.mv.keep (tko _)⟩
end
end Ship

namespace Ship
open PySem L2
open Sn73 (Lock Coming Event)
section
variable {P : Program} {w : World} {K : PySem.W.Frag} {mg : Str → Option Value} {base : Heap} {a : Adr}
/-! ### turn_phase -/
def sp_turn (C : Addr) : Sp := fun vs H Q _ => ∃ (A : Ad) (k : Lock), vs = [.ref A.p] ∧ LockAt C H A k ∧ k.phase ≤ 7 ∧ ∀ H' : Hp, LockAt C H' A (M.turn k) → Fr A H H' → Q .non H'
theorem ok_turn (T : Txt K mg a) : FnOk P w K mg base CX0 1 a.f_turn a.d_turn ["self"] (sp_turn a.C) := by
  refine T.F_turn.ok sc_turn (fun vs H Q E h => ?_) (fun cdv Ar outer s H vs Q E hr h => ?_)
  · obtain ⟨A, k, rfl, _⟩ := h
    rfl
  · obtain ⟨A, k, rfl, ⟨mv, inw, x0, x1, xc, L⟩, hp, kq⟩ := h
    have R := L.raw
    have ec := L.sc.len
    refine ⟨_, pss_cons (ps_fld (pv 0) (pe_op op_mod (pe_op op_add (pe_fld (pv 0) rfl) pe_int) pe_int) rfl)
      (pss_one (ps_if (pt_cmpR op_eq (pe_op op_mod (pe_fld (pv 0) rfl) pe_int) pe_int (nomark _)) (pss_one (ps_fld (pv 0) (pe_callB call_len_seq (by rfl) T.z_len PySem.boot_len (pa_cons (pe_fld (pv 0) rfl) pa_nil)) rfl)) pss_nil)), ?_⟩
    refine ⟨_, rfl, _, _, _, _, _, rfl, R.ob, T.cl, T.n_phase, lk_phase _, _, _, rfl, rfl, _, _, rfl, rfl, (by show (0 : Int) < 8; decide), _, rfl, _, _, _, _, rfl, R.ob, T.cl, T.n_phase, lf_len _, ?_⟩
    have R1 := R.setP (pt_phase (bas A k mv inw) (.int (((k.phase : Int) + 1) % 8)))
    have t1 : TK H (upd H A.p (.ins a.C A.dx (putF "phase" (.int (((k.phase : Int) + 1) % 8)) (lf (bas A k mv inw))))) := tk_ins R.ob
    refine ⟨_, rfl, _, _, _, _, _, rfl, R1.ob, T.cl, T.n_phase, lk_phase _, _, _, rfl, rfl, (by show (0 : Int) < 4; decide), rfl, _, rfl, ?_⟩
    by_cases e : k.phase = 3 ∨ k.phase = 7
    · refine ifEqT (by show ((k.phase : Int) + 1) % 8 % 4 = 0; omega) ?_
      refine ⟨_, rfl, _, _, _, _, _, rfl, R1.ob, T.cl, T.n_chamber, lk_chamber _, _, _, rfl, .inl (SqL.of R1.ch), _, rfl, _, _, _, _, rfl, R1.ob, T.cl, T.n_leaving, lf_len _, ?_⟩
      have eg : M.turn k = { k with phase := (k.phase + 1) % 8, out := k.inside.length } := by
        unfold M.turn
        rcases e with e | e
        · rw [if_pos e, e]
        · rw [if_neg (by omega), if_pos e, e]
      have ei : ((k.phase : Int) + 1) % 8 = (((k.phase + 1) % 8 : Nat) : Int) := by omega
      refine kq _ ?_ (fr_p.trans fr_p)
      rw [eg]
      have t2 := t1.trans (tk_ins (o := .ins a.C A.dx (putF "leaving" (.int (xc.length : Nat)) (lf { bas A k mv inw with phase := .int (((k.phase : Int) + 1) % 8) }))) R1.ob)
      exact ⟨mv, inw, x0, x1, xc, R1.setP (by (try dsimp only); rw [ei, ec]; rfl), L.s0.keep t2, L.s1.keep t2, L.sc.keep t2, L.mv.keep t2⟩
    · refine ifEqF (by show ((k.phase : Int) + 1) % 8 % 4 ≠ 0; omega) ?_
      have eg : M.turn k = { k with phase := k.phase + 1 } := by
        unfold M.turn
        rw [if_neg (by omega), if_neg (by omega)]
      have ei : ((k.phase : Int) + 1) % 8 = ((k.phase + 1 : Nat) : Int) := by omega
      refine kq _ ?_ fr_p
      rw [eg]
      exact ⟨mv, inw, x0, x1, xc, R.setP (by dsimp only; rw [ei]; rfl), L.s0.keep t1, L.s1.keep t1, L.sc.keep t1, L.mv.keep t1⟩
/-! ### start_ship_move -/
def sp_startm (C : Addr) : Sp := fun vs H Q _ => ∃ (A : Ad) (k : Lock) (v : V) (s : Sn73.Ship) (b : Bool), vs = [.ref A.p, v, .bl b] ∧ LockAt C H A k ∧ ShipAt H v s ∧
  ∀ H' : Hp, LockAt C H' A { k with moving := some (s, b), busy := k.make.move } → Fr A H H' → Q .non H'
theorem ok_startm (T : Txt K mg a) : FnOk P w K mg base CX0 1 a.f_startm a.d_startm ["self", "ship", "inward"] (sp_startm a.C) := by
  refine T.F_startm.ok sc_startm (fun vs H Q E h => ?_) (fun cdv Ar outer s H vs Q E hr h => ?_)
  · obtain ⟨A, k, v, s, b, rfl, _⟩ := h
    rfl
  · obtain ⟨A, k, v, sh, b, rfl, ⟨mv, inw, x0, x1, xc, L⟩, hs, kq⟩ := h
    have R := L.raw
    refine ⟨_, pss_cons (ps_fld (pv 0) (pv 1) rfl) (pss_cons (ps_fld (pv 0) (pv 2) rfl) (pss_one (ps_fld (pv 0) (pe_fld (pv 0) rfl) rfl))), ?_⟩
    refine ⟨_, rfl, _, rfl, _, _, _, _, rfl, R.ob, T.cl, T.n_mover, lf_len _, ?_⟩
    have R1 := R.setP (pt_mover (bas A k mv inw) v)
    have t1 : TK H (upd H A.p (.ins a.C A.dx (putF "mover" v (lf (bas A k mv inw))))) := tk_ins R.ob
    refine ⟨_, rfl, _, rfl, _, _, _, _, rfl, R1.ob, T.cl, T.n_inward, lf_len _, ?_⟩
    have R2 := R1.setP (pt_inward { bas A k mv inw with mover := v } (.bl b))
    have t2 := t1.trans (tk_ins (o := .ins a.C A.dx (putF "inward" (.bl b) (lf { bas A k mv inw with mover := v }))) R1.ob)
    refine ⟨_, rfl, _, _, _, _, _, rfl, R2.ob, T.cl, T.n_move, lk_move _, _, rfl, _, _, _, _, rfl, R2.ob, T.cl, T.n_to_go, lf_len _, ?_⟩
    have R3 := R2.setP (pt_to_go { bas A k mv inw with mover := v, inward := .bl b } (.int (k.make.move : Nat)))
    have t3 := t2.trans (tk_ins (o := .ins a.C A.dx (putF "to_go" (.int (k.make.move : Nat)) (lf { bas A k mv inw with mover := v, inward := .bl b }))) R2.ob)
    exact kq _ ⟨v, b, x0, x1, xc, R3, L.s0.keep t3, L.s1.keep t3, L.sc.keep t3, rfl, hs.keep t3⟩ ((fr_p.trans fr_p).trans fr_p)
/-! ### end_ship_move -/
def sp_endm (C : Addr) : Sp := fun vs H Q _ => ∃ (A : Ad) (k : Lock) (sec : Nat) (s : Sn73.Ship) (b : Bool), vs = [.ref A.p, .int (sec : Int)] ∧ LockAt C H A k ∧ k.moving = some (s, b) ∧ (k.phase = 0 ∨ k.phase = 4) ∧ k.inside.length < sizeLine ∧
  ∀ (H' : Hp) (l : Addr), LockAt C H' A (M.endMove k).1 → Fr A H H' → H l = none → H' l = some (.lst ((M.tells sec (M.endMove k).2).map iV)) → Q (.ref l) H'
theorem ok_endm (T : Txt K mg a) : FnOk P w K mg base CX0 2 a.f_endm a.d_endm ["self", "second"] (sp_endm a.C) := by
  refine T.F_endm.ok sc_endm (fun vs H Q E h => ?_) (fun cdv Ar outer s H vs Q E hr h => ?_)
  · obtain ⟨A, k, sec, s, b, rfl, _⟩ := h
    rfl
  · obtain ⟨A, k, sec, sh, b, rfl, ⟨mv, inw, x0, x1, xc, L⟩, hmv, hp, hin, kq⟩ := h
    have R := L.raw
    have ec := L.sc.len
    have hm := L.mv
    rw [hmv] at hm
    obtain ⟨rfl, t, rfl, ht⟩ := hm
    refine ⟨_, pss_cons (ps_set (i := 2) sc_endm.nd rfl (Or.inl rfl) (pe_fld (pv 0) rfl))
      (pss_cons (ps_fld (pv 0) pe_non rfl)
      (pss_cons (ps_set (i := 3) sc_endm.nd rfl (Or.inl rfl) (pe_meth0 (pv 0) T.cl T.m_near (ok_near T) (hr.mono (by decide)) T.b_near .nil pass0))
      (pss_cons (ps_if (pt_val (pe_fld (pv 0) rfl))
        (pss_cons (ps_expr (pe_bm PySem.F.plainAttrs_list PySem.F.slot_list_append PySem.F.type_list_append mt_append (pe_fld (pv 0) rfl) (pa_cons (pv 2) pa_nil)))
        (pss_cons (ps_fldaug (pv 0) (pe_ix ix_tup (pv 2) pe_int (fun _ _ => rfl)) in_add)
        (pss_one (ps_ret (pe_lst (pa_cons (pe_op op_add (pe_op op_mul pe_int (pv 1)) (pe_op op_mul pe_int (pv 3))) (pa_cons (pe_ix ix_tup (pv 2) pe_int (fun _ _ => rfl)) pa_nil)))))))
        pss_nil)
      (pss_one (ps_ret (pe_lst (pa_cons (pe_op op_sub (pe_op op_add (pe_op op_mul pe_int (pv 1)) pe_int) (pe_op op_mul pe_int (pv 3))) (pa_cons (pe_ix ix_tup (pv 2) pe_int (fun _ _ => rfl)) pa_nil)))))))), ?_⟩
    refine ⟨_, rfl, _, _, _, _, _, rfl, R.ob, T.cl, T.n_mover, lk_mover _, _, rfl, _, _, _, _, rfl, R.ob, T.cl, T.n_mover, lf_len _, ?_⟩
    have R1 := R.setP (pt_mover (bas A k (.ref t) inw) .non)
    have t1 : TK H (upd H A.p (.ins a.C A.dx (putF "mover" .non (lf (bas A k (.ref t) inw))))) := tk_ins R.ob
    have ht1 := t1 _ _ ht
    refine ⟨_, rfl, _, _, _, rfl, R1.ob, no_near _, _, _, _, _, rfl, R1.ob, rfl, _, rfl, _, _, _, _, _, rfl, R1.ob, T.cl, T.n_inward, lk_inward _, _, rfl, ?_⟩
    cases inw with
    | true =>
      refine iteT ⟨_, rfl, _, _, _, _, _, rfl, R1.ob, T.cl, T.n_chamber, lk_chamber _, .inl ⟨rfl, _, SqL.of R1.ch⟩, _, rfl, _, _, _, rfl, rfl, R1.ch, (by omega), ?_⟩
      have R2 := R1.setC (ys := xc ++ [.ref t])
      have t2 := t1.trans (tk_lst (o := .lst (xc ++ [.ref t])) R1.ch)
      have ht2 := t2 _ _ ht
      refine ⟨_, rfl, _, _, _, _, _, rfl, R2.ob, T.cl, T.n_filled, lk_filled _, _, rfl, _, _, _, _, rfl, rfl, SqT.of ht2, at_z 1 rfl rfl, _, _, rfl, rfl, _, _, R2.ob, lf_len _, ?_⟩
      have ef : ((Sn73.filled k.inside : Nat) : Int) + ((sh.len : Nat) : Int) = ((Sn73.filled (k.inside ++ [sh]) : Nat) : Int) := by
        unfold Sn73.filled
        rw [List.map_append, List.sum_append]
        simp
      have R3 := R2.setP (f' := { bas A k (.ref t) true with mover := .non, filled := .int (Sn73.filled (k.inside ++ [sh]) : Nat) }) (show putF "filled" (.int ((Sn73.filled k.inside : Nat) + (sh.len : Nat))) (lf { bas A k (.ref t) true with mover := .non }) = _ by rw [ef]; rfl)
      have t3 := t2.trans (tk_ins (o := .ins a.C A.dx (putF "filled" (.int ((Sn73.filled k.inside : Nat) + (sh.len : Nat))) (lf { bas A k (.ref t) true with mover := .non }))) R2.ob)
      have ht3 := t3 _ _ ht
      refine ⟨_, rfl, _, _, rfl, rfl, .inl ⟨by decide, by decide⟩, _, rfl, _, _, rfl, rfl, .inl ⟨by decide, by decide⟩, _, _, rfl, rfl, _, rfl, _, _, _, _, rfl, rfl, SqT.of ht3, at_z 0 rfl rfl, (by show 2 ≤ sizeLine; decide), fun l hl => ?_⟩
      have eg : M.endMove k = ({ k with moving := none, inside := k.inside ++ [sh] }, [⟨2 * (if k.phase = 0 then 0 else 1), sh.id⟩]) := by
        unfold M.endMove
        rw [hmv]
      have e4 : (4 : Int) * (sec : Int) + 2 * ((k.phase : Int) / 4) = ((4 * sec + 2 * (if k.phase = 0 then 0 else 1) : Nat) : Int) := by
        rcases hp with hp | hp
        · rw [if_pos hp]; omega
        · rw [if_neg (by omega)]; omega
      refine kq _ l ?_ ((((fr_p (o := _)).trans fr_c).trans fr_p).trans (fr_same (same_new hl))) (free_upd (free_upd (free_upd hl))) ?_
      · rw [eg]
        have t4 := t3.trans (tk_new (o := .lst [.int (4 * (sec : Int) + 2 * ((k.phase : Int) / 4)), .int (sh.id : Nat)]) hl)
        refine ⟨.non, true, x0, x1, xc ++ [.ref t], ?_, L.s0.keep t4, L.s1.keep t4, (L.sc.keep t4).append (.cons ⟨t, rfl, t4 _ _ ht⟩ .nil), rfl⟩
        exact (R3.same (same_new hl))
      · rw [eg, upd_same]
        dsimp only
        rw [e4]
        rfl
    | false =>
      refine iteF ⟨_, rfl, _, _, rfl, rfl, .inl ⟨by decide, by decide⟩, _, _, rfl, rfl, _, rfl, _, _, rfl, rfl, .inl ⟨by decide, by decide⟩, _, _, rfl, rfl, _, rfl, _, _, _, _, rfl, rfl, SqT.of ht1, at_z 0 rfl rfl, (by show 2 ≤ sizeLine; decide), fun l hl => ?_⟩
      have eg : M.endMove k = ({ k with moving := none }, [⟨if k.phase = 0 then 3 else 1, sh.id⟩]) := by
        unfold M.endMove
        rw [hmv]
      have e4 : (4 : Int) * (sec : Int) + 3 - 2 * ((k.phase : Int) / 4) = ((4 * sec + (if k.phase = 0 then 3 else 1) : Nat) : Int) := by
        rcases hp with hp | hp
        · rw [if_pos hp]; omega
        · rw [if_neg (by omega)]; omega
      refine kq _ l ?_ ((fr_p (o := _)).trans (fr_same (same_new hl))) (free_upd hl) ?_
      · rw [eg]
        have t4 := t1.trans (tk_new (o := .lst [.int (4 * (sec : Int) + 3 - 2 * ((k.phase : Int) / 4)), .int (sh.id : Nat)]) hl)
        exact ⟨.non, false, x0, x1, xc, R1.same (same_new hl), L.s0.keep t4, L.s1.keep t4, L.sc.keep t4, rfl⟩
      · rw [eg, upd_same]
        dsimp only
        rw [e4]
        rfl
/-! ### send_out -/
theorem ix0 {n : Nat} (h : 0 < n) : seqIndex? (0 : Int) n = some 0 := by
  rw [seqIndex_of (by decide) (by omega)]
  rfl
def sp_send (C : Addr) : Sp := fun vs H Q _ => ∃ (A : Ad) (k : Lock) (s : Sn73.Ship) (r : List Sn73.Ship), vs = [.ref A.p] ∧ LockAt C H A k ∧ 0 < k.out ∧ k.inside = s :: r ∧
  ∀ H' : Hp, LockAt C H' A { k with out := k.out - 1, inside := r, moving := some (s, false), busy := k.make.move } → Fr A H H' → Q .non H'
theorem ok_send (T : Txt K mg a) : FnOk P w K mg base CX0 2 a.f_send a.d_send ["self"] (sp_send a.C) := by
  refine T.F_send.ok sc_send (fun vs H Q E h => ?_) (fun cdv Ar outer s H vs Q E hr h => ?_)
  · obtain ⟨A, k, s, r, rfl, _⟩ := h
    rfl
  · obtain ⟨A, k, sh, r, rfl, ⟨mv, inw, x0, x1, xc, L⟩, ho, hi, kq⟩ := h
    have R := L.raw
    have hs := L.sc
    rw [hi] at hs
    cases hs with
    | @cons v _ vr _ h1 h2 =>
      obtain ⟨t, rfl, ht⟩ := h1
      refine ⟨_, pss_cons (ps_set (i := 1) sc_send.nd rfl (Or.inl rfl) (pe_bm PySem.F.plainAttrs_list PySem.F.slot_list_pop PySem.F.type_list_pop mt_popAt (pe_fld (pv 0) rfl) (pa_cons pe_int pa_nil)))
        (pss_cons (ps_fldaug (pv 0) (pe_ix ix_tup (pv 1) pe_int (fun _ _ => rfl)) in_sub)
        (pss_cons (ps_fldaug (pv 0) pe_int in_sub)
        (pss_one (ps_expr (pe_meth (pv 0) T.cl T.m_startm (ok_startm T) (hr.mono (by decide)) T.b_startm .nil pass0 (pa_cons (pv 1) (pa_cons pe_bl pa_nil))))))), ?_⟩
      refine ⟨_, rfl, _, _, _, _, _, rfl, R.ob, T.cl, T.n_chamber, lk_chamber _, .inl ⟨rfl, _, SqL.of R.ch⟩, _, _, _, 0, _, rfl, rfl, R.ch, (by decide), (by decide), ix0 (by simp), rfl, ?_⟩
      have R1 := R.setC (ys := vr)
      have t1 : TK H (upd H A.lc (.lst vr)) := tk_lst R.ch
      have ht1 := t1 _ _ ht
      refine ⟨_, rfl, _, _, _, _, _, rfl, R1.ob, T.cl, T.n_filled, lk_filled _, _, rfl, _, _, _, _, rfl, rfl, SqT.of ht1, at_z 1 rfl rfl, _, _, rfl, rfl, _, _, R1.ob, lf_len _, ?_⟩
      have ef : ((Sn73.filled k.inside : Nat) : Int) - ((sh.len : Nat) : Int) = ((Sn73.filled r : Nat) : Int) := by
        rw [hi]
        unfold Sn73.filled
        rw [List.map_cons, List.sum_cons]
        omega
      have eo : ((k.out : Nat) : Int) - 1 = ((k.out - 1 : Nat) : Int) := by omega
      have R2 := R1.setP (f' := { bas A k mv inw with filled := .int (Sn73.filled r : Nat) }) (show putF "filled" (.int ((Sn73.filled k.inside : Nat) - (sh.len : Nat))) (lf (bas A k mv inw)) = _ by rw [ef]; rfl)
      have t2 := t1.trans (tk_ins (o := .ins a.C A.dx (putF "filled" (.int ((Sn73.filled k.inside : Nat) - (sh.len : Nat))) (lf (bas A k mv inw)))) R1.ob)
      refine ⟨_, rfl, _, _, _, _, _, rfl, R2.ob, T.cl, T.n_leaving, lk_leaving _, _, _, rfl, rfl, _, _, R2.ob, lf_len _, ?_⟩
      have R3 := R2.setP (f' := { bas A k mv inw with filled := .int (Sn73.filled r : Nat), leaving := .int (k.out - 1 : Nat) }) (show putF "leaving" (.int ((k.out : Nat) - 1)) (lf { bas A k mv inw with filled := .int (Sn73.filled r : Nat) }) = _ by rw [eo]; rfl)
      have t3 := t2.trans (tk_ins (o := .ins a.C A.dx (putF "leaving" (.int ((k.out : Nat) - 1)) (lf { bas A k mv inw with filled := .int (Sn73.filled r : Nat) }))) R2.ob)
      refine ⟨_, rfl, _, _, _, rfl, R3.ob, no_startm _, _, rfl, A, { k with out := k.out - 1, inside := r }, .ref t, sh, false, rfl, ?_, ⟨t, rfl, t3 _ _ ht⟩, fun H' L' F' => ?_⟩
      · exact ⟨mv, inw, x0, x1, vr, R3, L.s0.keep t3, L.s1.keep t3, Ships.keep h2 t3, L.mv.keep t3⟩
      · exact kq H' L' (((fr_c.trans fr_p).trans fr_p).trans F')
/-! ### arrive -/
def sp_arrive (C : Addr) : Sp := fun vs H Q _ => ∃ (A : Ad) (k : Lock) (sec : Nat), vs = [.ref A.p, .int (sec : Int)] ∧ LockAt C H A k ∧ k.phase ≤ 7 ∧ ((k.phase = 0 ∨ k.phase = 4) → k.moving ≠ none) ∧ k.inside.length < sizeLine ∧
  ∀ (H' : Hp) (l : Addr), LockAt C H' A (M.arrive k).1 → Fr A H H' → H l = none → H' l = some (.lst ((M.tells sec (M.arrive k).2).map iV)) → Q (.ref l) H'
theorem ok_arrive (T : Txt K mg a) : FnOk P w K mg base CX0 3 a.f_arrive a.d_arrive ["self", "second"] (sp_arrive a.C) := by
  refine T.F_arrive.ok sc_arrive (fun vs H Q E h => ?_) (fun cdv Ar outer s H vs Q E hr h => ?_)
  · obtain ⟨A, k, sec, rfl, _⟩ := h
    rfl
  · obtain ⟨A, k, sec, rfl, hL, hp, hmv, hin, kq⟩ := h
    obtain ⟨mv, inw, x0, x1, xc, L⟩ := id hL
    have R := L.raw
    refine ⟨_, pss_cons (ps_if (pt_cmpR op_eq (pe_op op_mod (pe_fld (pv 0) rfl) pe_int) pe_int (nomark _)) (pss_one (ps_ret (pe_meth (pv 0) T.cl T.m_endm (ok_endm T) (hr.mono (by decide)) T.b_endm .nil pass0 (pa_cons (pv 1) pa_nil)))) pss_nil)
      (pss_cons (ps_expr (pe_meth0 (pv 0) T.cl T.m_turn (ok_turn T) (hr.mono (by decide)) T.b_turn .nil pass0)) (pss_one (ps_ret (pe_lst pa_nil)))), ?_⟩
    refine ⟨_, rfl, _, _, _, _, _, rfl, R.ob, T.cl, T.n_phase, lk_phase _, _, _, rfl, rfl, (by show (0 : Int) < 4; decide), rfl, _, rfl, ?_⟩
    by_cases e : k.phase = 0 ∨ k.phase = 4
    · refine ifEqT (by show (k.phase : Int) % 4 = 0; omega) ?_
      cases em : k.moving with
      | none => exact absurd em (hmv e)
      | some q =>
        obtain ⟨sh, b⟩ := q
        have eg : M.arrive k = M.endMove k := by unfold M.arrive; rw [if_pos e]
        refine ⟨_, rfl, _, _, _, rfl, R.ob, no_endm _, _, rfl, A, k, sec, sh, b, rfl, hL, em, e, hin, fun H' l L' F' n' h' => ?_⟩
        exact kq H' l (by rw [eg]; exact L') F' n' (by rw [eg]; exact h')
    · refine ifEqF (by show (k.phase : Int) % 4 ≠ 0; omega) ?_
      have eg : M.arrive k = (M.turn k, []) := by unfold M.arrive; rw [if_neg e]
      refine ⟨_, rfl, _, _, _, rfl, R.ob, no_turn _, A, k, rfl, hL, hp, fun H' L' F' => ?_⟩
      refine ⟨(by show 0 ≤ sizeLine; decide), fun l hl => ?_⟩
      refine kq _ l (by rw [eg]; exact L'.same (same_new hl)) (F'.trans (fr_same (same_new hl))) ?_ (by rw [eg, upd_same]; rfl)
      cases q : H l with
      | none => rfl
      | some o =>
        obtain ⟨mv', inw', y0, y1, yc, L2⟩ := L'
        have R2 := L2.raw
        have := F' l o q (fun z => by rw [z, R2.ob] at hl; cases hl) (fun z => by rw [z, R2.op] at hl; cases hl) (fun z => by rw [z, R2.b0] at hl; cases hl) (fun z => by rw [z, R2.b1] at hl; cases hl) (fun z => by rw [z, R2.ch] at hl; cases hl)
        rw [hl] at this
        cases this
/-! ### choose -/
def sp_choose (C : Addr) : Sp := fun vs H Q _ => ∃ (A : Ad) (k : Lock), vs = [.ref A.p] ∧ LockAt C H A k ∧ M.Good k ∧ (k.phase = 0 ∨ k.phase = 4) ∧ k.busy = 0 ∧
  ∀ (H' : Hp) (b : Bool), LockAt C H' A k.atGate.1 → Fr A H H' → (b = false → M.Idle k) → Q (.bl b) H'
theorem ok_choose (T : Txt K mg a) : FnOk P w K mg base CX0 3 a.f_choose a.d_choose ["self"] (sp_choose a.C) := by
  refine T.F_choose.ok sc_choose (fun vs H Q E h => ?_) (fun cdv Ar outer s H vs Q E hr h => ?_)
  · obtain ⟨A, k, rfl, _⟩ := h
    rfl
  · obtain ⟨A, k, rfl, hL, g, hp, hb, kq⟩ := h
    obtain ⟨mv, inw, x0, x1, xc, L⟩ := id hL
    have R := L.raw
    have hm : k.moving = none := g.mv.mpr hb
    have ec := L.sc.len
    refine ⟨_, pss_cons (ps_set (i := 1) sc_choose.nd rfl (Or.inl rfl) (pe_meth0 (pv 0) T.cl T.m_near (ok_near T) (hr.mono (by decide)) T.b_near .nil pass0))
      (pss_cons (ps_set (i := 2) sc_choose.nd rfl (Or.inl rfl) (pe_ix ix_list (pe_fld (pv 0) rfl) (pv 1) (fun _ _ => rfl)))
      (pss_cons (ps_if (pt_cmpR op_gt (pe_fld (pv 0) rfl) pe_int (nomark _)) (pss_one (ps_expr (pe_meth0 (pv 0) T.cl T.m_send (ok_send T) (hr.mono (by decide)) T.b_send .nil pass0)))
        (pss_one (ps_if (pw_and (pt_cmpR op_gt (pe_callB call_len_seq (by rfl) T.z_len PySem.boot_len (pa_cons (pv 2) pa_nil)) pe_int (nomark _)) (pw_and1 (pt_cmpR op_le (pe_op op_add (pe_fld (pv 0) rfl) (pe_ix ix_tup (pe_ix ix_list (pv 2) pe_int (fun _ _ => rfl)) pe_int (fun _ _ => rfl))) (pe_fld (pv 0) rfl) (nomark _)))).pt
          (pss_one (ps_expr (pe_meth (pv 0) T.cl T.m_startm (ok_startm T) (hr.mono (by decide)) T.b_startm .nil pass0 (pa_cons (pe_bm PySem.F.plainAttrs_list PySem.F.slot_list_pop PySem.F.type_list_pop mt_popAt (pv 2) (pa_cons pe_int pa_nil)) (pa_cons pe_bl pa_nil)))))
          (pss_one (ps_if (pw_or (pt_cmpR op_gt (pe_callB call_len_seq (by rfl) T.z_len PySem.boot_len (pa_cons (pv 2) pa_nil)) pe_int (nomark _)) (pw_or (pt_cmpR op_gt (pe_callB call_len_seq (by rfl) T.z_len PySem.boot_len (pa_cons (pe_fld (pv 0) rfl) pa_nil)) pe_int (nomark _)) (pw_or1 (pt_cmpR op_gt (pe_callB call_len_seq (by rfl) T.z_len PySem.boot_len (pa_cons (pe_ix ix_list (pe_fld (pv 0) rfl) (pe_op op_sub pe_int (pv 1)) (fun _ _ => rfl)) pa_nil)) pe_int (nomark _))))).pt
            (pss_one (ps_expr (pe_meth0 (pv 0) T.cl T.m_turn (ok_turn T) (hr.mono (by decide)) T.b_turn .nil pass0)))
            (pss_one (ps_ret pe_bl)))))))
      (pss_one (ps_ret pe_bl)))), ?_⟩
    -- the queue here, the queue there
    obtain ⟨j, lq, xq, lr, xr, hj, hq, hql, hqs, hro, hrl, hrs⟩ : ∃ (j : Nat) (lq : Addr) (xq : List V) (lr : Addr) (xr : List V), ((k.phase : Int) / 4 = (j : Int) ∧ j < 2 ∧ ((j = 0 ∧ k.phase = 0 ∧ lq = A.l0 ∧ xq = x0) ∨ (j = 1 ∧ k.phase = 4 ∧ lq = A.l1 ∧ xq = x1))) ∧ ([V.ref A.l0, V.ref A.l1] : List V)[j]? = some (.ref lq) ∧ H lq = some (.lst xq) ∧ Ships H xq k.here ∧
        ([V.ref A.l0, V.ref A.l1] : List V)[1 - j]? = some (.ref lr) ∧ H lr = some (.lst xr) ∧ Ships H xr k.there := by
      rcases hp with e | e
      · exact ⟨0, A.l0, x0, A.l1, x1, ⟨by omega, by omega, .inl ⟨rfl, e, rfl, rfl⟩⟩, rfl, R.b0, by unfold Lock.here; rw [if_pos e]; exact L.s0, rfl, R.b1, by unfold Lock.there; rw [if_pos e]; exact L.s1⟩
      · exact ⟨1, A.l1, x1, A.l0, x0, ⟨by omega, by omega, .inr ⟨rfl, e, rfl, rfl⟩⟩, rfl, R.b1, by unfold Lock.here; rw [if_neg (by omega)]; exact L.s1, rfl, R.b0, by unfold Lock.there; rw [if_neg (by omega)]; exact L.s0⟩
    obtain ⟨hz, hj2, hside⟩ := hj
    have eq := hqs.len
    have er := hrs.len
    refine ⟨_, rfl, _, _, _, rfl, R.ob, no_near _, _, _, _, _, rfl, R.ob, rfl, _, rfl, _, _, _, _, _, rfl, R.ob, T.cl, T.n_waiting, lk_waiting _, _, rfl, _, _, _, _, rfl, rfl, SqL.of R.wt, at_z j hz hq, _, rfl, _, _, _, _, _, rfl, R.ob, T.cl, T.n_leaving, lk_leaving _, _, _, rfl, rfl, _, rfl, ?_⟩
    by_cases ho : 0 < k.out
    · refine ifT (by omega) ?_
      cases hi : k.inside with
      | nil =>
        have := g.out
        rw [hi] at this
        simp at this
        omega
      | cons sh r =>
        refine ⟨_, rfl, _, _, _, rfl, R.ob, no_send _, A, k, sh, r, rfl, hL, ho, hi, fun H' L' F' => ?_⟩
        exact kq H' true (by rw [M.gate_out hm ho hi]; exact L') F' (fun z => by cases z)
    · refine ifF (by omega) ?_
      have ho0 : k.out = 0 := by omega
      -- turn_phase's end is the next phase
      have et : M.turn k = { k with phase := k.phase + 1 } := by
        unfold M.turn
        rw [if_neg (by omega), if_neg (by omega)]
      cases hh : k.here with
      | cons sh r =>
        rw [hh] at hqs
        cases hqs with
        | @cons v _ vr _ h1 h2 =>
          obtain ⟨t, rfl, ht⟩ := h1
          refine ⟨_, rfl, _, _, rfl, .inl (SqL.of hql), _, _, rfl, rfl, _, rfl, ?_⟩
          refine ifT (by simp only [List.length_cons]; omega) ?_
          refine ⟨_, rfl, _, _, _, _, _, rfl, R.ob, T.cl, T.n_filled, lk_filled _, _, rfl, _, _, _, _, rfl, rfl, SqL.of hql, at_z 0 rfl rfl, _, _, _, _, rfl, rfl, SqT.of ht, at_z 1 rfl rfl, _, _, rfl, rfl, _, rfl, _, _, _, _, _, rfl, R.ob, T.cl, T.n_room, lk_room _, _, _, rfl, rfl, _, rfl, ?_⟩
          by_cases hf : Sn73.filled k.inside + sh.len ≤ k.make.room
          · refine ifT (by omega) ?_
            refine ⟨_, rfl, _, _, _, rfl, R.ob, no_startm _, _, rfl, .inl ⟨rfl, _, SqL.of hql⟩, _, _, _, 0, _, rfl, rfl, hql, (by decide), (by decide), ix0 (by simp), rfl, ?_⟩
            have t1 : TK H (upd H lq (.lst vr)) := tk_lst hql
            rcases hside with ⟨rfl, e, rfl, rfl⟩ | ⟨rfl, e, rfl, rfl⟩
            · have hbl : k.below = sh :: r := by rw [← hh]; unfold Lock.here; rw [if_pos e]
              refine ⟨A, { k with below := r }, .ref t, sh, true, rfl, ⟨mv, inw, vr, x1, xc, R.set0, Ships.keep h2 t1, L.s1.keep t1, L.sc.keep t1, L.mv.keep t1⟩, ⟨t, rfl, t1 _ _ ht⟩, fun H' L' F' => ?_⟩
              exact kq H' true (by rw [M.gate_in0 hm ho0 e hbl hf]; exact L') (fr_0.trans F') (fun z => by cases z)
            · have hbl : k.above = sh :: r := by rw [← hh]; unfold Lock.here; rw [if_neg (by omega)]
              refine ⟨A, { k with above := r }, .ref t, sh, true, rfl, ⟨mv, inw, x0, vr, xc, R.set1, L.s0.keep t1, Ships.keep h2 t1, L.sc.keep t1, L.mv.keep t1⟩, ⟨t, rfl, t1 _ _ ht⟩, fun H' L' F' => ?_⟩
              exact kq H' true (by rw [M.gate_in4 hm ho0 e hbl hf]; exact L') (fr_1.trans F') (fun z => by cases z)
          · refine ifF (by omega) ?_
            refine ⟨_, rfl, _, _, rfl, .inl (SqL.of hql), _, _, rfl, rfl, _, rfl, ?_⟩
            refine ifT (by simp only [List.length_cons]; omega) ?_
            refine ⟨_, rfl, _, _, _, rfl, R.ob, no_turn _, A, k, rfl, hL, (by omega), fun H' L' F' => ?_⟩
            exact kq H' true (by rw [M.gate_full hm ho0 hh hf, ← et]; exact L') F' (fun z => by cases z)
      | nil =>
        rw [hh] at hqs
        cases hqs
        refine ⟨_, rfl, _, _, rfl, .inl (SqL.of hql), _, _, rfl, rfl, _, rfl, ?_⟩
        refine ifF (by simp) ?_
        refine ⟨_, rfl, _, _, rfl, .inl (SqL.of hql), _, _, rfl, rfl, _, rfl, ?_⟩
        refine ifF (by simp) ?_
        refine ⟨_, rfl, _, _, _, _, _, rfl, R.ob, T.cl, T.n_chamber, lk_chamber _, _, _, rfl, .inl (SqL.of R.ch), _, _, rfl, rfl, _, rfl, ?_⟩
        have fin : (k.inside ≠ [] ∨ k.there ≠ []) → sp_turn a.C [.ref A.p] H (fun _ H' => Q (.bl true) H') E := fun hne => ⟨A, k, rfl, hL, (by omega), fun H' L' F' => kq H' true (by rw [M.gate_on hm ho0 hh hne, ← et]; exact L') F' (fun z => by cases z)⟩
        by_cases hc : k.inside = []
        · have xc0 : xc.length = 0 := by rw [ec, hc]; rfl
          refine ifF (by omega) ?_
          refine ⟨_, rfl, _, _, _, _, _, rfl, R.ob, T.cl, T.n_waiting, lk_waiting _, _, rfl, _, _, rfl, rfl, _, _, _, _, rfl, rfl, SqL.of R.wt, at_z (1 - j) (by omega) hro, _, _, rfl, .inl (SqL.of hrl), _, _, rfl, rfl, _, rfl, ?_⟩
          by_cases hd : k.there = []
          · have xr0 : xr.length = 0 := by rw [er, hd]; rfl
            refine ifF (by omega) ?_
            refine kq H false ?_ (Fr.refl _ _) fun _ => ?_
            · rw [M.gate_none hm ho0 hh (by simp [hc, hd])]
              exact hL
            · rcases hp with e | e
              · have e1 : k.here = k.below := by unfold Lock.here; rw [if_pos e]
                have e2 : k.there = k.above := by unfold Lock.there; rw [if_pos e]
                exact ⟨hc, by rw [← e1]; exact hh, by rw [← e2]; exact hd⟩
              · have e1 : k.here = k.above := by unfold Lock.here; rw [if_neg (by omega)]
                have e2 : k.there = k.below := by unfold Lock.there; rw [if_neg (by omega)]
                exact ⟨hc, by rw [← e2]; exact hd, by rw [← e1]; exact hh⟩
          · have : 0 < k.there.length := by
              cases q : k.there with
              | nil => exact absurd q hd
              | cons _ _ => simp
            refine ifT (by omega) ?_
            exact ⟨_, rfl, _, _, _, rfl, R.ob, no_turn _, fin (.inr hd)⟩
        · have : 0 < k.inside.length := by
            cases q : k.inside with
            | nil => exact absurd q hc
            | cons _ _ => simp
          refine ifT (by omega) ?_
          exact ⟨_, rfl, _, _, _, rfl, R.ob, no_turn _, fin (.inl hc)⟩
end
end Ship

namespace Ship
open PySem L2
open Sn73 (Lock Coming Event)
theorem ifNT {b : Bool} {A B : Prop} (h : b = true) (x : B) : if (!b) = true then A else B := by
  subst h
  exact iteF x
theorem ifNF {b : Bool} {A B : Prop} (h : b = false) (x : A) : if (!b) = true then A else B := by
  subst h
  exact iteT x
section
variable {P : Program} {w : World} {K : PySem.W.Frag} {mg : Str → Option Value} {base : Heap} {a : Adr}
/-! ### within -/
def sp_within : Sp := fun vs H Q _ => ∃ v lo hi : Int, vs = [.int v, .int lo, .int hi] ∧ Q (.bl (decide (lo ≤ v) && decide (v ≤ hi))) H
theorem ok_within (T : Txt K mg a) : FnOk P w K mg base CX0 1 a.f_within a.d_within ["value", "least", "greatest"] sp_within := by
  refine T.F_within.ok sc_within (fun vs H Q E h => ?_) (fun cdv Ar outer s H vs Q E hr h => ?_)
  · obtain ⟨v, lo, hi, rfl, _⟩ := h
    rfl
  · obtain ⟨v, lo, hi, rfl, k⟩ := h
    refine ⟨_, pss_one (ps_ret (pe_and (pe_cmpR op_le (pv 1) (pv 0) (nomark _)) (pe_one (pe_cmpR op_le (pv 0) (pv 2) (nomark _))))), ?_⟩
    refine ⟨_, rfl, _, rfl, _, _, rfl, rfl, _, rfl, ?_⟩
    by_cases h1 : lo ≤ v
    · refine ifT h1 ?_
      rw [decide_eq_true h1, Bool.true_and] at k
      exact ⟨_, rfl, _, rfl, _, _, rfl, rfl, k⟩
    · refine ifF h1 ?_
      rw [decide_eq_false h1, Bool.false_and] at k
      exact k
/-! ### call_length -/
/-- how long the call is that begins here -/
def ClenIs (xs : List Int) (st : Nat) (L : Int) : Prop := ∃ p, xs[st]? = some p ∧ ((p = 0 ∧ L = 5) ∨ (p = 1 ∧ ∃ n, xs[st + 4]? = some n ∧ L = 5 + n) ∨ (p ≠ 0 ∧ p ≠ 1 ∧ L = 1))
def sp_clen (K : PySem.W.Frag) : Sp := fun vs H Q _ => ∃ (c : Addr) (xs : List Int) (st : Nat) (L : Int), vs = [.ref c, .int (st : Int)] ∧ SqL K H c (xs.map V.int) ∧ ClenIs xs st L ∧ Q (.int L) H
theorem map_at {xs : List Int} {j : Nat} {n : Int} (h : xs[j]? = some n) : (xs.map V.int)[j]? = some (V.int n) := by
  rw [List.getElem?_map, h]
  rfl
theorem ok_clen (T : Txt K mg a) : FnOk P w K mg base CX0 1 a.f_clen a.d_clen ["calls", "start"] (sp_clen K) := by
  refine T.F_clen.ok sc_clen (fun vs H Q E h => ?_) (fun cdv Ar outer s H vs Q E hr h => ?_)
  · obtain ⟨c, xs, st, L, rfl, _⟩ := h
    rfl
  · obtain ⟨c, xs, st, L, rfl, hc, ⟨p, hp, hL⟩, kq⟩ := h
    refine ⟨_, pss_cons (ps_if (pt_cmpR op_eq (pe_ix ix_list (pv 0) (pv 1) (fun _ _ => rfl)) pe_int (nomark _)) (pss_one (ps_ret pe_int)) pss_nil)
      (pss_cons (ps_if (pt_cmpR op_eq (pe_ix ix_list (pv 0) (pv 1) (fun _ _ => rfl)) pe_int (nomark _)) (pss_one (ps_ret (pe_op op_add pe_int (pe_ix ix_list (pv 0) (pe_op op_add (pv 1) pe_int) (fun _ _ => rfl))))) pss_nil)
      (pss_one (ps_ret pe_int))), ?_⟩
    refine ⟨_, rfl, _, rfl, _, _, _, _, rfl, rfl, hc, at_z st rfl (map_at hp), rfl, _, rfl, ?_⟩
    rcases hL with ⟨h0, rfl⟩ | ⟨h1, n, hn, rfl⟩ | ⟨h0, h1, rfl⟩
    · exact ifEqT h0 kq
    · refine ifEqF (by omega) ⟨_, rfl, _, rfl, _, _, _, _, rfl, rfl, hc, at_z st rfl (map_at hp), rfl, _, rfl, ?_⟩
      exact ifEqT h1 ⟨_, rfl, _, rfl, _, _, rfl, rfl, _, _, _, _, rfl, rfl, hc, at_z (st + 4) (by omega) (map_at hn), _, _, rfl, rfl, kq⟩
    · exact ifEqF h0 ⟨_, rfl, _, rfl, _, _, _, _, rfl, rfl, hc, at_z st rfl (map_at hp), rfl, _, rfl, ifEqF h1 kq⟩
/-! ### comings_are_right -/
theorem fits4 (z : Int) (h1 : 0 ≤ z) (h2 : z ≤ 1000000) : Builtin.Range.rangeFitsLong z = true := by
  unfold Builtin.Range.rangeFitsLong
  rw [decide_eq_true (show -(2 ^ 63) ≤ z by omega), decide_eq_true (show z < 2 ^ 63 by omega)]
  rfl
theorem rg4 (n : Nat) (h : n ≤ 65536) : RgC 0 ((4 * n : Nat) : Int) 4 n := by
  have hs : Builtin.Range.rangeSize 0 ((4 * n : Nat) : Int) 4 = (n : Int) := by
    unfold Builtin.Range.rangeSize
    rw [if_pos (by decide)]
    split <;> omega
  refine ⟨by decide, by decide, ?_, hs⟩
  unfold Builtin.Range.small
  rw [hs]
  simp only [fits4 0 (by omega) (by omega), fits4 ((4 * n : Nat) : Int) (by omega) (by omega), fits4 4 (by omega) (by omega), fits4 (n : Int) (by omega) (by omega), fits4 (((4 * n : Nat) : Int) + (4 - 1)) (by omega) (by omega), Bool.and_self, Bool.and_true, Bool.or_true, show (4 : Int) > 0 by decide, if_true]
theorem drop_at {l : List Coming} {i : Nat} (h : i < l.length) : l.drop i = l[i] :: l.drop (i + 1) := List.drop_eq_getElem_cons h
def sp_right : Sp := fun vs H Q _ => ∃ (c : Addr) (l : List Coming) (n room : Nat), vs = [.ref c, .int (n : Int), .int (room : Int)] ∧ H c = some (.lst ((M.flat l).map V.int)) ∧ l.length ≤ 4096 ∧ Q (.bl (M.okFrom n room 1 l)) H
theorem ok_right (T : Txt K mg a) : FnOk P w K mg base CX0 2 a.f_right a.d_right ["comings", "n", "room"] sp_right := by
  refine T.F_right.ok sc_right (fun vs H Q E h => ?_) (fun cdv Ar outer s H vs Q E hr h => ?_)
  · obtain ⟨c, l, n, room, rfl, _⟩ := h
    rfl
  · obtain ⟨c, l, n, room, rfl, hc, hl, kq⟩ := h
    refine ⟨_, pss_cons (ps_set (i := 3) sc_right.nd rfl (Or.inl rfl) pe_int)
      (pss_cons (ps_for PassesOwn.never rfl (pi_range3 (by rfl) T.z_range (pa_cons pe_int (pa_cons (pe_callB call_len_seq (by rfl) T.z_len PySem.boot_len (pa_cons (pv 0) pa_nil)) (pa_cons pe_int pa_nil)))) (pg_name (i := 4) sc_right.nd rfl (Or.inl rfl))
        (pss_cons (ps_if (pt_not (pt_val (pe_call (ok_within T) (hr.mono (by decide)) (by rfl) T.g_within T.F_within.kp T.b_within .nil pass0 (pa_cons (pe_ix ix_list (pv 0) (pv 4) (fun _ _ => rfl)) (pa_cons (pv 3) (pa_cons (pv 1) pa_nil)))))) (pss_one (ps_ret pe_bl)) pss_nil)
        (pss_cons (ps_if (pw_or (pt_not (pt_val (pe_call (ok_within T) (hr.mono (by decide)) (by rfl) T.g_within T.F_within.kp T.b_within .nil pass0 (pa_cons (pe_ix ix_list (pv 0) (pe_op op_add (pv 4) pe_int) (fun _ _ => rfl)) (pa_cons pe_int (pa_cons (pv 2) pa_nil)))))) (pw_or1 (pt_not (pt_val (pe_call (ok_within T) (hr.mono (by decide)) (by rfl) T.g_within T.F_within.kp T.b_within .nil pass0 (pa_cons (pe_ix ix_list (pv 0) (pe_op op_add (pv 4) pe_int) (fun _ _ => rfl)) (pa_cons pe_int (pa_cons pe_int pa_nil)))))))).pt (pss_one (ps_ret pe_bl)) pss_nil)
        (pss_one (ps_set (i := 3) sc_right.nd rfl (Or.inl rfl) (pe_ix ix_list (pv 0) (pv 4) (fun _ _ => rfl)))))))
      (pss_one (ps_ret pe_bl))), ?_⟩
    have elen : (((M.flat l).map V.int).length : Int) = ((4 * l.length : Nat) : Int) := by rw [List.length_map, M.flat_len]
    refine ⟨_, rfl, _, _, rfl, .inl (SqL.of hc), 0, _, 4, l.length, rfl, (by rw [elen]; exact rg4 _ (by omega)), for_rangeC (lo := 0) (c := 4) (n := l.length)
      (fun i σ H1 => H1 = H ∧ ∃ (e : Nat) (v4 : Option V), σ = [some (.ref c), some (.int (n : Int)), some (.int (room : Int)), some (.int (e : Int)), v4] ∧ M.okFrom n room e (l.drop i) = M.okFrom n room 1 l)
      ⟨rfl, 1, none, rfl, by rw [List.drop_zero]⟩ ?_ ?_⟩
    · rintro i σ H1 hi ⟨rfl, e, v4, rfl, he⟩
      obtain ⟨g0, g1, g2, g3⟩ := M.flat_get (l := l) (j := i) (c := l[i]) (List.getElem?_eq_getElem hi)
      rw [drop_at hi] at he
      have he' : ((decide (e ≤ l[i].time) && decide (l[i].time ≤ n)) && ((decide (1 ≤ l[i].len) && decide (l[i].len ≤ room)) && (decide (l[i].side ≤ 1) && M.okFrom n room l[i].time (l.drop (i + 1))))) = M.okFrom n room 1 l := he
      have d1 : (decide ((e : Int) ≤ (l[i].time : Int)) && decide ((l[i].time : Int) ≤ (n : Int))) = (decide (e ≤ l[i].time) && decide (l[i].time ≤ n)) := by simp
      have d2 : (decide ((1 : Int) ≤ (l[i].len : Int)) && decide ((l[i].len : Int) ≤ (room : Int))) = (decide (1 ≤ l[i].len) && decide (l[i].len ≤ room)) := by
        rw [Bool.eq_iff_iff]; simp; omega
      have d3 : (decide ((0 : Int) ≤ (l[i].side : Int)) && decide ((l[i].side : Int) ≤ 1)) = decide (l[i].side ≤ 1) := by
        rw [Bool.eq_iff_iff]; simp; omega
      refine ⟨_, rfl, _, rfl, _, _, _, _, rfl, rfl, SqL.of hc, at_z (4 * i) (by omega) (map_at g0), _, rfl, _, rfl, _, _, _, rfl, _, rfl, ?_⟩
      cases b1 : (decide (e ≤ l[i].time) && decide (l[i].time ≤ n)) with
      | false =>
        refine ifNF (d1.trans b1) ?_
        rw [b1, Bool.false_and] at he'
        rw [← he'] at kq
        exact kq
      | true =>
        rw [b1, Bool.true_and] at he'
        refine ifNT (d1.trans b1) ⟨_, rfl, _, rfl, _, _, rfl, rfl, _, _, _, _, rfl, rfl, SqL.of hc, at_z (4 * i + 2) (by omega) (map_at g2), _, rfl, _, _, _, rfl, _, rfl, ?_⟩
        cases b2 : (decide (1 ≤ l[i].len) && decide (l[i].len ≤ room)) with
        | false =>
          rw [b2, Bool.false_and] at he'
          rw [← he'] at kq
          exact ifNF (d2.trans b2) (iteT kq)
        | true =>
          rw [b2, Bool.true_and] at he'
          refine ifNT (d2.trans b2) ⟨_, rfl, _, rfl, _, _, rfl, rfl, _, _, _, _, rfl, rfl, SqL.of hc, at_z (4 * i + 3) (by omega) (map_at g3), _, _, _, rfl, _, rfl, ?_⟩
          cases b3 : decide (l[i].side ≤ 1) with
          | false =>
            rw [b3, Bool.false_and] at he'
            rw [← he'] at kq
            exact ifNF (d3.trans b3) kq
          | true =>
            rw [b3, Bool.true_and] at he'
            refine ifNT (d3.trans b3) ⟨_, rfl, _, rfl, _, _, _, _, rfl, rfl, SqL.of hc, at_z (4 * i) (by omega) (map_at g0), ?_⟩
            exact ⟨rfl, l[i].time, _, rfl, he'⟩
    · rintro σ H1 ⟨rfl, e, v4, rfl, he⟩
      rw [List.drop_length] at he
      rw [← he] at kq
      exact kq
/-! ### take_comings -/
def sp_take (C : Addr) : Sp := fun vs H Q _ => ∃ (A : Ad) (k : Lock) (c : Addr) (l : List Coming) (j sec : Nat), vs = [.ref A.p, .ref c, .int ((4 * j : Nat) : Int), .int (sec : Int)] ∧ LockAt C H A k ∧ H c = some (.lst ((M.flat l).map V.int)) ∧ c ≠ A.lo ∧ c ≠ A.l0 ∧ c ≠ A.l1 ∧ c ≠ A.lc ∧
  M.Up l ∧ (∀ x ∈ l, x.side ≤ 1) ∧ j ≤ l.length ∧ k.below.length + k.above.length + (l.length - j) < sizeLine ∧
  ∀ H' : Hp, LockAt C H' A (M.addAll k (M.pend l j sec)) → Fr A H H' → Q (.int ((4 * M.past l j sec : Nat) : Int)) H'
theorem ok_take (T : Txt K mg a) : FnOk P w K mg base CX0 1 a.f_take a.d_take ["self", "comings", "place", "second"] (sp_take a.C) := by
  refine T.F_take.ok sc_take (fun vs H Q E h => ?_) (fun cdv Ar outer s H vs Q E hr h => ?_)
  · obtain ⟨A, k, c, l, j, sec, rfl, _⟩ := h
    rfl
  · obtain ⟨A, k, c, l, j, sec, rfl, hL, hc, nco, nc0, nc1, ncc, hu, hsd, hjl, hsz, kq⟩ := h
    refine ⟨_, pss_cons (ps_while PassesOwn.never (pw_and (pt_cmpR op_lt (pv 2) (pe_callB call_len_seq (by rfl) T.z_len PySem.boot_len (pa_cons (pv 1) pa_nil)) (nomark _)) (pw_and1 (pt_cmpR op_le (pe_ix ix_list (pv 1) (pv 2) (fun _ _ => rfl)) (pv 3) (nomark _)))).pt
        (pss_cons (ps_expr (pe_bm PySem.F.plainAttrs_list PySem.F.slot_list_append PySem.F.type_list_append mt_append (pe_ix ix_list (pe_fld (pv 0) rfl) (pe_ix ix_list (pv 1) (pe_op op_add (pv 2) pe_int) (fun _ _ => rfl)) (fun _ _ => rfl)) (pa_cons (pe_tup (pa_cons (pe_ix ix_list (pv 1) (pe_op op_add (pv 2) pe_int) (fun _ _ => rfl)) (pa_cons (pe_ix ix_list (pv 1) (pe_op op_add (pv 2) pe_int) (fun _ _ => rfl)) pa_nil))) pa_nil)))
        (pss_one (ps_aug (i := 2) sc_take.nd rfl (Or.inl rfl) pe_int ip_add))))
      (pss_one (ps_ret (pv 2))), ?_⟩
    have elen : (((M.flat l).map V.int).length : Int) = ((4 * l.length : Nat) : Int) := by rw [List.length_map, M.flat_len]
    refine ⟨fun m σ H1 => ∃ (i : Nat) (k1 : Lock), σ = [some (.ref A.p), some (.ref c), some (.int ((4 * i : Nat) : Int)), some (.int (sec : Int))] ∧ LockAt a.C H1 A k1 ∧ Fr A H H1 ∧ i ≤ l.length ∧ M.addAll k1 (M.pend l i sec) = M.addAll k (M.pend l j sec) ∧ M.past l i sec = M.past l j sec ∧
      k1.below.length + k1.above.length + (l.length - i) < sizeLine ∧ m = l.length - i, ⟨l.length - j, j, k, rfl, hL, Fr.refl _ _, hjl, rfl, rfl, hsz, rfl⟩, ?_⟩
    rintro m σ H1 ⟨i, k1, rfl, hL1, F1, hil, ek, ep, hs1, rfl⟩
    obtain ⟨mv, inw, x0, x1, xc, L⟩ := id hL1
    have R := L.raw
    have ncp : c ≠ A.p := by
      obtain ⟨mv', inw', y0, y1, yc, L0⟩ := id hL
      exact ne_of hc L0.raw.ob (by intro z; cases z)
    have hc1 := F1 c _ hc ncp nco nc0 nc1 ncc
    have fin : M.pend l i sec = [] → Q (.int ((4 * i : Nat) : Int)) H1 := fun e => by
      rw [e, M.addAll_nil] at ek
      rw [M.past_none e] at ep
      have q := kq H1 (by rw [← ek]; exact hL1) F1
      rw [← ep] at q
      exact q
    refine ⟨_, rfl, _, rfl, _, _, rfl, .inl (SqL.of hc1), _, _, rfl, rfl, _, rfl, ?_⟩
    by_cases hi : i < l.length
    · refine ifT (by rw [elen]; omega) ?_
      have hgi : l[i]? = some l[i] := List.getElem?_eq_getElem hi
      obtain ⟨g0, g1, g2, g3⟩ := M.flat_get hgi
      refine ⟨_, rfl, _, rfl, _, _, _, _, rfl, rfl, SqL.of hc1, at_z (4 * i) rfl (map_at g0), _, rfl, _, _, rfl, rfl, _, rfl, ?_⟩
      by_cases ht : l[i].time ≤ sec
      · refine ifT (by omega) ?_
        refine ⟨fun σ' H' => ∃ m', m' < l.length - i ∧ ∃ (i : Nat) (k1 : Lock), σ' = [some (.ref A.p), some (.ref c), some (.int ((4 * i : Nat) : Int)), some (.int (sec : Int))] ∧ LockAt a.C H' A k1 ∧ Fr A H H' ∧ i ≤ l.length ∧ M.addAll k1 (M.pend l i sec) = M.addAll k (M.pend l j sec) ∧ M.past l i sec = M.past l j sec ∧
          k1.below.length + k1.above.length + (l.length - i) < sizeLine ∧ m' = l.length - i, fun _ _ h => h, ?_⟩
        have sd := hsd l[i] (List.getElem_mem hi)
        have e4 : ((4 * i : Nat) : Int) + 4 = ((4 * (i + 1) : Nat) : Int) := by omega
        have ea : M.addAll (M.addAll k1 [l[i]]) (M.pend l (i + 1) sec) = M.addAll k (M.pend l j sec) := by
          rw [M.addAll_append, ← ek, M.pend_cons hgi ht]
          rfl
        have ep' : M.past l (i + 1) sec = M.past l j sec := by rw [← ep, M.past_step hgi ht]
        have l0 := L.s0.len
        have l1 := L.s1.len
        have c01 : l[i].side = 0 ∨ l[i].side = 1 := by omega
        rcases c01 with es | es
        · refine ⟨_, rfl, _, _, _, _, _, rfl, R.ob, T.cl, T.n_waiting, lk_waiting _, _, rfl, _, rfl, _, _, rfl, rfl, _, _, _, _, rfl, rfl, SqL.of hc1, at_z (4 * i + 3) (by omega) (map_at g3), _, _, _, _, rfl, rfl, SqL.of R.wt, at_z 0 (by omega) rfl, .inl ⟨rfl, _, SqL.of R.b0⟩,
            _, rfl, _, rfl, _, _, rfl, rfl, _, _, _, _, rfl, rfl, SqL.of hc1, at_z (4 * i + 1) (by omega) (map_at g1), _, rfl, _, rfl, _, _, rfl, rfl, _, _, _, _, rfl, rfl, SqL.of hc1, at_z (4 * i + 2) (by omega) (map_at g2), (by show 2 ≤ sizeLine; decide), fun t ht0 => ?_⟩
          have S1 : Same H1 (upd H1 t (.tup [.int (l[i].id : Nat), .int (l[i].len : Nat)])) := same_new ht0
          have R1 := R.same S1
          refine ⟨_, _, _, rfl, rfl, R1.b0, (by omega), ?_⟩
          have R2 := R1.set0 (ys := x0 ++ [.ref t])
          have t2 := (tk_same S1).trans (tk_lst (o := .lst (x0 ++ [.ref t])) R1.b0)
          have ht2 := (tk_lst (o := .lst (x0 ++ [.ref t])) R1.b0) t [.int (l[i].id : Nat), .int (l[i].len : Nat)] upd_same
          have en : M.addAll k1 [l[i]] = { k1 with below := k1.below ++ [M.shipOf l[i]] } := by
            rw [M.addAll_one]
            unfold Lock.comes
            rw [es]
            rfl
          refine ⟨_, rfl, _, _, rfl, rfl, l.length - (i + 1), (by omega), i + 1, M.addAll k1 [l[i]], (by dsimp only; rw [e4]; rfl), ?_, (F1.trans (fr_same S1)).trans fr_0, hi, ea, ep', ?_, rfl⟩
          · rw [en]
            exact ⟨mv, inw, x0 ++ [V.ref t], x1, xc, R2, (L.s0.keep t2).append (.cons ⟨t, rfl, ht2⟩ .nil), L.s1.keep t2, L.sc.keep t2, L.mv.keep t2⟩
          · rw [en]
            dsimp only
            rw [List.length_append]
            simp only [List.length_singleton]
            omega
        · refine ⟨_, rfl, _, _, _, _, _, rfl, R.ob, T.cl, T.n_waiting, lk_waiting _, _, rfl, _, rfl, _, _, rfl, rfl, _, _, _, _, rfl, rfl, SqL.of hc1, at_z (4 * i + 3) (by omega) (map_at g3), _, _, _, _, rfl, rfl, SqL.of R.wt, at_z 1 (by omega) rfl, .inl ⟨rfl, _, SqL.of R.b1⟩,
            _, rfl, _, rfl, _, _, rfl, rfl, _, _, _, _, rfl, rfl, SqL.of hc1, at_z (4 * i + 1) (by omega) (map_at g1), _, rfl, _, rfl, _, _, rfl, rfl, _, _, _, _, rfl, rfl, SqL.of hc1, at_z (4 * i + 2) (by omega) (map_at g2), (by show 2 ≤ sizeLine; decide), fun t ht0 => ?_⟩
          have S1 : Same H1 (upd H1 t (.tup [.int (l[i].id : Nat), .int (l[i].len : Nat)])) := same_new ht0
          have R1 := R.same S1
          refine ⟨_, _, _, rfl, rfl, R1.b1, (by omega), ?_⟩
          have R2 := R1.set1 (ys := x1 ++ [.ref t])
          have t2 := (tk_same S1).trans (tk_lst (o := .lst (x1 ++ [.ref t])) R1.b1)
          have ht2 := (tk_lst (o := .lst (x1 ++ [.ref t])) R1.b1) t [.int (l[i].id : Nat), .int (l[i].len : Nat)] upd_same
          have en : M.addAll k1 [l[i]] = { k1 with above := k1.above ++ [M.shipOf l[i]] } := by
            rw [M.addAll_one]
            unfold Lock.comes
            rw [es]
            rfl
          refine ⟨_, rfl, _, _, rfl, rfl, l.length - (i + 1), (by omega), i + 1, M.addAll k1 [l[i]], (by dsimp only; rw [e4]; rfl), ?_, (F1.trans (fr_same S1)).trans fr_1, hi, ea, ep', ?_, rfl⟩
          · rw [en]
            exact ⟨mv, inw, x0, x1 ++ [V.ref t], xc, R2, L.s0.keep t2, (L.s1.keep t2).append (.cons ⟨t, rfl, ht2⟩ .nil), L.sc.keep t2, L.mv.keep t2⟩
          · rw [en]
            dsimp only
            rw [List.length_append]
            simp only [List.length_singleton]
            omega
      · refine ifF (by omega) ?_
        exact ⟨_, rfl, fin (M.pend_stop hu hgi ht)⟩
    · refine ifF (by rw [elen]; omega) ?_
      refine iteF ⟨_, rfl, fin (M.pend_end (by omega))⟩
/-! ### state -/
def sp_state (C : Addr) : Sp := fun vs H Q _ => ∃ (A : Ad) (k : Lock), vs = [.ref A.p] ∧ LockAt C H A k ∧
  ∀ l : Addr, H l = none → Q (.ref l) (upd H l (.lst (([k.phase, k.level, k.lower, k.upper, k.inside.length, k.below.length, k.above.length, k.busy] : List Nat).map iV)))
end
end Ship

namespace Ship
open PySem L2
open Sn73 (Lock Coming Event)
section
variable {P : Program} {w : World} {K : PySem.W.Frag} {mg : Str → Option Value} {base : Heap} {a : Adr}
theorem ok_state (T : Txt K mg a) : FnOk P w K mg base CX0 1 a.f_state a.d_state ["self"] (sp_state a.C) := by
  refine T.F_state.ok sc_state (fun vs H Q E h => ?_) (fun cdv Ar outer s H vs Q E hr h => ?_)
  · obtain ⟨A, k, rfl, _⟩ := h
    rfl
  · obtain ⟨A, k, rfl, ⟨mv, inw, x0, x1, xc, L⟩, kq⟩ := h
    have R := L.raw
    have e0 := L.s0.len
    have e1 := L.s1.len
    have ec := L.sc.len
    refine ⟨_, pss_cons (ps_set (i := 1) sc_state.nd rfl (Or.inl rfl) (pe_callB call_len_seq (by rfl) T.z_len PySem.boot_len (pa_cons (pe_ix ix_list (pe_fld (pv 0) rfl) pe_int (fun _ _ => rfl)) pa_nil)))
      (pss_cons (ps_set (i := 2) sc_state.nd rfl (Or.inl rfl) (pe_callB call_len_seq (by rfl) T.z_len PySem.boot_len (pa_cons (pe_ix ix_list (pe_fld (pv 0) rfl) pe_int (fun _ _ => rfl)) pa_nil)))
      (pss_one (ps_ret (pe_lst (pa_cons (pe_fld (pv 0) rfl) (pa_cons (pe_fld (pv 0) rfl) (pa_cons (pe_ix ix_list (pe_fld (pv 0) rfl) pe_int (fun _ _ => rfl)) (pa_cons (pe_ix ix_list (pe_fld (pv 0) rfl) pe_int (fun _ _ => rfl)) (pa_cons (pe_callB call_len_seq (by rfl) T.z_len PySem.boot_len (pa_cons (pe_fld (pv 0) rfl) pa_nil)) (pa_cons (pv 1) (pa_cons (pv 2) (pa_cons (pe_fld (pv 0) rfl) pa_nil)))))))))))), ?_⟩
    refine ⟨_, rfl, _, _, _, _, _, rfl, R.ob, T.cl, T.n_waiting, lk_waiting _, _, _, _, _, rfl, rfl, SqL.of R.wt, at_z 0 rfl rfl, _, _, rfl, .inl (SqL.of R.b0), _, rfl, _, _, _, _, _, rfl, R.ob, T.cl, T.n_waiting, lk_waiting _, _, _, _, _, rfl, rfl, SqL.of R.wt, at_z 1 rfl rfl, _, _, rfl, .inl (SqL.of R.b1), _, rfl, _, _, _, _, _, rfl, R.ob, T.cl, T.n_phase, lk_phase _, _, rfl, _, _, _, _, _, rfl, R.ob, T.cl, T.n_water, lk_water _, _, rfl, _, _, _, _, _, rfl, R.ob, T.cl, T.n_openings, lk_openings _, _, _, _, _, rfl, rfl, SqL.of R.op, at_z 0 rfl rfl, _, rfl, _, _, _, _, _, rfl, R.ob, T.cl, T.n_openings, lk_openings _, _, _, _, _, rfl, rfl, SqL.of R.op, at_z 1 rfl rfl, _, rfl, _, _, _, _, _, rfl, R.ob, T.cl, T.n_chamber, lk_chamber _, _, _, rfl, .inl (SqL.of R.ch), _, rfl, _, rfl, _, rfl, _, _, _, _, _, rfl, R.ob, T.cl, T.n_to_go, lk_to_go _, (by show 8 ≤ sizeLine; decide), fun l hl => ?_⟩
    have q := kq l hl
    rw [← e0, ← e1, ← ec] at q
    exact q
/-! ### Lock.__init__ -/
def fresh (room high gate move : Int) (A : Ad) : LF := ⟨.int room, .int high, .int gate, .int move, .int 0, .int 0, .ref A.lo, .ref A.lw, .ref A.lc, .int 0, .int 0, .non, .bl false, .int 0⟩
def sp_init (C : Addr) : Sp := fun vs H Q _ => ∃ (p dx : Addr) (room high gate move : Int), vs = [.ref p, .int room, .int high, .int gate, .int move] ∧ H p = some (.ins C dx []) ∧
  ∀ (H' : Hp) (A : Ad), A.p = p → A.dx = dx → H A.lo = none → H A.lw = none → H A.l0 = none → H A.l1 = none → H A.lc = none → Raw C H' A (fresh room high gate move A) (.int gate) (.int 0) [] [] [] → (∀ b o, H b = some o → b ≠ p → H' b = some o) → Q .non H'
theorem ok_init (T : Txt K mg a) : FnOk P w K mg base CX0 1 a.f_init a.d_init ["self", "room", "high", "gate", "move"] (sp_init a.C) := by
  refine T.F_init.ok sc_init (fun vs H Q E h => ?_) (fun cdv Ar outer s H vs Q E hr h => ?_)
  · obtain ⟨p, dx, room, high, gate, move, rfl, _⟩ := h
    rfl
  · obtain ⟨p, dx, room, high, gate, move, rfl, hp, kq⟩ := h
    refine ⟨_, (pss_cons (ps_fld (pv 0) (pv 1) rfl) (pss_cons (ps_fld (pv 0) (pv 2) rfl) (pss_cons (ps_fld (pv 0) (pv 3) rfl) (pss_cons (ps_fld (pv 0) (pv 4) rfl) (pss_cons (ps_fld (pv 0) pe_int rfl) (pss_cons (ps_fld (pv 0) pe_int rfl) (pss_cons (ps_fld (pv 0) (pe_lst (pa_cons (pv 3) (pa_cons pe_int pa_nil))) rfl) (pss_cons (ps_fld (pv 0) (pe_lst (pa_cons (pe_lst pa_nil) (pa_cons (pe_lst pa_nil) pa_nil))) rfl) (pss_cons (ps_fld (pv 0) (pe_lst pa_nil) rfl) (pss_cons (ps_fld (pv 0) pe_int rfl) (pss_cons (ps_fld (pv 0) pe_int rfl) (pss_cons (ps_fld (pv 0) pe_non rfl) (pss_cons (ps_fld (pv 0) pe_bl rfl) (pss_one (ps_fld (pv 0) pe_int rfl))))))))))))))), ?_⟩
    refine ⟨_, rfl, _, rfl, p, a.C, dx, _, rfl, hp, T.cl, T.n_room, (by show 0 < 1000; decide), _, rfl, _, rfl, p, a.C, dx, _, rfl, upd_same, T.cl, T.n_high, (by show 1 < 1000; decide), _, rfl, _, rfl, p, a.C, dx, _, rfl, upd_same, T.cl, T.n_gate, (by show 2 < 1000; decide), _, rfl, _, rfl, p, a.C, dx, _, rfl, upd_same, T.cl, T.n_move, (by show 3 < 1000; decide), _, rfl, p, a.C, dx, _, rfl, upd_same, T.cl, T.n_phase, (by show 4 < 1000; decide), _, rfl, p, a.C, dx, _, rfl, upd_same, T.cl, T.n_water, (by show 5 < 1000; decide), ?_⟩
    refine ⟨_, rfl, (by show 2 ≤ sizeLine; decide), fun lo hlo => ?_⟩
    have n1 : p ≠ lo := ne_of_none upd_same hlo
    refine ⟨_, rfl, p, a.C, dx, _, rfl, (by rw [upd_ne n1]; exact upd_same), T.cl, T.n_openings, (by show 6 < 1000; decide), ?_⟩
    refine ⟨(by show 0 ≤ sizeLine; decide), fun l0 hl0 => ⟨(by show 0 ≤ sizeLine; decide), fun l1 hl1 => ⟨(by show 2 ≤ sizeLine; decide), fun lw hlw => ?_⟩⟩⟩
    have n2 : p ≠ l0 := ne_of_none upd_same hl0
    have m2 : lo ≠ l0 := fun z => by rw [← z, upd_ne n1.symm, upd_same] at hl0; cases hl0
    have n3 : p ≠ l1 := fun z => by rw [← z, upd_ne n2, upd_same] at hl1; cases hl1
    have m3 : lo ≠ l1 := fun z => by rw [← z, upd_ne m2, upd_ne n1.symm, upd_same] at hl1; cases hl1
    have m4 : l0 ≠ l1 := ne_of_none upd_same hl1
    have n4 : p ≠ lw := fun z => by rw [← z, upd_ne n3, upd_ne n2, upd_same] at hlw; cases hlw
    have m5 : lo ≠ lw := fun z => by rw [← z, upd_ne m3, upd_ne m2, upd_ne n1.symm, upd_same] at hlw; cases hlw
    have m6 : l0 ≠ lw := fun z => by rw [← z, upd_ne m4, upd_same] at hlw; cases hlw
    have m7 : l1 ≠ lw := ne_of_none upd_same hlw
    refine ⟨_, rfl, p, a.C, dx, _, rfl, (by rw [upd_ne n4, upd_ne n3, upd_ne n2]; exact upd_same), T.cl, T.n_waiting, (by show 7 < 1000; decide), ?_⟩
    refine ⟨(by show 0 ≤ sizeLine; decide), fun lc hlc => ?_⟩
    have n5 : p ≠ lc := ne_of_none upd_same hlc
    have m8 : lw ≠ lc := fun z => by rw [← z, upd_ne n4.symm, upd_same] at hlc; cases hlc
    have m9 : l1 ≠ lc := fun z => by rw [← z, upd_ne n3.symm, upd_ne m7, upd_same] at hlc; cases hlc
    have m10 : l0 ≠ lc := fun z => by rw [← z, upd_ne n2.symm, upd_ne m6, upd_ne m4, upd_same] at hlc; cases hlc
    have m11 : lo ≠ lc := fun z => by rw [← z, upd_ne n1.symm, upd_ne m5, upd_ne m3, upd_ne m2, upd_ne n1.symm, upd_same] at hlc; cases hlc
    refine ⟨_, rfl, p, a.C, dx, _, rfl, (by rw [upd_ne n5]; exact upd_same), T.cl, T.n_chamber, (by show 8 < 1000; decide), _, rfl, p, a.C, dx, _, rfl, upd_same, T.cl, T.n_filled, (by show 9 < 1000; decide), _, rfl, p, a.C, dx, _, rfl, upd_same, T.cl, T.n_leaving, (by show 10 < 1000; decide), _, rfl, p, a.C, dx, _, rfl, upd_same, T.cl, T.n_mover, (by show 11 < 1000; decide), _, rfl, p, a.C, dx, _, rfl, upd_same, T.cl, T.n_inward, (by show 12 < 1000; decide), _, rfl, p, a.C, dx, _, rfl, upd_same, T.cl, T.n_to_go, (by show 13 < 1000; decide), ?_⟩
    have fr : ∀ l, l ≠ p → l ≠ lo → l ≠ l0 → l ≠ l1 → l ≠ lw → True := fun _ _ _ _ _ _ => trivial
    have z1 : H lo = none := free_upd (free_upd (free_upd (free_upd (free_upd (free_upd hlo)))))
    have z2 : H l0 = none := free_upd (free_upd (free_upd (free_upd (free_upd (free_upd (free_upd (free_upd hl0)))))))
    have z3 : H l1 = none := free_upd (free_upd (free_upd (free_upd (free_upd (free_upd (free_upd (free_upd (free_upd hl1))))))))
    have z4 : H lw = none := free_upd (free_upd (free_upd (free_upd (free_upd (free_upd (free_upd (free_upd (free_upd (free_upd hlw)))))))))
    have z5 : H lc = none := free_upd (free_upd (free_upd (free_upd (free_upd (free_upd (free_upd (free_upd (free_upd (free_upd (free_upd (free_upd hlc)))))))))))
    refine kq _ ⟨p, dx, lo, lw, l0, l1, lc⟩ rfl rfl z1 z4 z2 z3 z5 ⟨?_, ?_, ?_, ?_, ?_, ?_, ⟨m5, m2, m3, m11, m6.symm, m7.symm, m8, m4, m10, m9⟩⟩ fun b o e hb => ?_
    · rw [upd_same]
      rfl
    · simp only [upd_ne n1.symm, upd_ne m11, upd_ne m5, upd_ne m3, upd_ne m2, upd_same]
    · simp only [upd_ne n4.symm, upd_ne m8, upd_same]
    · simp only [upd_ne n2.symm, upd_ne m10, upd_ne m6, upd_ne m4, upd_same]
    · simp only [upd_ne n3.symm, upd_ne m9, upd_ne m7, upd_same]
    · simp only [upd_ne n5.symm, upd_same]
    · simp only [upd_ne hb, upd_ne (ne_of_none e z1), upd_ne (ne_of_none e z2), upd_ne (ne_of_none e z3), upd_ne (ne_of_none e z4), upd_ne (ne_of_none e z5)]
      exact e
/-! ### twin -/
theorem upd_lf {H : Hp} {x C dx : Addr} {fs : List (Str × V)} {f' : LF} (e : fs = lf f') : upd H x (.ins C dx fs) x = some (.ins C dx (lf f')) := by rw [upd_same, e]
theorem same_upd {H H1 : Hp} {x : Addr} {o : HO} (S : Same H H1) (h : H x = none) : Same H (upd H1 x o) := fun b u e => by rw [upd_ne (ne_of_none e h)]; exact S b u e
def SameX (x : Addr) (H H' : Hp) : Prop := ∀ b o, H b = some o → b ≠ x → H' b = some o
theorem SameX.trans {x : Addr} {H H1 H2 : Hp} (a : SameX x H H1) (b : SameX x H1 H2) : SameX x H H2 := fun c o h n => b c o (a c o h n) n
theorem sx_upd {x : Addr} {H : Hp} {o : HO} : SameX x H (upd H x o) := fun b u e n => by rw [upd_ne n]; exact e
theorem sx_new {x l : Addr} {H : Hp} {o : HO} (h : H l = none) : SameX x H (upd H l o) := fun b u e _ => same_new h b u e
theorem Same.back {H H1 : Hp} (S : Same H H1) {l : Addr} (h : H1 l = none) : H l = none := S.free h
def sp_twin (C : Addr) : Sp := fun vs H Q _ => ∃ (A : Ad) (k : Lock), vs = [.ref A.p] ∧ LockAt C H A k ∧
  ∀ (H' : Hp) (B : Ad), LockAt C H' B k → Same H H' → H B.p = none → H B.lo = none → H B.lw = none → H B.l0 = none → H B.l1 = none → H B.lc = none → Q (.ref B.p) H'
theorem ok_twin (T : Txt K mg a) : FnOk P w K mg base CX0 3 a.f_twin a.d_twin ["self"] (sp_twin a.C) := by
  refine T.F_twin.ok sc_twin (fun vs H Q E h => ?_) (fun cdv Ar outer s H vs Q E hr h => ?_)
  · obtain ⟨A, k, rfl, _⟩ := h
    rfl
  · obtain ⟨A, k, rfl, ⟨mv, inw, x0, x1, xc, L⟩, kq⟩ := h
    have R := L.raw
    refine ⟨_, pss_cons (ps_set (i := 1) sc_twin.nd rfl (Or.inl rfl) (pe_make T.mkC (ok_init T) (hr.mono (by decide)) (by rfl) T.mgC T.b_init .nil pass0 (pa_cons (pe_fld (pv 0) rfl) (pa_cons (pe_fld (pv 0) rfl) (pa_cons (pe_fld (pv 0) rfl) (pa_cons (pe_fld (pv 0) rfl) pa_nil))))))
      (pss_cons (ps_fld (pv 1) (pe_fld (pv 0) rfl) rfl) (pss_cons (ps_fld (pv 1) (pe_fld (pv 0) rfl) rfl) (pss_cons (ps_fld (pv 1) (pe_callTy call_list_of (by rfl) T.z_list PyProof.Rows.boot_list (pa_cons (pe_fld (pv 0) rfl) pa_nil)) rfl) (pss_cons (ps_fld (pv 1) (pe_lst (pa_cons (pe_callTy call_list_of (by rfl) T.z_list PyProof.Rows.boot_list (pa_cons (pe_ix ix_list (pe_fld (pv 0) rfl) pe_int (fun _ _ => rfl)) pa_nil)) (pa_cons (pe_callTy call_list_of (by rfl) T.z_list PyProof.Rows.boot_list (pa_cons (pe_ix ix_list (pe_fld (pv 0) rfl) pe_int (fun _ _ => rfl)) pa_nil)) pa_nil))) rfl) (pss_cons (ps_fld (pv 1) (pe_callTy call_list_of (by rfl) T.z_list PyProof.Rows.boot_list (pa_cons (pe_fld (pv 0) rfl) pa_nil)) rfl) (pss_cons (ps_fld (pv 1) (pe_fld (pv 0) rfl) rfl) (pss_cons (ps_fld (pv 1) (pe_fld (pv 0) rfl) rfl) (pss_cons (ps_fld (pv 1) (pe_fld (pv 0) rfl) rfl) (pss_cons (ps_fld (pv 1) (pe_fld (pv 0) rfl) rfl) (pss_cons (ps_fld (pv 1) (pe_fld (pv 0) rfl) rfl) (pss_one (ps_ret (pv 1))))))))))))), ?_⟩
    refine ⟨_, rfl, _, _, _, _, _, rfl, R.ob, T.cl, T.n_room, lk_room _, _, rfl, _, _, _, _, _, rfl, R.ob, T.cl, T.n_high, lk_high _, _, rfl, _, _, _, _, _, rfl, R.ob, T.cl, T.n_gate, lk_gate _, _, rfl, _, _, _, _, _, rfl, R.ob, T.cl, T.n_move, lk_move _, fun x dx nx ndx nex => ?_⟩
    refine ⟨x, dx, _, _, _, _, rfl, upd_same, fun H1 B hBp hBd _ _ _ _ _ RB kp => ⟨rfl, ?_⟩⟩
    have S1 : Same H H1 := fun b o e => kp b o (by rw [upd_ne (ne_of_none e nx), upd_ne (ne_of_none e ndx)]; exact e) (ne_of_none e nx)
    have h1 : H1 x = some (.ins a.C dx (lf (fresh (k.make.room : Nat) (k.make.high : Nat) (k.make.gate : Nat) (k.make.move : Nat) B))) := by rw [← hBp, ← hBd]; exact RB.ob
    refine ⟨_, rfl, _, _, _, _, _, rfl, (R.same S1).ob, T.cl, T.n_phase, lk_phase _, _, rfl, _, _, _, _, rfl, h1, T.cl, T.n_phase, lf_len _, ?_⟩
    refine ⟨_, rfl, _, _, _, _, _, rfl, (R.same (same_upd S1 nx)).ob, T.cl, T.n_water, lk_water _, _, rfl, _, _, _, _, rfl, (upd_lf (pt_phase _ _)), T.cl, T.n_water, lf_len _, ?_⟩
    refine ⟨_, rfl, _, _, _, _, _, rfl, (R.same (same_upd (same_upd S1 nx) nx)).ob, T.cl, T.n_openings, lk_openings _, _, _, rfl, .inl (SqL.of (R.same (same_upd (same_upd S1 nx) nx)).op), fun lo hlo => ?_⟩
    have ne_lo : lo ≠ x := (ne_of_none (upd_lf (pt_water _ _)) hlo).symm
    have z_lo : H lo = none := Same.free (same_upd (same_upd S1 nx) nx) hlo
    refine ⟨_, rfl, _, _, _, _, rfl, (same_new hlo _ _ (upd_lf (pt_water _ _))), T.cl, T.n_openings, lf_len _, ?_⟩
    refine ⟨_, rfl, _, _, _, _, _, rfl, (R.same (same_upd (Same.trans (same_upd (same_upd S1 nx) nx) (same_new hlo)) nx)).ob, T.cl, T.n_waiting, lk_waiting _, _, _, _, _, rfl, rfl, SqL.of (R.same (same_upd (Same.trans (same_upd (same_upd S1 nx) nx) (same_new hlo)) nx)).wt, at_z 0 rfl rfl, _, _, rfl, .inl (SqL.of (R.same (same_upd (Same.trans (same_upd (same_upd S1 nx) nx) (same_new hlo)) nx)).b0), fun l0 hl0 => ?_⟩
    have ne_l0 : l0 ≠ x := (ne_of_none (upd_lf (pt_openings _ _)) hl0).symm
    have z_l0 : H l0 = none := Same.free (same_upd (Same.trans (same_upd (same_upd S1 nx) nx) (same_new hlo)) nx) hl0
    have d_lo_l0 : lo ≠ l0 := ne_of_none (sx_upd _ _ upd_same ne_lo) hl0
    refine ⟨_, rfl, _, _, _, _, _, rfl, (R.same (Same.trans (same_upd (Same.trans (same_upd (same_upd S1 nx) nx) (same_new hlo)) nx) (same_new hl0))).ob, T.cl, T.n_waiting, lk_waiting _, _, _, _, _, rfl, rfl, SqL.of (R.same (Same.trans (same_upd (Same.trans (same_upd (same_upd S1 nx) nx) (same_new hlo)) nx) (same_new hl0))).wt, at_z 1 rfl rfl, _, _, rfl, .inl (SqL.of (R.same (Same.trans (same_upd (Same.trans (same_upd (same_upd S1 nx) nx) (same_new hlo)) nx) (same_new hl0))).b1), fun l1 hl1 => ?_⟩
    have ne_l1 : l1 ≠ x := (ne_of_none (same_new hl0 _ _ (upd_lf (pt_openings _ _))) hl1).symm
    have z_l1 : H l1 = none := Same.free (Same.trans (same_upd (Same.trans (same_upd (same_upd S1 nx) nx) (same_new hlo)) nx) (same_new hl0)) hl1
    have d_lo_l1 : lo ≠ l1 := ne_of_none (same_new hl0 _ _ (sx_upd _ _ upd_same ne_lo)) hl1
    have d_l0_l1 : l0 ≠ l1 := ne_of_none upd_same hl1
    refine ⟨(by show 2 ≤ sizeLine; decide), fun lw hlw => ?_⟩
    have ne_lw : lw ≠ x := (ne_of_none (same_new hl1 _ _ (same_new hl0 _ _ (upd_lf (pt_openings _ _)))) hlw).symm
    have z_lw : H lw = none := Same.free (Same.trans (Same.trans (same_upd (Same.trans (same_upd (same_upd S1 nx) nx) (same_new hlo)) nx) (same_new hl0)) (same_new hl1)) hlw
    have d_lo_lw : lo ≠ lw := ne_of_none (same_new hl1 _ _ (same_new hl0 _ _ (sx_upd _ _ upd_same ne_lo))) hlw
    have d_l0_lw : l0 ≠ lw := ne_of_none (same_new hl1 _ _ upd_same) hlw
    have d_l1_lw : l1 ≠ lw := ne_of_none upd_same hlw
    refine ⟨_, rfl, _, _, _, _, rfl, (same_new hlw _ _ (same_new hl1 _ _ (same_new hl0 _ _ (upd_lf (pt_openings _ _))))), T.cl, T.n_waiting, lf_len _, ?_⟩
    refine ⟨_, rfl, _, _, _, _, _, rfl, (R.same (same_upd (Same.trans (Same.trans (Same.trans (same_upd (Same.trans (same_upd (same_upd S1 nx) nx) (same_new hlo)) nx) (same_new hl0)) (same_new hl1)) (same_new hlw)) nx)).ob, T.cl, T.n_chamber, lk_chamber _, _, _, rfl, .inl (SqL.of (R.same (same_upd (Same.trans (Same.trans (Same.trans (same_upd (Same.trans (same_upd (same_upd S1 nx) nx) (same_new hlo)) nx) (same_new hl0)) (same_new hl1)) (same_new hlw)) nx)).ch), fun lc hlc => ?_⟩
    have ne_lc : lc ≠ x := (ne_of_none (upd_lf (pt_waiting _ _)) hlc).symm
    have z_lc : H lc = none := Same.free (same_upd (Same.trans (Same.trans (Same.trans (same_upd (Same.trans (same_upd (same_upd S1 nx) nx) (same_new hlo)) nx) (same_new hl0)) (same_new hl1)) (same_new hlw)) nx) hlc
    have d_lo_lc : lo ≠ lc := ne_of_none (sx_upd _ _ (same_new hlw _ _ (same_new hl1 _ _ (same_new hl0 _ _ (sx_upd _ _ upd_same ne_lo)))) ne_lo) hlc
    have d_l0_lc : l0 ≠ lc := ne_of_none (sx_upd _ _ (same_new hlw _ _ (same_new hl1 _ _ upd_same)) ne_l0) hlc
    have d_l1_lc : l1 ≠ lc := ne_of_none (sx_upd _ _ (same_new hlw _ _ upd_same) ne_l1) hlc
    have d_lw_lc : lw ≠ lc := ne_of_none (sx_upd _ _ upd_same ne_lw) hlc
    refine ⟨_, rfl, _, _, _, _, rfl, (same_new hlc _ _ (upd_lf (pt_waiting _ _))), T.cl, T.n_chamber, lf_len _, ?_⟩
    refine ⟨_, rfl, _, _, _, _, _, rfl, (R.same (same_upd (Same.trans (same_upd (Same.trans (Same.trans (Same.trans (same_upd (Same.trans (same_upd (same_upd S1 nx) nx) (same_new hlo)) nx) (same_new hl0)) (same_new hl1)) (same_new hlw)) nx) (same_new hlc)) nx)).ob, T.cl, T.n_filled, lk_filled _, _, rfl, _, _, _, _, rfl, (upd_lf (pt_chamber _ _)), T.cl, T.n_filled, lf_len _, ?_⟩
    refine ⟨_, rfl, _, _, _, _, _, rfl, (R.same (same_upd (same_upd (Same.trans (same_upd (Same.trans (Same.trans (Same.trans (same_upd (Same.trans (same_upd (same_upd S1 nx) nx) (same_new hlo)) nx) (same_new hl0)) (same_new hl1)) (same_new hlw)) nx) (same_new hlc)) nx) nx)).ob, T.cl, T.n_leaving, lk_leaving _, _, rfl, _, _, _, _, rfl, (upd_lf (pt_filled _ _)), T.cl, T.n_leaving, lf_len _, ?_⟩
    refine ⟨_, rfl, _, _, _, _, _, rfl, (R.same (same_upd (same_upd (same_upd (Same.trans (same_upd (Same.trans (Same.trans (Same.trans (same_upd (Same.trans (same_upd (same_upd S1 nx) nx) (same_new hlo)) nx) (same_new hl0)) (same_new hl1)) (same_new hlw)) nx) (same_new hlc)) nx) nx) nx)).ob, T.cl, T.n_mover, lk_mover _, _, rfl, _, _, _, _, rfl, (upd_lf (pt_leaving _ _)), T.cl, T.n_mover, lf_len _, ?_⟩
    refine ⟨_, rfl, _, _, _, _, _, rfl, (R.same (same_upd (same_upd (same_upd (same_upd (Same.trans (same_upd (Same.trans (Same.trans (Same.trans (same_upd (Same.trans (same_upd (same_upd S1 nx) nx) (same_new hlo)) nx) (same_new hl0)) (same_new hl1)) (same_new hlw)) nx) (same_new hlc)) nx) nx) nx) nx)).ob, T.cl, T.n_inward, lk_inward _, _, rfl, _, _, _, _, rfl, (upd_lf (pt_mover _ _)), T.cl, T.n_inward, lf_len _, ?_⟩
    refine ⟨_, rfl, _, _, _, _, _, rfl, (R.same (same_upd (same_upd (same_upd (same_upd (same_upd (Same.trans (same_upd (Same.trans (Same.trans (Same.trans (same_upd (Same.trans (same_upd (same_upd S1 nx) nx) (same_new hlo)) nx) (same_new hl0)) (same_new hl1)) (same_new hlw)) nx) (same_new hlc)) nx) nx) nx) nx) nx)).ob, T.cl, T.n_to_go, lk_to_go _, _, rfl, _, _, _, _, rfl, (upd_lf (pt_inward _ _)), T.cl, T.n_to_go, lf_len _, ?_⟩
    refine ⟨_, rfl, ?_⟩
    have fin : ∀ H' : Hp, Same H H' → H' x = some (.ins a.C dx (lf (bas ⟨x, dx, lo, lw, l0, l1, lc⟩ k mv inw))) → H' lo = some (.lst [.int (k.lower : Nat), .int (k.upper : Nat)]) → H' lw = some (.lst [.ref l0, .ref l1]) → H' l0 = some (.lst x0) → H' l1 = some (.lst x1) → H' lc = some (.lst xc) → Q (.ref x) H' := fun H' S' g1 g2 g3 g4 g5 g6 =>
      kq H' ⟨x, dx, lo, lw, l0, l1, lc⟩ ⟨mv, inw, x0, x1, xc, ⟨g1, g2, g3, g4, g5, g6, ⟨d_lo_lw, d_lo_l0, d_lo_l1, d_lo_lc, d_l0_lw.symm, d_l1_lw.symm, d_lw_lc, d_l0_l1, d_l0_lc, d_l1_lc⟩⟩, L.s0.keep (tk_same S'), L.s1.keep (tk_same S'), L.sc.keep (tk_same S'), L.mv.keep (tk_same S')⟩ S' nx z_lo z_lw z_l0 z_l1 z_lc
    exact fin _ (same_upd (same_upd (same_upd (same_upd (same_upd (same_upd (Same.trans (same_upd (Same.trans (Same.trans (Same.trans (same_upd (Same.trans (same_upd (same_upd S1 nx) nx) (same_new hlo)) nx) (same_new hl0)) (same_new hl1)) (same_new hlw)) nx) (same_new hlc)) nx) nx) nx) nx) nx) nx) (upd_lf (pt_to_go _ _)) (sx_upd _ _ (sx_upd _ _ (sx_upd _ _ (sx_upd _ _ (sx_upd _ _ (sx_upd _ _ (same_new hlc _ _ (sx_upd _ _ (same_new hlw _ _ (same_new hl1 _ _ (same_new hl0 _ _ (sx_upd _ _ upd_same ne_lo)))) ne_lo)) ne_lo) ne_lo) ne_lo) ne_lo) ne_lo) ne_lo) (sx_upd _ _ (sx_upd _ _ (sx_upd _ _ (sx_upd _ _ (sx_upd _ _ (sx_upd _ _ (same_new hlc _ _ (sx_upd _ _ upd_same ne_lw)) ne_lw) ne_lw) ne_lw) ne_lw) ne_lw) ne_lw) (sx_upd _ _ (sx_upd _ _ (sx_upd _ _ (sx_upd _ _ (sx_upd _ _ (sx_upd _ _ (same_new hlc _ _ (sx_upd _ _ (same_new hlw _ _ (same_new hl1 _ _ upd_same)) ne_l0)) ne_l0) ne_l0) ne_l0) ne_l0) ne_l0) ne_l0) (sx_upd _ _ (sx_upd _ _ (sx_upd _ _ (sx_upd _ _ (sx_upd _ _ (sx_upd _ _ (same_new hlc _ _ (sx_upd _ _ (same_new hlw _ _ upd_same) ne_l1)) ne_l1) ne_l1) ne_l1) ne_l1) ne_l1) ne_l1) (sx_upd _ _ (sx_upd _ _ (sx_upd _ _ (sx_upd _ _ (sx_upd _ _ (sx_upd _ _ upd_same ne_lc) ne_lc) ne_lc) ne_lc) ne_lc) ne_lc)
end
end Ship

namespace Ship
open PySem L2
open Sn73 (Lock Coming Event)
/-- a list apart is written -/
theorem LockAt.off {C : Addr} {H : Hp} {A : Ad} {k : Lock} {lt : Addr} {xs ys : List V} (L : LockAt C H A k) (h : H lt = some (.lst xs)) (n1 : lt ≠ A.lo) (n2 : lt ≠ A.lw) (n3 : lt ≠ A.l0) (n4 : lt ≠ A.l1) (n5 : lt ≠ A.lc) : LockAt C (upd H lt (.lst ys)) A k := by
  obtain ⟨mv, inw, x0, x1, xc, F⟩ := L
  have R := F.raw
  have t : TK H (upd H lt (.lst ys)) := tk_lst h
  have np : A.p ≠ lt := ne_of R.ob h (by intro z; cases z)
  exact ⟨mv, inw, x0, x1, xc, ⟨by rw [upd_ne np]; exact R.ob, by rw [upd_ne n1.symm]; exact R.op, by rw [upd_ne n2.symm]; exact R.wt, by rw [upd_ne n3.symm]; exact R.b0, by rw [upd_ne n4.symm]; exact R.b1, by rw [upd_ne n5.symm]; exact R.ch, R.nd⟩, F.s0.keep t, F.s1.keep t, F.sc.keep t, F.mv.keep t⟩
theorem Fr.trans' {A : Ad} {H H1 : Hp} {lt : Addr} {o : HO} (a : Fr A H H1) (h : H lt = none) : Fr A H (upd H1 lt o) := fun b u e n1 n2 n3 n4 n5 => by rw [upd_ne (ne_of_none e h)]; exact a b u e n1 n2 n3 n4 n5
theorem goOn_in (k : Lock) (d : Nat) : (M.goOn k d).inside = k.inside ∧ (M.goOn k d).moving = k.moving ∧ (M.goOn k d).phase = k.phase := by
  unfold M.goOn
  repeat' split
  all_goals exact ⟨rfl, rfl, rfl⟩
theorem pot_in (k : Lock) : k.inside.length ≤ M.pot k ∧ k.below.length + k.above.length ≤ M.pot k ∧ 4 * (k.below.length + k.above.length) ≤ M.pot k := by
  unfold M.pot
  omega
section
variable {P : Program} {w : World} {K : PySem.W.Frag} {mg : Str → Option Value} {base : Heap} {a : Adr}
/-! ### pass_seconds -/
def sp_pass (C : Addr) : Sp := fun vs H Q _ => ∃ (A : Ad) (k : Lock) (c : Addr) (l : List Coming) (n most : Nat), vs = [.ref A.p, .int (n : Int), .int (most : Int), .ref c] ∧ LockAt C H A k ∧ M.Good k ∧ H c = some (.lst ((M.flat l).map V.int)) ∧ c ≠ A.lo ∧ c ≠ A.l0 ∧ c ≠ A.l1 ∧ c ≠ A.lc ∧
  M.Up l ∧ (∀ x ∈ l, 1 ≤ x.time ∧ x.time ≤ n ∧ x.side ≤ 1) ∧ k.count + l.length ≤ 4096 ∧
  ∀ (H' : Hp) (lt : Addr) (T : List Nat) (k' : Lock), LockAt C H' A k' → Fr A H H' → H lt = none → H' lt = some (.lst (T.map iV)) → T.length ≤ 16384 → (T.length ≤ most → T = M.toldAt k l n ∧ k' = M.stAt k l n ∧ M.Good k') → (most < T.length → most < (M.toldAt k l n).length) → Q (.ref lt) H'
theorem ok_pass (T : Txt K mg a) : FnOk P w K mg base CX0 4 a.f_pass a.d_pass ["lock", "n", "most", "comings"] (sp_pass a.C) := by
  refine T.F_pass.ok sc_pass (fun vs H Q E h => ?_) (fun cdv Ar outer s H vs Q E hr h => ?_)
  · obtain ⟨A, k, c, l, n, most, rfl, _⟩ := h
    rfl
  · obtain ⟨A, k, c, l, n, most, rfl, hL, g, hc, nco, nc0, nc1, ncc, hu, hcs, hcnt, kq⟩ := h
    refine ⟨_, pss_cons (ps_set (i := 4) sc_pass.nd rfl (Or.inl rfl) (pe_lst pa_nil)) (pss_cons (ps_set (i := 5) sc_pass.nd rfl (Or.inl rfl) pe_int) (pss_cons (ps_set (i := 6) sc_pass.nd rfl (Or.inl rfl) pe_int)
      (pss_cons (ps_while PassesOwn.never (pw_and (pt_cmpR op_lt (pv 5) (pv 1) (nomark _)) (pw_and1 (pt_cmpR op_le (pe_callB call_len_seq (by rfl) T.z_len PySem.boot_len (pa_cons (pv 4) pa_nil)) (pv 2) (nomark _)))).pt
        (pss_cons (ps_set (i := 7) sc_pass.nd rfl (Or.inl rfl) (pe_meth0 (pv 0) T.cl T.m_left (ok_left T) (hr.mono (by decide)) T.b_left .nil pass0))
        (pss_one (ps_if (pt_cmpR op_gt (pv 7) pe_int (nomark _))
          (pss_cons (ps_set (i := 8) sc_pass.nd rfl (Or.inl rfl) (pe_callB (call_min2 rfl) (by rfl) T.z_min PyProof.Rows.boot_min (pa_cons (pv 7) (pa_cons (pe_op op_sub (pv 1) (pv 5)) pa_nil))))
          (pss_cons (ps_aug (i := 5) sc_pass.nd rfl (Or.inl rfl) (pv 8) ip_add)
          (pss_cons (ps_expr (pe_meth (pv 0) T.cl T.m_goon (ok_goon T) (hr.mono (by decide)) T.b_goon .nil pass0 (pa_cons (pv 8) pa_nil)))
          (pss_one (ps_if (pt_cmpR op_eq (pv 8) (pv 7) (nomark _)) (pss_one (ps_expr (pe_bm PySem.F.plainAttrs_list PySem.F.slot_list_extend PySem.F.type_list_extend mt_extend (pv 4) (pa_cons (pe_meth (pv 0) T.cl T.m_arrive (ok_arrive T) (hr.mono (by decide)) T.b_arrive .nil pass0 (pa_cons (pv 5) pa_nil)) pa_nil)))) pss_nil)))))
          (pss_cons (ps_aug (i := 5) sc_pass.nd rfl (Or.inl rfl) pe_int ip_add)
          (pss_cons (ps_set (i := 6) sc_pass.nd rfl (Or.inl rfl) (pe_meth (pv 0) T.cl T.m_take (ok_take T) (hr.mono (by decide)) T.b_take .nil pass0 (pa_cons (pv 3) (pa_cons (pv 6) (pa_cons (pv 5) pa_nil)))))
          (pss_one (ps_if (pt_not (pt_val (pe_meth0 (pv 0) T.cl T.m_choose (ok_choose T) (hr.mono (by decide)) T.b_choose .nil pass0)))
            (pss_one (ps_set (i := 5) sc_pass.nd rfl (Or.inl rfl) (pe_ifExp (pt_cmpR op_lt (pv 6) (pe_callB call_len_seq (by rfl) T.z_len PySem.boot_len (pa_cons (pv 3) pa_nil)) (nomark _)) (pe_op op_sub (pe_ix ix_list (pv 3) (pv 6) (fun _ _ => rfl)) pe_int) (pv 1))))
            pss_nil))))))))
      (pss_cons (ps_expr (pe_meth (pv 0) T.cl T.m_take (ok_take T) (hr.mono (by decide)) T.b_take .nil pass0 (pa_cons (pv 3) (pa_cons (pv 6) (pa_cons (pv 1) pa_nil)))))
      (pss_one (ps_ret (pv 4))))))), ?_⟩
    obtain ⟨mvi, inwi, x0i, x1i, xci, Li⟩ := id hL
    have Ri := Li.raw
    have ncp : c ≠ A.p := ne_of hc Ri.ob (by intro z; cases z)
    have elen : (((M.flat l).map V.int).length : Int) = ((4 * l.length : Nat) : Int) := by rw [List.length_map, M.flat_len]
    refine ⟨(by show 0 ≤ sizeLine; decide), fun lt hlt => ?_⟩
    have nlp : lt ≠ A.p := (ne_of_none Ri.ob hlt).symm
    have nlo : lt ≠ A.lo := (ne_of_none Ri.op hlt).symm
    have nlw : lt ≠ A.lw := (ne_of_none Ri.wt hlt).symm
    have nl0 : lt ≠ A.l0 := (ne_of_none Ri.b0 hlt).symm
    have nl1 : lt ≠ A.l1 := (ne_of_none Ri.b1 hlt).symm
    have nlc : lt ≠ A.lc := (ne_of_none Ri.ch hlt).symm
    refine ⟨fun m σ H1 => ∃ (s j : Nat) (k1 : Lock) (Ts : List Nat) (v7 v8 : Option V), σ = [some (.ref A.p), some (.int (n : Int)), some (.int (most : Int)), some (.ref c), some (.ref lt), some (.int (s : Int)), some (.int ((4 * j : Nat) : Int)), v7, v8] ∧ LockAt a.C H1 A k1 ∧ Fr A H H1 ∧ H1 lt = some (.lst (Ts.map iV)) ∧ M.Sim k l n s j k1 Ts ∧ m = n - s,
      ⟨n, 0, 0, k, [], none, none, rfl, hL.same (same_new hlt), fr_same (same_new hlt), upd_same, M.Sim.start hu (fun x hx => (hcs x hx).1) g hcnt, rfl⟩, ?_⟩
    rintro m σ H1 ⟨s, j, k1, Ts, v7, v8, rfl, hL1, F1, ht1, S, rfl⟩
    obtain ⟨mv, inw, x0, x1, xc, L⟩ := id hL1
    have R := L.raw
    have hc1 := F1 c _ hc ncp nco nc0 nc1 ncc
    have hpot := S.pot
    obtain ⟨pi1, pi2, pi3⟩ := pot_in k1
    have hside : ∀ x ∈ l, x.side ≤ 1 := fun x hx => (hcs x hx).2.2
    have hsl : (16384 : Nat) < sizeLine := by decide
    have sizes : k1.below.length + k1.above.length + (l.length - j) < sizeLine := by omega
    -- the end
    have fin : (s = n ∨ most < Ts.length) → sp_take a.C [.ref A.p, .ref c, .int ((4 * j : Nat) : Int), .int (n : Int)] H1 (fun _ H2 => ∃ v, ([some (.ref A.p), some (.int (n : Int)), some (.int (most : Int)), some (.ref c), some (.ref lt), some (.int (s : Int)), some (.int ((4 * j : Nat) : Int)), v7, v8] : St)[4]? = some (some v) ∧ Q v H2) E0 := fun hend =>
      ⟨A, k1, c, l, j, n, rfl, hL1, hc1, nco, nc0, nc1, ncc, hu, hside, S.jn, sizes, fun H2 L2 F2 => ⟨_, rfl, by
        refine kq H2 lt Ts _ L2 (F1.trans F2) hlt (F2 lt _ ht1 nlp nlo nl0 nl1 nlc) (by omega) (fun hle => ?_) fun hgt => ?_
        · rcases hend with rfl | hend
          · exact ⟨S.tl.symm, S.st.symm, S.good.add _⟩
          · omega
        · have h1 := M.toldAt_mono k l s (n - s)
          have h2 : s + (n - s) = n := by have := S.sn; omega
          rw [h2, S.tl] at h1
          omega⟩⟩
    refine ⟨_, rfl, _, rfl, _, _, rfl, rfl, _, rfl, ?_⟩
    by_cases hsn : s < n
    · refine ifT (by omega) ?_
      refine ⟨_, rfl, _, _, rfl, .inl (SqL.of ht1), _, rfl, _, _, rfl, rfl, _, rfl, ?_⟩
      by_cases htm : Ts.length ≤ most
      · refine ifT (by rw [List.length_map]; omega) ?_
        refine ⟨fun σ' H' => ∃ m', m' < n - s ∧ ∃ (s j : Nat) (k1 : Lock) (Ts : List Nat) (v7 v8 : Option V), σ' = [some (.ref A.p), some (.int (n : Int)), some (.int (most : Int)), some (.ref c), some (.ref lt), some (.int (s : Int)), some (.int ((4 * j : Nat) : Int)), v7, v8] ∧ LockAt a.C H' A k1 ∧ Fr A H H' ∧ H' lt = some (.lst (Ts.map iV)) ∧ M.Sim k l n s j k1 Ts ∧ m' = n - s, fun _ _ h => h, ?_⟩
        -- left = lock.seconds_left()
        refine ⟨_, rfl, _, _, _, rfl, R.ob, no_left _, A, k1, rfl, hL1, S.good, ?_⟩
        refine ⟨_, rfl, _, _, rfl, rfl, _, rfl, ?_⟩
        by_cases h0 : M.left k1 = 0
        · refine ifF (by rw [h0]; decide) ?_
          have es : (s : Int) + 1 = ((s + 1 : Nat) : Int) := by omega
          refine ⟨_, rfl, _, _, rfl, rfl, ?_⟩
          dsimp only
          rw [es]
          refine ⟨_, rfl, _, _, _, rfl, R.ob, no_take _, _, rfl, _, rfl, _, rfl, A, k1, c, l, j, s + 1, rfl, hL1, hc1, nco, nc0, nc1, ncc, hu, hside, S.jn, sizes, fun H2 L2 F2 => ?_⟩
          obtain ⟨S2, hpe⟩ := S.chosen h0 hsn
          obtain ⟨hp0, hb0⟩ := S.good.left0 h0
          obtain ⟨mv2, inw2, y0, y1, yc, F2'⟩ := id L2
          have R2 := F2'.raw
          refine ⟨_, rfl, _, _, _, rfl, R2.ob, no_choose _, A, M.addAll k1 (M.pend l j (s + 1)), rfl, L2, S.good.add _, hp0, hb0, fun H3 b L3 F3 hid => ⟨_, rfl, ?_⟩⟩
          have hc3 := F3 c _ (F2 c _ hc1 ncp nco nc0 nc1 ncc) ncp nco nc0 nc1 ncc
          have ht3 := F3 lt _ (F2 lt _ ht1 nlp nlo nl0 nl1 nlc) nlp nlo nl0 nl1 nlc
          have F13 := (F1.trans F2).trans F3
          cases b with
          | true =>
            refine ifNT rfl ?_
            exact ⟨n - (s + 1), by omega, s + 1, M.past l j (s + 1), _, Ts, _, _, rfl, L3, F13, ht3, S2, rfl⟩
          | false =>
            have hI := hid rfl
            have eI : (M.addAll k1 (M.pend l j (s + 1))).atGate.1 = M.addAll k1 (M.pend l j (s + 1)) := by rw [M.gate_idle (S.good.add _) hb0 hI]
            rw [eI] at S2 L3
            have h02 : M.left (M.addAll k1 (M.pend l j (s + 1))) = 0 := by rw [M.left_add]; exact h0
            refine ifNF rfl ⟨_, rfl, _, rfl, _, _, rfl, .inl (SqL.of hc3), _, _, rfl, rfl, _, rfl, ?_⟩
            by_cases hj : M.past l j (s + 1) < l.length
            · have hg : l[M.past l j (s + 1)]? = some l[M.past l j (s + 1)] := List.getElem?_eq_getElem hj
              obtain ⟨q0, _, _, _⟩ := M.flat_get hg
              obtain ⟨c1, c2, _⟩ := hcs _ (List.getElem_mem hj)
              have hgt : ¬ l[M.past l j (s + 1)].time ≤ s + 1 := fun hle => by
                rw [M.pend_cons hg hle] at hpe
                cases hpe
              refine ifT (by rw [elen]; omega) ⟨_, rfl, _, rfl, _, _, _, _, rfl, rfl, SqL.of hc3, at_z (4 * M.past l j (s + 1)) rfl (map_at q0), _, _, rfl, rfl, ?_⟩
              have et : (l[M.past l j (s + 1)].time : Int) - 1 = ((s + 1 + (l[M.past l j (s + 1)].time - 1 - (s + 1)) : Nat) : Int) := by omega
              dsimp only
              rw [et]
              have S3 := S2.idle h02 hI (l[M.past l j (s + 1)].time - 1 - (s + 1)) (by omega) (M.pend_stop hu hg (by omega))
              exact ⟨n - (s + 1 + (l[M.past l j (s + 1)].time - 1 - (s + 1))), by omega, _, M.past l j (s + 1), _, Ts, _, _, rfl, L3, F13, ht3, S3, rfl⟩
            · refine ifF (by rw [elen]; omega) ⟨_, rfl, ?_⟩
              have en : n = s + 1 + (n - (s + 1)) := by omega
              have S3 := S2.idle h02 hI (n - (s + 1)) (by omega) (M.pend_end (by omega))
              rw [← en] at S3
              exact ⟨n - n, by omega, n, M.past l j (s + 1), _, Ts, _, _, rfl, L3, F13, ht3, S3, rfl⟩
        · refine ifT (by omega) ?_
          obtain ⟨d, hd⟩ : ∃ d, d = min (M.left k1) (n - s) := ⟨_, rfl⟩
          have ed : (if ((n : Int) - (s : Int)) < ((M.left k1 : Nat) : Int) then ((n : Int) - (s : Int)) else ((M.left k1 : Nat) : Int)) = ((d : Nat) : Int) := by
            split <;> omega
          have es : (s : Int) + ((d : Nat) : Int) = ((s + d : Nat) : Int) := by omega
          refine ⟨_, rfl, _, rfl, _, rfl, _, _, rfl, rfl, _, _, rfl, ?_⟩
          rw [ed]
          refine ⟨_, rfl, _, rfl, _, _, rfl, rfl, ?_⟩
          dsimp only
          rw [es]
          refine ⟨_, rfl, _, _, _, rfl, R.ob, no_goon _, _, rfl, A, k1, d, rfl, hL1, S.good, (by omega), fun H2 L2 F2 => ?_⟩
          obtain ⟨mv2, inw2, y0, y1, yc, F2'⟩ := id L2
          have R2 := F2'.raw
          have ht2 := F2 lt _ ht1 nlp nlo nl0 nl1 nlc
          refine ⟨_, rfl, _, rfl, rfl, _, rfl, ?_⟩
          by_cases hdl : d = M.left k1
          · refine ifEqT (by omega) ?_
            obtain ⟨gi1, gi2, gi3⟩ := goOn_in k1 d
            have S2 := S.arrive (by omega) (by omega)
            rw [← hdl] at S2
            have p2 := S2.pot
            refine ⟨_, rfl, .inl ⟨rfl, _, SqL.of ht2⟩, _, rfl, _, _, _, rfl, R2.ob, no_arrive _, _, rfl, A, M.goOn k1 d, s + d, rfl, L2, (by rw [gi3]; exact S.good.phase), ?_, (by rw [gi1]; omega), fun H3 l2 L3 F3 n3 h3 => ?_⟩
            · rw [gi2, gi3]
              intro hp hn
              have hb := S.good.mv.mp hn
              have : M.left k1 = k1.busy := by rcases hp with hp | hp <;> simp [M.left, hp]
              omega
            · have ht3 := F3 lt _ ht2 nlp nlo nl0 nl1 nlc
              rw [List.length_append] at p2
              refine ⟨_, _, _, _, rfl, rfl, ht3, h3, (by rw [List.length_map, List.length_map]; omega), ?_⟩
              refine ⟨n - (s + d), by omega, s + d, j, _, Ts ++ M.tells (s + d) (M.arrive (M.goOn k1 d)).2, _, _, rfl, L3.off ht3 nlo nlw nl0 nl1 nlc, ?_, by rw [upd_same, List.map_append], S2, rfl⟩
              exact ((F1.trans F2).trans F3).trans' hlt
          · refine ifEqF (by omega) ?_
            have S2 := S.more d (by omega) (by omega)
            exact ⟨n - (s + d), by omega, s + d, j, _, Ts, _, _, rfl, L2, F1.trans F2, ht2, S2, rfl⟩
      · refine ifF (by rw [List.length_map]; omega) ?_
        exact ⟨_, rfl, _, _, _, rfl, R.ob, no_take _, _, rfl, _, rfl, _, rfl, fin (.inr (by omega))⟩
    · refine ifF (by omega) ?_
      have := S.sn
      exact iteF ⟨_, rfl, _, _, _, rfl, R.ob, no_take _, _, rfl, _, rfl, _, rfl, fin (.inl (by omega))⟩
end
end Ship

namespace Ship
open PySem L2
open Sn73 (Lock Coming Event)
/-! ### the desk -/
/-- a list apart -/
structure Av (g : Addr) (A : Ad) : Prop where
  o : g ≠ A.lo
  w : g ≠ A.lw
  z : g ≠ A.l0
  u : g ≠ A.l1
  c : g ≠ A.lc
theorem av_new {H : Hp} {g : Addr} {o : HO} {A : Ad} (h : H g = some o) (n1 : H A.lo = none) (n2 : H A.lw = none) (n3 : H A.l0 = none) (n4 : H A.l1 = none) (n5 : H A.lc = none) : Av g A :=
  ⟨ne_of_none h n1, ne_of_none h n2, ne_of_none h n3, ne_of_none h n4, ne_of_none h n5⟩
def Holds (C g : Addr) (H : Hp) (q : Addr) : Option Lock → V → Prop
  | none, v => v = .non
  | some k, v => ∃ A : Ad, v = .ref A.p ∧ LockAt C H A k ∧ M.Good k ∧ q ≠ A.p ∧ Av g A
def DeskAt (C D g : Addr) (H : Hp) (q : Addr) (st : Option Lock) : Prop := ∃ dq v, H q = some (.ins D dq (df v)) ∧ Holds C g H q st v
theorem DeskAt.offg {C D g : Addr} {H : Hp} {q : Addr} {st : Option Lock} {xs ys : List V} (h : DeskAt C D g H q st) (hg : H g = some (.lst xs)) : DeskAt C D g (upd H g (.lst ys)) q st := by
  obtain ⟨dq, v, hq, hh⟩ := h
  refine ⟨dq, v, by rw [upd_ne (ne_of hq hg (by intro z; cases z))]; exact hq, ?_⟩
  cases st with
  | none => exact hh
  | some k =>
    obtain ⟨A, e, L, g1, n, av⟩ := hh
    exact ⟨A, e, L.off hg av.o av.w av.z av.u av.c, g1, n, av⟩
theorem DeskAt.same {C D g : Addr} {H H' : Hp} {q : Addr} {st : Option Lock} (h : DeskAt C D g H q st) (s : Same H H') : DeskAt C D g H' q st := by
  obtain ⟨dq, v, hq, hh⟩ := h
  refine ⟨dq, v, s _ _ hq, ?_⟩
  cases st with
  | none => exact hh
  | some k =>
    obtain ⟨A, e, L, g1, n⟩ := hh
    exact ⟨A, e, L.same s, g1, n⟩
theorem LockAt.offq {C D : Addr} {H : Hp} {A : Ad} {k : Lock} {q dq : Addr} {fs : List (Str × V)} {o : HO} (L : LockAt C H A k) (h : H q = some (.ins D dq fs)) (n : q ≠ A.p) : LockAt C (upd H q o) A k := by
  obtain ⟨mv, inw, x0, x1, xc, F⟩ := L
  have R := F.raw
  have t : TK H (upd H q o) := tk_ins h
  have u : ∀ {b : Addr} {ys : List V}, H b = some (.lst ys) → upd H q o b = some (.lst ys) := fun e => by rw [upd_ne (ne_of e h (by intro z; cases z))]; exact e
  exact ⟨mv, inw, x0, x1, xc, ⟨by rw [upd_ne n.symm]; exact R.ob, u R.op, u R.wt, u R.b0, u R.b1, u R.ch, R.nd⟩, F.s0.keep t, F.s1.keep t, F.sc.keep t, F.mv.keep t⟩
theorem sx_same {x : Addr} {H H' : Hp} (h : Same H H') : SameX x H H' := fun b o e _ => h b o e
section
variable {P : Program} {w : World} {K : PySem.W.Frag} {mg : Str → Option Value} {base : Heap} {a : Adr}
def sp_dinit (D : Addr) : Sp := fun vs H Q _ => ∃ (p dx : Addr), vs = [.ref p] ∧ H p = some (.ins D dx []) ∧ ∀ H' : Hp, H' p = some (.ins D dx (df .non)) → (∀ b o, H b = some o → b ≠ p → H' b = some o) → Q .non H'
theorem ok_dinit (T : Txt K mg a) : FnOk P w K mg base CX0 1 a.f_dinit a.d_dinit ["self"] (sp_dinit a.D) := by
  refine T.F_dinit.ok sc_dinit (fun vs H Q E h => ?_) (fun cdv Ar outer s H vs Q E hr h => ?_)
  · obtain ⟨p, dx, rfl, _⟩ := h
    rfl
  · obtain ⟨p, dx, rfl, hp, kq⟩ := h
    refine ⟨_, pss_one (ps_fld (pv 0) pe_non rfl), ?_⟩
    refine ⟨_, rfl, p, a.D, dx, _, rfl, hp, T.clD, T.n_lock, (by show 0 < 1000; decide), ?_⟩
    exact kq _ (by rw [upd_same, dp_new]) fun b o e hb => by rw [upd_ne hb]; exact e
/-! ### begin -/
def sp_begin (C D : Addr) : Sp := fun vs H Q _ => ∃ (q gv : Addr) (og : HO) (st : Option Lock) (r h g m : Int), vs = [.ref q, .int r, .int h, .int g, .int m] ∧ DeskAt C D gv H q st ∧ H gv = some og ∧
  ∀ (H' : Hp) (lr : Addr), DeskAt C D gv H' q (Sn73Neutral.step st [[0, r, h, g, m]]).1 → SameX q H H' → H lr = none → H' lr = some (.lst ((Sn73Neutral.step st [[0, r, h, g, m]]).2.map V.int)) → Q (.ref lr) H'
theorem ok_begin (T : Txt K mg a) : FnOk P w K mg base CX0 3 a.f_begin a.d_begin ["self", "room", "high", "gate", "move"] (sp_begin a.C a.D) := by
  refine T.F_begin.ok sc_begin (fun vs H Q E h => ?_) (fun cdv Ar outer s H vs Q E hr h => ?_)
  · obtain ⟨q, gv, og, st, r, h, g, m, rfl, _⟩ := h
    rfl
  · obtain ⟨q, gv, og, st, r, h, g, m, rfl, hD, hgv, kq⟩ := h
    obtain ⟨tw, hw⟩ := T.c_WRONG_VALUE
    refine ⟨_, pss_cons (ps_if (pw_or (pt_not (pt_val (pe_call (ok_within T) (hr.mono (by decide)) (by rfl) T.g_within T.F_within.kp T.b_within .nil pass0 (pa_cons (pv 1) (pa_cons pe_int (pa_cons pe_int pa_nil)))))) (pw_or1 (pt_not (pt_val (pe_call (ok_within T) (hr.mono (by decide)) (by rfl) T.g_within T.F_within.kp T.b_within .nil pass0 (pa_cons (pv 2) (pa_cons pe_int (pa_cons pe_int pa_nil)))))))).pt (pss_one (ps_ret (pe_lst (pa_cons (pe_glob (v := .int (-2)) (by rfl) hw ⟨_, rfl⟩) pa_nil)))) pss_nil)
      (pss_cons (ps_if (pw_or (pt_not (pt_val (pe_call (ok_within T) (hr.mono (by decide)) (by rfl) T.g_within T.F_within.kp T.b_within .nil pass0 (pa_cons (pv 3) (pa_cons pe_int (pa_cons pe_int pa_nil)))))) (pw_or1 (pt_not (pt_val (pe_call (ok_within T) (hr.mono (by decide)) (by rfl) T.g_within T.F_within.kp T.b_within .nil pass0 (pa_cons (pv 4) (pa_cons pe_int (pa_cons pe_int pa_nil)))))))).pt (pss_one (ps_ret (pe_lst (pa_cons (pe_glob (v := .int (-2)) (by rfl) hw ⟨_, rfl⟩) pa_nil)))) pss_nil)
      (pss_cons (ps_fld (pv 0) (pe_make T.mkC (ok_init T) (hr.mono (by decide)) (by rfl) T.mgC T.b_init .nil pass0 (pa_cons (pv 1) (pa_cons (pv 2) (pa_cons (pv 3) (pa_cons (pv 4) pa_nil))))) rfl)
      (pss_one (ps_ret (pe_lst (pa_cons pe_int pa_nil)))))), ?_⟩
    have bad : M.beg r h g m = false → ∀ l : Addr, H l = none → Q (.ref l) (upd H l (.lst [.int (-2)])) := fun hb l hl => by
      have e := M.beg_bad (s := st) hb
      refine kq _ l ?_ (sx_new hl) hl ?_
      · rw [e]
        exact hD.same (same_new hl)
      · rw [e, upd_same]
        rfl
    refine ⟨_, rfl, _, _, _, rfl, _, rfl, ?_⟩
    cases b1 : (decide (1 ≤ r) && decide (r ≤ 64)) with
    | false => exact ifNF rfl (iteT ⟨(by show 1 ≤ sizeLine; decide), bad (by simp [M.beg, b1])⟩)
    | true =>
      refine ifNT rfl ⟨_, rfl, _, _, _, rfl, _, rfl, ?_⟩
      cases b2 : (decide (1 ≤ h) && decide (h ≤ 1000)) with
      | false => exact ifNF rfl ⟨(by show 1 ≤ sizeLine; decide), bad (by simp [M.beg, b2])⟩
      | true =>
        refine ifNT rfl ⟨_, rfl, _, _, _, rfl, _, rfl, ?_⟩
        cases b3 : (decide (1 ≤ g) && decide (g ≤ 1000)) with
        | false => exact ifNF rfl (iteT ⟨(by show 1 ≤ sizeLine; decide), bad (by simp [M.beg, b3])⟩)
        | true =>
          refine ifNT rfl ⟨_, rfl, _, _, _, rfl, _, rfl, ?_⟩
          cases b4 : (decide (1 ≤ m) && decide (m ≤ 1000)) with
          | false => exact ifNF rfl ⟨(by show 1 ≤ sizeLine; decide), bad (by simp [M.beg, b4])⟩
          | true =>
            refine ifNT rfl ?_
            have hb : M.beg r h g m = true := by simp only [M.beg, b1, b2, b3, b4, Bool.and_self]
            have hi := M.beg_iff.mp hb
            obtain ⟨dq, v, hq, _⟩ := id hD
            refine ⟨_, rfl, _, rfl, _, rfl, _, rfl, fun x dx nx ndx nex => ?_⟩
            refine ⟨x, dx, _, _, _, _, rfl, upd_same, fun H1 B hBp hBd f1 f2 f3 f4 f5 RB kp => ⟨rfl, ?_⟩⟩
            have av : Av gv B := av_new hgv (free_upd (free_upd f1)) (free_upd (free_upd f2)) (free_upd (free_upd f3)) (free_upd (free_upd f4)) (free_upd (free_upd f5))
            have S1 : Same H H1 := fun b o e => kp b o (by rw [upd_ne (ne_of_none e nx), upd_ne (ne_of_none e ndx)]; exact e) (ne_of_none e nx)
            have nq : q ≠ B.p := by rw [hBp]; exact ne_of_none hq nx
            refine ⟨_, rfl, _, _, _, _, rfl, S1 _ _ hq, T.clD, T.n_lock, df_len _, ?_⟩
            refine ⟨(by show 1 ≤ sizeLine; decide), fun l hl => ?_⟩
            have e := M.beg_ok (s := st) hb
            have hl1 := free_upd hl
            refine kq _ l ?_ (((sx_same S1).trans sx_upd).trans (sx_new hl)) (S1.free hl1) (by rw [e, upd_same]; rfl)
            rw [e]
            refine DeskAt.same ?_ (same_new hl)
            refine ⟨dq, .ref x, by rw [upd_same, dp_lock], B, by rw [hBp], ?_, M.good_begin (by show 1 ≤ h.toNat; omega) (by show 1 ≤ g.toNat; omega) (by show 1 ≤ m.toNat; omega), nq, av⟩
            refine LockAt.offq ?_ (S1 _ _ hq) nq
            have ef : bas B { make := ⟨r.toNat, h.toNat, g.toNat, m.toNat⟩, lower := g.toNat } .non false = fresh r h g m B := by
              unfold bas fresh
              have e1 : ((r.toNat : Nat) : Int) = r := by omega
              have e2 : ((h.toNat : Nat) : Int) = h := by omega
              have e3 : ((g.toNat : Nat) : Int) = g := by omega
              have e4 : ((m.toNat : Nat) : Int) = m := by omega
              dsimp only
              rw [e1, e2, e3, e4]
              rfl
            have eg : ((g.toNat : Nat) : Int) = g := by omega
            refine ⟨.non, false, [], [], [], ?_, .nil, .nil, .nil, rfl⟩
            rw [ef]
            show Raw a.C H1 B (fresh r h g m B) (.int ((g.toNat : Nat) : Int)) (.int ((0 : Nat) : Int)) [] [] []
            rw [eg]
            exact RB
/-! ### run -/
def ans (x : Sn73.St × Sn73.Ans) : List Int := x.2.value :: Sn73Neutral.ints x.2.out
def sp_run (C D : Addr) : Sp := fun vs H Q _ => ∃ (q gv : Addr) (og : HO) (k : Lock) (c : Addr) (l : List Coming) (m n most : Int), vs = [.ref q, .int m, .int n, .int most, .ref c] ∧ DeskAt C D gv H q (some k) ∧ H gv = some og ∧ H c = some (.lst ((M.flat l).map V.int)) ∧ (0 ≤ m → m ≤ 1024 → (l.length : Int) = m) ∧
  ∀ (H' : Hp) (lr : Addr), DeskAt C D gv H' q (Sn73.step (some k) (.run l m n most)).1 → SameX q H H' → H lr = none → H' lr = some (.lst ((ans (Sn73.step (some k) (.run l m n most))).map V.int)) → (ans (Sn73.step (some k) (.run l m n most))).length ≤ 16385 → Q (.ref lr) H'
theorem ok_run (T : Txt K mg a) : FnOk P w K mg base CX0 5 a.f_run a.d_run ["self", "m", "n", "most", "comings"] (sp_run a.C a.D) := by
  refine T.F_run.ok sc_run (fun vs H Q E h => ?_) (fun cdv Ar outer s H vs Q E hr h => ?_)
  · obtain ⟨q, gv, og, k, c, l, m, n, most, rfl, _⟩ := h
    rfl
  · obtain ⟨q, gv, og, k, c, l, m, n, most, rfl, hD, hgv, hc, hm, kq⟩ := h
    obtain ⟨tw, hw⟩ := T.c_WRONG_VALUE
    obtain ⟨tt, htt⟩ := T.c_TOO_MUCH_TO_TELL
    obtain ⟨tm, htm⟩ := T.c_TOO_MANY_SHIPS
    obtain ⟨ts, hts⟩ := T.c_MOST_SHIPS
    refine ⟨_, pss_cons (ps_if (pw_or (pt_not (pt_val (pe_call (ok_within T) (hr.mono (by decide)) (by rfl) T.g_within T.F_within.kp T.b_within .nil pass0 (pa_cons (pv 1) (pa_cons pe_int (pa_cons pe_int pa_nil)))))) (pw_or (pt_not (pt_val (pe_call (ok_within T) (hr.mono (by decide)) (by rfl) T.g_within T.F_within.kp T.b_within .nil pass0 (pa_cons (pv 2) (pa_cons pe_int (pa_cons pe_int pa_nil)))))) (pw_or1 (pt_not (pt_val (pe_call (ok_within T) (hr.mono (by decide)) (by rfl) T.g_within T.F_within.kp T.b_within .nil pass0 (pa_cons (pv 3) (pa_cons pe_int (pa_cons pe_int pa_nil))))))))).pt (pss_one (ps_ret (pe_lst (pa_cons (pe_glob (v := .int (-2)) (by rfl) hw ⟨_, rfl⟩) pa_nil)))) pss_nil)
      (pss_cons (ps_if (pt_not (pt_val (pe_call (ok_right T) (hr.mono (by decide)) (by rfl) T.g_right T.F_right.kp T.b_right .nil pass0 (pa_cons (pv 4) (pa_cons (pv 2) (pa_cons (pe_fld (pe_fld (pv 0) rfl) rfl) pa_nil)))))) (pss_one (ps_ret (pe_lst (pa_cons (pe_glob (v := .int (-2)) (by rfl) hw ⟨_, rfl⟩) pa_nil)))) pss_nil)
      (pss_cons (ps_if (pt_cmpR op_gt (pe_op op_add (pe_meth0 (pe_fld (pv 0) rfl) T.cl T.m_count (ok_count T) (hr.mono (by decide)) T.b_count .nil pass0) (pv 1)) (pe_glob (v := .int 4096) (by rfl) hts ⟨_, rfl⟩) (nomark _)) (pss_one (ps_ret (pe_lst (pa_cons (pe_glob (v := .int (-4)) (by rfl) htm ⟨_, rfl⟩) pa_nil)))) pss_nil)
      (pss_cons (ps_set (i := 5) sc_run.nd rfl (Or.inl rfl) (pe_meth0 (pe_fld (pv 0) rfl) T.cl T.m_twin (ok_twin T) (hr.mono (by decide)) T.b_twin .nil pass0))
      (pss_cons (ps_set (i := 6) sc_run.nd rfl (Or.inl rfl) (pe_call (ok_pass T) (hr.mono (by decide)) (by rfl) T.g_pass T.F_pass.kp T.b_pass .nil pass0 (pa_cons (pv 5) (pa_cons (pv 2) (pa_cons (pv 3) (pa_cons (pv 4) pa_nil))))))
      (pss_cons (ps_if (pt_cmpR op_gt (pe_callB call_len_seq (by rfl) T.z_len PySem.boot_len (pa_cons (pv 6) pa_nil)) (pv 3) (nomark _)) (pss_one (ps_ret (pe_lst (pa_cons (pe_glob (v := .int (-3)) (by rfl) htt ⟨_, rfl⟩) pa_nil)))) pss_nil)
      (pss_cons (ps_fld (pv 0) (pv 5) rfl)
      (pss_one (ps_ret (pe_op op_cat (pe_lst (pa_cons (pe_callB call_len_seq (by rfl) T.z_len PySem.boot_len (pa_cons (pv 6) pa_nil)) pa_nil)) (pv 6)))))))))), ?_⟩
    -- a refusal: the lock stays
    have ref : ∀ (z : Int) (H1 : Hp), Sn73.step (some k) (.run l m n most) = (some k, { value := z }) → Same H H1 → ∀ lr : Addr, H1 lr = none → Q (.ref lr) (upd H1 lr (.lst [.int z])) := fun z H1 e S1 lr hl => by
      refine kq _ lr ?_ (sx_same (Same.trans S1 (same_new hl))) (S1.free hl) ?_ ?_
      · rw [e]
        exact hD.same (Same.trans S1 (same_new hl))
      · rw [e, upd_same]
        rfl
      · rw [e]
        show 1 ≤ 16385
        decide
    have bad : (M.nums m n most && M.okFrom n.toNat k.make.room 1 l) = false → ∀ lr : Addr, H lr = none → Q (.ref lr) (upd H lr (.lst [.int (-2)])) := fun e => ref (-2) H (M.run_bad e) (Same.refl _)
    refine ⟨_, rfl, _, _, _, rfl, _, rfl, ?_⟩
    cases b1 : (decide (0 ≤ m) && decide (m ≤ 1024)) with
    | false => exact ifNF rfl (iteT ⟨(by show 1 ≤ sizeLine; decide), bad (by simp [M.nums, b1])⟩)
    | true =>
      refine ifNT rfl ⟨_, rfl, _, _, _, rfl, _, rfl, ?_⟩
      cases b2 : (decide (0 ≤ n) && decide (n ≤ 1000000)) with
      | false => exact ifNF rfl (iteT ⟨(by show 1 ≤ sizeLine; decide), bad (by simp [M.nums, b2])⟩)
      | true =>
        refine ifNT rfl ⟨_, rfl, _, _, _, rfl, _, rfl, ?_⟩
        cases b3 : (decide (0 ≤ most) && decide (most ≤ 65536)) with
        | false => exact ifNF rfl ⟨(by show 1 ≤ sizeLine; decide), bad (by simp [M.nums, b3])⟩
        | true =>
          refine ifNT rfl ?_
          have hnums : M.nums m n most = true := by simp only [M.nums, b1, b2, b3, Bool.and_self]
          simp only [Bool.and_eq_true, decide_eq_true_eq] at b1 b2 b3
          obtain ⟨n', rfl⟩ := Int.eq_ofNat_of_zero_le b2.1
          obtain ⟨most', rfl⟩ := Int.eq_ofNat_of_zero_le b3.1
          have hml := hm b1.1 b1.2
          rw [hnums, Bool.true_and, Int.toNat_natCast] at bad
          obtain ⟨dq, v, hq, A, rfl, hL, g, nqp, avA⟩ := id hD
          obtain ⟨mv, inw, x0, x1, xc, L⟩ := id hL
          have R := L.raw
          refine ⟨_, rfl, _, rfl, _, rfl, _, _, _, _, _, rfl, hq, T.clD, T.n_lock, dk_lock _, _, _, _, _, _, rfl, R.ob, T.cl, T.n_room, lk_room _, c, l, n', k.make.room, rfl, hc, (by omega), _, rfl, ?_⟩
          cases b4 : M.okFrom n' k.make.room 1 l with
          | false => exact ifNF rfl ⟨(by show 1 ≤ sizeLine; decide), bad b4⟩
          | true =>
            refine ifNT rfl ?_
            obtain ⟨hu, hcs⟩ := M.okFrom_up l 1 b4
            have hok : (M.nums m (n' : Int) (most' : Int) && M.okFrom ((n' : Int)).toNat k.make.room 1 l) = true := by rw [hnums, Int.toNat_natCast, b4]; rfl
            refine ⟨_, rfl, _, _, _, _, _, rfl, hq, T.clD, T.n_lock, dk_lock _, _, _, _, rfl, R.ob, no_count _, A, k, rfl, hL, g.mv, _, rfl, _, _, rfl, rfl, _, _, rfl, rfl, _, rfl, ?_⟩
            by_cases hcnt : k.count + l.length ≤ 4096
            · refine ifF (by omega) ?_
              refine ⟨_, rfl, _, _, _, _, _, rfl, hq, T.clD, T.n_lock, dk_lock _, _, _, _, rfl, R.ob, no_twin _, A, k, rfl, hL, fun H1 B LB S1 nB1 nB2 nB3 nB4 nB5 nB6 => ?_⟩
              have hc1 := S1 _ _ hc
              have hq1 := S1 _ _ hq
              refine ⟨_, rfl, _, rfl, _, rfl, _, rfl, B, k, c, l, n', most', rfl, LB, g, hc1, ne_of_none hc nB2, ne_of_none hc nB4, ne_of_none hc nB5, ne_of_none hc nB6, hu, (fun x hx => by obtain ⟨h1, h2, _, _, h5⟩ := hcs x hx; exact ⟨h1, h2, h5⟩), hcnt, fun H2 lt Ts k' L2 F2 nlt ht2 hT hle hgt => ?_⟩
              have S2 : Same H H2 := fun b o e => F2 b o (S1 _ _ e) (ne_of_none e nB1) (ne_of_none e nB2) (ne_of_none e nB4) (ne_of_none e nB5) (ne_of_none e nB6)
              refine ⟨_, rfl, _, _, rfl, .inl (SqL.of ht2), _, rfl, _, _, rfl, rfl, _, rfl, ?_⟩
              by_cases hov : most' < Ts.length
              · refine ifT (by rw [List.length_map]; omega) ⟨(by show 1 ≤ sizeLine; decide), ?_⟩
                exact ref (-3) H2 (M.run_over hok hcnt (by rw [Int.toNat_natCast]; have := hgt hov; omega)) S2
              · refine ifF (by rw [List.length_map]; omega) ?_
                obtain ⟨eT, ek, g2⟩ := hle (by omega)
                refine ⟨_, rfl, _, rfl, _, _, _, _, rfl, S2 _ _ hq, T.clD, T.n_lock, df_len _, ?_⟩
                have nqlt : lt ≠ q := fun z => by rw [z, S2 _ _ hq] at ht2; cases ht2
                have ht3 : upd H2 q (.ins a.D dq (putF "lock" (.ref B.p) (df (.ref A.p)))) lt = some (.lst (Ts.map iV)) := by rw [upd_ne nqlt]; exact ht2
                refine ⟨_, rfl, _, _, rfl, .inl (SqL.of ht3), (by show 1 ≤ sizeLine; decide), fun l1 hl1 => ?_⟩
                have n1 : lt ≠ l1 := ne_of_none ht3 hl1
                have hsl5 : (16385 : Nat) ≤ sizeLine := by decide
                refine ⟨_, rfl, _, _, _, _, rfl, rfl, upd_same, (by rw [upd_ne n1]; exact ht3), (by rw [List.length_map]; simp only [List.length_singleton]; omega), fun lr hlr => ?_⟩
                have est := M.run_ok (k := k) (l := l) (m := m) (n := (n' : Int)) (most := (most' : Int)) hok hcnt (by rw [Int.toNat_natCast, ← eT]; omega)
                rw [Int.toNat_natCast, ← eT, ← ek] at est
                have hlr1 := free_upd hlr
                have hlr2 := free_upd hlr1
                refine kq _ lr ?_ ((((sx_same S2).trans sx_upd).trans (sx_new hl1)).trans (sx_new hlr)) (S2.free hlr2) ?_ ?_
                · rw [est]
                  refine DeskAt.same (DeskAt.same ?_ (same_new hl1)) (same_new hlr)
                  have nqB : q ≠ B.p := ne_of_none hq nB1
                  exact ⟨dq, .ref B.p, by rw [upd_same, dp_lock], B, rfl, L2.offq (S2 _ _ hq) nqB, g2, nqB, av_new hgv nB2 nB3 nB4 nB5 nB6⟩
                · rw [est, upd_same]
                  show some (HO.lst ([V.int ((Ts.map iV).length : Int)] ++ Ts.map iV)) = some (HO.lst ((((Ts.length : Nat) : Int) :: Sn73Neutral.ints Ts).map V.int))
                  rw [List.length_map]
                  unfold Sn73Neutral.ints
                  rw [List.map_cons, List.map_map]
                  rfl
                · rw [est]
                  show (((Ts.length : Nat) : Int) :: Sn73Neutral.ints Ts).length ≤ 16385
                  unfold Sn73Neutral.ints
                  rw [List.length_cons, List.length_map]
                  omega
            · refine ifT (by omega) ⟨(by show 1 ≤ sizeLine; decide), ?_⟩
              exact ref (-4) H (M.run_many hok (by omega)) (Same.refl _)
end
end Ship

namespace Ship
open PySem L2
open Sn73 (Lock Coming Event)
section
variable {P : Program} {w : World} {K : PySem.W.Frag} {mg : Str → Option Value} {base : Heap} {a : Adr}
/-! ### answer -/
def Form (st : Option Lock) (xs : List Int) (cc : List (List Int)) : Prop :=
  (∃ r h g m : Int, xs = [0, r, h, g, m] ∧ cc = [[0, r, h, g, m]]) ∨ (∃ (k : Lock) (m n most : Int) (row : List Int), st = some k ∧ xs = 1 :: m :: n :: most :: (row.length : Int) :: row ∧ cc = [[1, m, n, most], row] ∧ Sn73Neutral.askedOne cc = true) ∨ (∃ k : Lock, st = some k ∧ xs = [2] ∧ cc = [[2]])
def sp_answer (C D : Addr) : Sp := fun vs H Q _ => ∃ (q gv : Addr) (og : HO) (st : Option Lock) (c : Addr) (xs : List Int) (cc : List (List Int)), vs = [.ref q, .ref c] ∧ DeskAt C D gv H q st ∧ H gv = some og ∧ H c = some (.lst (xs.map V.int)) ∧ Form st xs cc ∧
  ∀ (H' : Hp) (lr : Addr), DeskAt C D gv H' q (Sn73Neutral.step st cc).1 → SameX q H H' → H lr = none → H' lr = some (.lst ((Sn73Neutral.step st cc).2.map V.int)) → (Sn73Neutral.step st cc).2.length ≤ 16385 → Q (.ref lr) H'
theorem cut5 (m n most z : Int) (row : List Int) : cutV ((1 :: m :: n :: most :: z :: row : List Int).map V.int) (some 5) none = row.map V.int := by
  unfold cutV
  have e : HT.sIx ((1 :: m :: n :: most :: z :: row : List Int).map V.int).length 0 (some 5) = 5 := by
    show HT.sIx _ 0 (some ((5 : Nat) : Int)) = 5
    rw [HT.sIx_nat, List.length_map]
    simp only [List.length_cons]
    omega
  rw [e, HT.sIx_none, List.length_map]
  show (row.map V.int).take (row.length + 1 + 1 + 1 + 1 + 1 - 5) = row.map V.int
  rw [List.take_of_length_le (by rw [List.length_map]; omega)]
theorem ok_answer (T : Txt K mg a) : FnOk P w K mg base CX0 6 a.f_answer a.d_answer ["self", "call"] (sp_answer a.C a.D) := by
  refine T.F_answer.ok sc_answer (fun vs H Q E h => ?_) (fun cdv Ar outer s H vs Q E hr h => ?_)
  · obtain ⟨q, gv, og, st, c, xs, cc, rfl, _⟩ := h
    rfl
  · obtain ⟨q, gv, og, st, c, xs, cc, rfl, hD, hgv, hc, hf, kq⟩ := h
    obtain ⟨dq, v, hq, hh⟩ := id hD
    refine ⟨_, pss_cons (ps_if (pt_cmpR op_eq (pe_ix ix_list (pv 1) pe_int (fun _ _ => rfl)) pe_int (nomark _)) (pss_one (ps_ret (pe_meth (pv 0) T.clD T.m_begin (ok_begin T) (hr.mono (by decide)) T.b_begin .nil pass0 (pa_cons (pe_ix ix_list (pv 1) pe_int (fun _ _ => rfl)) (pa_cons (pe_ix ix_list (pv 1) pe_int (fun _ _ => rfl)) (pa_cons (pe_ix ix_list (pv 1) pe_int (fun _ _ => rfl)) (pa_cons (pe_ix ix_list (pv 1) pe_int (fun _ _ => rfl)) pa_nil))))))) pss_nil)
      (pss_cons (ps_if (pt_cmpR op_eq (pe_ix ix_list (pv 1) pe_int (fun _ _ => rfl)) pe_int (nomark _)) (pss_one (ps_ret (pe_meth (pv 0) T.clD T.m_run (ok_run T) (hr.mono (by decide)) T.b_run .nil pass0 (pa_cons (pe_ix ix_list (pv 1) pe_int (fun _ _ => rfl)) (pa_cons (pe_ix ix_list (pv 1) pe_int (fun _ _ => rfl)) (pa_cons (pe_ix ix_list (pv 1) pe_int (fun _ _ => rfl)) (pa_cons (pe_slice sl_list (pv 1) (po_some pe_int) po_none) pa_nil))))))) pss_nil)
      (pss_one (ps_ret (pe_meth0 (pe_fld (pv 0) rfl) T.cl T.m_state (ok_state T) (hr.mono (by decide)) T.b_state .nil pass0)))), ?_⟩
    rcases hf with ⟨r, h, g, m, rfl, rfl⟩ | ⟨k, m, n, most, row, rfl, rfl, rfl, ha⟩ | ⟨k, rfl, rfl, rfl⟩
    · refine ⟨_, rfl, _, _, _, _, rfl, rfl, SqL.of hc, at_z 0 rfl rfl, rfl, _, rfl, ifEqT rfl ⟨_, rfl, _, _, _, rfl, hq, dn_begin _, _, rfl, _, _, _, _, rfl, rfl, SqL.of hc, at_z 1 rfl rfl, _, rfl, _, _, _, _, rfl, rfl, SqL.of hc, at_z 2 rfl rfl, _, rfl, _, _, _, _, rfl, rfl, SqL.of hc, at_z 3 rfl rfl, _, rfl, _, _, _, _, rfl, rfl, SqL.of hc, at_z 4 rfl rfl, q, gv, og, st, r, h, g, m, rfl, hD, hgv, fun H' lr D' X' n' h' => ?_⟩⟩
      refine kq H' lr D' X' n' h' ?_
      cases hb : M.beg r h g m with
      | false => rw [M.beg_bad hb]; show 1 ≤ 16385; decide
      | true => rw [M.beg_ok hb]; show 1 ≤ 16385; decide
    · obtain ⟨hrow, hm⟩ := M.row_of ha
      refine ⟨_, rfl, _, _, _, _, rfl, rfl, SqL.of hc, at_z 0 rfl rfl, rfl, _, rfl, ifEqF (by decide) ⟨_, rfl, _, _, _, _, rfl, rfl, SqL.of hc, at_z 0 rfl rfl, rfl, _, rfl, ifEqT rfl ⟨_, rfl, _, _, _, rfl, hq, dn_run _, _, rfl, _, _, _, _, rfl, rfl, SqL.of hc, at_z 1 rfl rfl, _, rfl, _, _, _, _, rfl, rfl, SqL.of hc, at_z 2 rfl rfl, _, rfl, _, _, _, _, rfl, rfl, SqL.of hc, at_z 3 rfl rfl, _, rfl, _, rfl, _, _, rfl, SqL.of hc, fun sl hsl => ?_⟩⟩⟩
      refine ⟨q, gv, og, k, sl, Sn73Neutral.comings row, m, n, most, rfl, hD.same (same_new hsl), same_new hsl _ _ hgv, (by rw [upd_same, cut5, ← hrow]), hm, fun H' lr D' X' n' h' hlen => ?_⟩
      exact kq H' lr D' ((sx_new hsl).trans X') (free_upd n') h' hlen
    · obtain ⟨A, rfl, hL, g, nqp, avA⟩ := hh
      obtain ⟨mv, inw, x0, x1, xc, L⟩ := id hL
      refine ⟨_, rfl, _, _, _, _, rfl, rfl, SqL.of hc, at_z 0 rfl rfl, rfl, _, rfl, ifEqF (by decide) ⟨_, rfl, _, _, _, _, rfl, rfl, SqL.of hc, at_z 0 rfl rfl, rfl, _, rfl, ifEqF (by decide) ⟨_, rfl, _, _, _, _, _, rfl, hq, T.clD, T.n_lock, dk_lock _, _, _, _, rfl, L.raw.ob, no_state _, A, k, rfl, hL, fun l hl => ?_⟩⟩⟩
      refine kq _ l ?_ (sx_new hl) hl ?_ ?_
      · rw [M.state_step]
        exact hD.same (same_new hl)
      · rw [M.state_step, upd_same]
        rfl
      · rw [M.state_step]
        show 8 ≤ 16385
        decide
/-! ### answers -/
theorem step_some {k : Lock} {xs : List Int} {cc : List (List Int)} (h : Form (some k) xs cc) : (Sn73Neutral.step (some k) cc).1 ≠ none := by
  rcases h with ⟨r, h, g, m, _, rfl⟩ | ⟨k, m, n, most, row, e, _, rfl, _⟩ | ⟨k, e, _, rfl⟩
  · cases hb : M.beg r h g m with
    | false => rw [M.beg_bad hb]; exact fun z => by cases z
    | true => rw [M.beg_ok hb]; exact fun z => by cases z
  · cases e
    rw [M.run_step]
    cases hb : (M.nums m n most && M.okFrom n.toNat k.make.room 1 (Sn73Neutral.comings row)) with
    | false => rw [M.run_bad hb]; exact fun z => by cases z
    | true =>
      by_cases h2 : k.count + (Sn73Neutral.comings row).length ≤ 4096
      · by_cases h3 : most < ((M.toldAt k (Sn73Neutral.comings row) n.toNat).length : Int)
        · rw [M.run_over hb h2 h3]; exact fun z => by cases z
        · rw [M.run_ok hb h2 (by omega)]; exact fun z => by cases z
      · rw [M.run_many hb (by omega)]; exact fun z => by cases z
  · cases e
    rw [M.state_step]
    exact fun z => by cases z
/-- the call that stands first in what is left -/
structure Nxt (ns : List Int) (i : Nat) (st : Option Lock) (cs : List (List (List Int))) (L : Nat) (cc : List (List Int)) (cs' : List (List (List Int))) (f' : Nat) : Prop where
  len : ClenIs ns i (L : Int)
  pos : 1 ≤ L
  fits : i + L ≤ ns.length
  form : Form st ((ns.drop i).take L) cc
  eq : cs = cc :: cs'
  rest : M.Calls f' (ns.drop (i + L)) cs'
theorem at_drop {ns : List Int} {i j : Nat} {l : List Int} (h : ns.drop i = l) : ns[i + j]? = l[j]? := by rw [← h, List.getElem?_drop]
theorem nxt {ns : List Int} {i f : Nat} {st : Option Lock} {cs : List (List (List Int))} (hi : i < ns.length) (hc : M.Calls f (ns.drop i) cs) (hf : Sn73Neutral.fine st cs = true)
    (hs : st ≠ none ∨ ∃ b r cs', cs = ((0 :: b) :: r) :: cs' ∧ (Sn73Neutral.step st ((0 :: b) :: r)).2 = [0]) : ∃ L cc cs' f', Nxt ns i st cs L cc cs' f' := by
  cases e : ns.drop i with
  | nil =>
    have := congrArg List.length e
    rw [List.length_drop] at this
    simp at this
    omega
  | cons p r =>
    rw [e] at hc
    obtain ⟨f', c, t, cs', _, h1, h2, rfl⟩ := M.calls_cons hc
    obtain ⟨ha, _⟩ := M.fine_cons hf
    have ed : ∀ L, ns.drop (i + L) = (p :: r).drop L := fun L => by rw [← e, List.drop_drop]
    have el : ns.length = i + (p :: r).length := by
      have := congrArg List.length e
      rw [List.length_drop] at this
      omega
    have e0 : ns[i]? = some p := by
      have := at_drop (j := 0) e
      exact this
    rcases M.call_cases h1 with ⟨rfl, x1, x2, x3, x4, rfl, rfl⟩ | ⟨rfl, m, n, most, row, rfl, rfl⟩ | ⟨rfl, rfl, rfl⟩
    · refine ⟨5, _, cs', f', ⟨⟨0, e0, .inl ⟨rfl, rfl⟩⟩, by omega, ?_, ?_, rfl, ?_⟩⟩
      · rw [el]
        simp only [List.length_cons]
        omega
      · rw [e]
        exact .inl ⟨x1, x2, x3, x4, rfl, rfl⟩
      · rw [ed]
        exact h2
    · have hst : ∃ k, st = some k := by
        rcases hs with hs | ⟨b, r', cs'', hs, _⟩
        · cases st with
          | none => exact absurd rfl hs
          | some k => exact ⟨k, rfl⟩
        · have := (List.cons.inj hs).1
          have := (List.cons.inj this).1
          have := (List.cons.inj this).1
          cases this
      obtain ⟨k, rfl⟩ := hst
      have etk : ((1 : Int) :: m :: n :: most :: (row.length : Int) :: (row ++ t)).take (5 + row.length) = 1 :: m :: n :: most :: (row.length : Int) :: row := by
        have : 5 + row.length = row.length + 1 + 1 + 1 + 1 + 1 := by omega
        rw [this]
        simp only [List.take_succ_cons, List.take_left']
      have edr : ((1 : Int) :: m :: n :: most :: (row.length : Int) :: (row ++ t)).drop (5 + row.length) = t := by
        have : 5 + row.length = row.length + 1 + 1 + 1 + 1 + 1 := by omega
        rw [this]
        simp only [List.drop_succ_cons, List.drop_left']
      refine ⟨5 + row.length, _, cs', f', ⟨⟨1, e0, .inr (.inl ⟨rfl, (row.length : Int), ?_, by omega⟩)⟩, by omega, ?_, ?_, rfl, ?_⟩⟩
      · exact at_drop (j := 4) e
      · rw [el]
        simp only [List.length_cons, List.length_append]
        omega
      · rw [e, etk]
        exact .inr (.inl ⟨k, m, n, most, row, rfl, rfl, rfl, ha⟩)
      · rw [ed, edr]
        exact h2
    · have hst : ∃ k, st = some k := by
        rcases hs with hs | ⟨b, r', cs'', hs, _⟩
        · cases st with
          | none => exact absurd rfl hs
          | some k => exact ⟨k, rfl⟩
        · have := (List.cons.inj hs).1
          have := (List.cons.inj this).1
          have := (List.cons.inj this).1
          cases this
      obtain ⟨k, rfl⟩ := hst
      refine ⟨1, _, cs', f', ⟨⟨2, e0, .inr (.inr ⟨by decide, by decide, rfl⟩)⟩, by omega, by omega, ?_, rfl, ?_⟩⟩
      · rw [e]
        exact .inr (.inr ⟨k, rfl, rfl, rfl⟩)
      · rw [ed]
        exact h2
theorem cut_two (ns : List Int) (i L : Nat) (h : i + L ≤ ns.length) : cutV (ns.map V.int) (some (i : Int)) (some ((i + L : Nat) : Int)) = ((ns.drop i).take L).map V.int := by
  unfold cutV
  have e1 : min i ns.length = i := Nat.min_eq_left (by omega)
  have e2 : min (i + L) ns.length = i + L := Nat.min_eq_left h
  have e3 : i + L - i = L := by omega
  rw [HT.sIx_nat, HT.sIx_nat, List.length_map, e1, e2, e3, ← List.map_drop, ← List.map_take]
def sp_answers (K : PySem.W.Frag) : Sp := fun vs H Q _ => ∃ (c : Addr) (ns : List Int), vs = [.ref c] ∧ SqL K H c (ns.map V.int) ∧ PySn73.answers_asked ns = true ∧ ∀ (H' : Hp) (l : Addr), H' l = some (.lst ((PySn73.answers ns).map V.int)) → Q (.ref l) H'
theorem ok_answers (T : Txt K mg a) : FnOk P w K mg base CX0 7 a.f_answers a.d_answers ["calls"] (sp_answers K) := by
  refine T.F_answers.ok sc_answers (fun vs H Q E h => ?_) (fun cdv Ar outer s H vs Q E hr h => ?_)
  · obtain ⟨c, ns, rfl, _⟩ := h
    rfl
  · obtain ⟨c, ns, rfl, hS, hask, kq⟩ := h
    -- what is asked
    obtain ⟨cs0, hcs0, h300, hasked⟩ : ∃ cs, M.Calls ns.length ns cs ∧ cs.length ≤ 300 ∧ Sn73Neutral.asked cs = true := by
      unfold PySn73.answers_asked PySn73.calls at hask
      cases e : PyFlat.calls PySn73.shape ns.length ns with
      | none => rw [e] at hask; cases hask
      | some cs =>
        rw [e] at hask
        dsimp only at hask
        rw [M.whole_map, Bool.and_eq_true] at hask
        exact ⟨cs, e, of_decide_eq_true hask.1, hask.2⟩
    have edue : PySn73.answers ns = M.due none cs0 := by
      unfold PySn73.answers PySn73.calls
      rw [show PyFlat.calls PySn73.shape ns.length ns = some cs0 from hcs0]
      dsimp only
      rw [M.whole_map]
      rfl
    obtain ⟨hfine, hfirst⟩ := M.asked_first hasked
    refine ⟨_, pss_cons (ps_set (i := 1) sc_answers.nd rfl (Or.inl rfl) (pe_make0 T.mkD (ok_dinit T) (hr.mono (by decide)) (by rfl) T.mgD T.b_dinit .nil pass0)) (pss_cons (ps_set (i := 2) sc_answers.nd rfl (Or.inl rfl) (pe_lst pa_nil)) (pss_cons (ps_set (i := 3) sc_answers.nd rfl (Or.inl rfl) pe_int)
      (pss_cons (ps_while PassesOwn.never (pt_cmpR op_lt (pv 3) (pe_callB call_len_seq (by rfl) T.z_len PySem.boot_len (pa_cons (pv 0) pa_nil)) (nomark _))
        (pss_cons (ps_set (i := 4) sc_answers.nd rfl (Or.inl rfl) (pe_op op_add (pv 3) (pe_call (ok_clen T) (hr.mono (by decide)) (by rfl) T.g_clen T.F_clen.kp T.b_clen .nil pass0 (pa_cons (pv 0) (pa_cons (pv 3) pa_nil)))))
        (pss_cons (ps_set (i := 5) sc_answers.nd rfl (Or.inl rfl) (pe_meth (pv 1) T.clD T.m_answer (ok_answer T) (hr.mono (by decide)) T.b_answer .nil pass0 (pa_cons (pe_slice sl_list (pv 0) (po_some (pv 3)) (po_some (pv 4))) pa_nil)))
        (pss_cons (ps_expr (pe_bm PySem.F.plainAttrs_list PySem.F.slot_list_append PySem.F.type_list_append mt_append (pv 2) (pa_cons (pe_callB call_len_seq (by rfl) T.z_len PySem.boot_len (pa_cons (pv 5) pa_nil)) pa_nil)))
        (pss_cons (ps_expr (pe_bm PySem.F.plainAttrs_list PySem.F.slot_list_extend PySem.F.type_list_extend mt_extend (pv 2) (pa_cons (pv 5) pa_nil)))
        (pss_one (ps_set (i := 3) sc_answers.nd rfl (Or.inl rfl) (pv 4))))))))
      (pss_one (ps_ret (pv 2)))))), ?_⟩
    intro q dq0 nq ndq nex
    refine ⟨q, dq0, rfl, upd_same, fun H1 hq1 kp => ⟨rfl, ?_⟩⟩
    have S1 : Same H H1 := fun b o e => kp b o (by rw [upd_ne (ne_of_none e nq), upd_ne (ne_of_none e ndq)]; exact e) (ne_of_none e nq)
    refine ⟨(by show 0 ≤ sizeLine; decide), fun g hg => ?_⟩
    have ng : H g = none := S1.free hg
    have hsz : (16400 * 300 + 16400 : Nat) ≤ sizeLine := by decide
    refine ⟨fun m' σ H1 => ∃ (i f : Nat) (G : List Int) (st : Option Lock) (cs : List (List (List Int))) (v4 v5 : Option V), σ = [some (.ref c), some (.ref q), some (.ref g), some (.int (i : Int)), v4, v5] ∧ DeskAt a.C a.D g H1 q st ∧ H1 g = some (.lst (G.map V.int)) ∧ Same H H1 ∧ i ≤ ns.length ∧ M.Calls f (ns.drop i) cs ∧ Sn73Neutral.fine st cs = true ∧
      (st ≠ none ∨ ∃ b r cs', cs = ((0 :: b) :: r) :: cs' ∧ (Sn73Neutral.step st ((0 :: b) :: r)).2 = [0]) ∧ G ++ M.due st cs = PySn73.answers ns ∧ G.length + 16400 * cs.length ≤ 16400 * 300 ∧ m' = ns.length - i,
      ⟨ns.length, 0, ns.length, [], none, cs0, none, none, rfl, DeskAt.same ⟨dq0, .non, hq1, rfl⟩ (same_new hg), upd_same, Same.trans S1 (same_new hg), Nat.zero_le _, hcs0, hfine, .inr hfirst, by rw [edue]; rfl, by show 0 + _ ≤ _; omega, rfl⟩, ?_⟩
    rintro m' σ H2 ⟨i, f, G, st, cs, v4, v5, rfl, hD, hG, S2, hil, hcl, hfn, hst, hdue, hbd, rfl⟩
    have hS2 := S2.seq hS
    refine ⟨_, rfl, _, rfl, _, _, rfl, .inl hS2, _, _, rfl, rfl, _, rfl, ?_⟩
    by_cases hi : i < ns.length
    · refine ifT (by rw [List.length_map]; omega) ?_
      refine ⟨fun σ' H1 => ∃ m', m' < ns.length - i ∧ ∃ (i f : Nat) (G : List Int) (st : Option Lock) (cs : List (List (List Int))) (v4 v5 : Option V), σ' = [some (.ref c), some (.ref q), some (.ref g), some (.int (i : Int)), v4, v5] ∧ DeskAt a.C a.D g H1 q st ∧ H1 g = some (.lst (G.map V.int)) ∧ Same H H1 ∧ i ≤ ns.length ∧ M.Calls f (ns.drop i) cs ∧ Sn73Neutral.fine st cs = true ∧
        (st ≠ none ∨ ∃ b r cs', cs = ((0 :: b) :: r) :: cs' ∧ (Sn73Neutral.step st ((0 :: b) :: r)).2 = [0]) ∧ G ++ M.due st cs = PySn73.answers ns ∧ G.length + 16400 * cs.length ≤ 16400 * 300 ∧ m' = ns.length - i, fun _ _ h => h, ?_⟩
      obtain ⟨L, cc, cs', f', N⟩ := nxt hi hcl hfn hst
      obtain ⟨hL, hpos, hfit, hform, rfl, hrest⟩ := N
      obtain ⟨ha1, hfn'⟩ := M.fine_cons hfn
      refine ⟨_, rfl, _, rfl, _, rfl, c, ns, i, (L : Int), rfl, hS2, hL, _, _, rfl, rfl, ?_⟩
      have eL : (i : Int) + (L : Int) = ((i + L : Nat) : Int) := by omega
      dsimp only
      rw [eL]
      obtain ⟨dq, v, hq, hh⟩ := id hD
      refine ⟨_, rfl, _, _, _, rfl, hq, dn_answer _, _, rfl, _, rfl, _, rfl, _, rfl, _, rfl, _, _, rfl, hS2, fun sl hsl => ?_⟩
      refine ⟨q, g, _, st, sl, (ns.drop i).take L, cc, rfl, hD.same (same_new hsl), same_new hsl _ _ hG, (by rw [upd_same, cut_two ns i L hfit]), hform, fun H3 lr D3 X3 nlr hlr hlen => ?_⟩
      have ngq : g ≠ q := ne_of hG hq (by intro z; cases z)
      have hG3 := X3 g _ (same_new hsl _ _ hG) ngq
      have S3 : Same H H3 := fun b o e => X3 b o (same_new hsl _ _ (S2 b o e)) (ne_of_none e nq)
      have nglr : g ≠ lr := ne_of_none (same_new hsl _ _ hG) nlr
      rw [List.length_cons] at hbd
      refine ⟨_, rfl, .inl ⟨rfl, _, SqL.of hG3⟩, _, rfl, _, _, rfl, .inl (SqL.of hlr), _, _, _, rfl, rfl, hG3, (by rw [List.length_map]; omega), ?_⟩
      refine ⟨_, rfl, .inl ⟨rfl, _, SqL.of upd_same⟩, _, rfl, _, _, _, _, rfl, rfl, upd_same, (by rw [upd_ne nglr.symm]; exact hlr), (by rw [List.length_append, List.length_map, List.length_map]; simp only [List.length_singleton]; omega), ?_⟩
      refine ⟨_, rfl, ns.length - (i + L), by omega, i + L, f', G ++ ((((Sn73Neutral.step st cc).2.length : Nat) : Int) :: (Sn73Neutral.step st cc).2), (Sn73Neutral.step st cc).1, cs', _, _, rfl, ?_, ?_, ?_, hfit, hrest, hfn', ?_, ?_, ?_, rfl⟩
      · exact (D3.offg hG3).offg upd_same
      · rw [upd_same, List.length_map, List.map_append, List.append_assoc]
        rfl
      · exact same_upd (same_upd S3 ng) ng
      · rcases hst with hst | ⟨b, r, cs'', e1, e2⟩
        · cases st with
          | none => exact absurd rfl hst
          | some k => exact .inl (step_some hform)
        · have e3 : cc = (0 :: b) :: r := (List.cons.inj e1).1
          rcases hform with ⟨x1, x2, x3, x4, _, e4⟩ | ⟨k, m, n, most, row, _, _, e4, _⟩ | ⟨k, _, _, e4⟩
          · subst e4
            rw [← e3] at e2
            cases hb : M.beg x1 x2 x3 x4 with
            | false =>
              rw [M.beg_bad hb] at e2
              cases e2
            | true =>
              rw [M.beg_ok hb]
              exact .inl (fun z => by cases z)
          · rw [e4] at e3
            have := (List.cons.inj (List.cons.inj e3).1).1
            cases this
          · rw [e4] at e3
            have := (List.cons.inj (List.cons.inj e3).1).1
            cases this
      · rw [List.append_assoc, ← hdue, M.due_cons]
      · rw [List.length_append, List.length_cons]
        omega
    · refine ifF (by rw [List.length_map]; omega) ?_
      have hil2 : i = ns.length := by omega
      subst hil2
      rw [List.drop_length] at hcl
      have ecs := M.calls_nil hcl
      subst ecs
      rw [M.due_nil, List.append_nil] at hdue
      rw [hdue] at hG
      exact ⟨_, rfl, kq H2 g hG⟩
end
end Ship

namespace Ship
open PySem L2
/-! ### what the top has written -/
theorem all_mk {P : Program} {w : World} {K : PySem.W.Frag} {h : Heap} {mg : Str → Option Value} {fa C D f_init f_twin f_near f_count f_left f_goon f_arrive f_turn f_startm f_endm f_send f_choose f_take f_state f_pass f_within f_right f_dinit f_begin f_run f_answer f_clen f_answers : Addr} (X : K.In h) (G : h.Ns mainGlobals mg) (hfa : mg "answers" = some (.ref fa))
    {od_init an_init od_twin an_twin od_near an_near od_count an_count od_left an_left od_goon an_goon od_arrive an_arrive od_turn an_turn od_startm an_startm od_endm an_endm od_send an_send od_choose an_choose od_take an_take od_state an_state od_pass an_pass od_within an_within od_right an_right od_dinit an_dinit od_begin an_begin od_run an_run od_answer an_answer od_clen an_clen od_answers an_answers : Option Addr} {sl_init sl_twin sl_near sl_count sl_left sl_goon sl_arrive sl_turn sl_startm sl_endm sl_send sl_choose sl_take sl_state sl_pass sl_within sl_right sl_dinit sl_begin sl_run sl_answer sl_clen sl_answers : Array (Option Value)} {oc_init kV_init dc_init pm_init cd_init ct_init oc_twin kV_twin dc_twin pm_twin cd_twin ct_twin oc_near kV_near dc_near pm_near cd_near ct_near oc_count kV_count dc_count pm_count cd_count ct_count oc_left kV_left dc_left pm_left cd_left ct_left oc_goon kV_goon dc_goon pm_goon cd_goon ct_goon oc_arrive kV_arrive dc_arrive pm_arrive cd_arrive ct_arrive oc_turn kV_turn dc_turn pm_turn cd_turn ct_turn oc_startm kV_startm dc_startm pm_startm cd_startm ct_startm oc_endm kV_endm dc_endm pm_endm cd_endm ct_endm oc_send kV_send dc_send pm_send cd_send ct_send oc_choose kV_choose dc_choose pm_choose cd_choose ct_choose oc_take kV_take dc_take pm_take cd_take ct_take oc_state kV_state dc_state pm_state cd_state ct_state oc_pass kV_pass dc_pass pm_pass cd_pass ct_pass oc_within kV_within dc_within pm_within cd_within ct_within oc_right kV_right dc_right pm_right cd_right ct_right oc_dinit kV_dinit dc_dinit pm_dinit cd_dinit ct_dinit oc_begin kV_begin dc_begin pm_begin cd_begin ct_begin oc_run kV_run dc_run pm_run cd_run ct_run oc_answer kV_answer dc_answer pm_answer cd_answer ct_answer oc_clen kV_clen dc_clen pm_clen cd_clen ct_clen oc_answers kV_answers dc_answers pm_answers cd_answers ct_answers : Value} {t_WRONG_VALUE t_TOO_MUCH_TO_TELL t_TOO_MANY_SHIPS t_MOST_SHIPS : Tok}
    (aC : PySem.W.nsIn K mainGlobals "Lock" = some (some (.ref C)))
    (aD : PySem.W.nsIn K mainGlobals "Desk" = some (some (.ref D)))
    (a_init : PySem.W.findIn K (.ref C) "__init__" = some (some (.ref f_init)))
    (i_init : PySem.W.isFn K (.ref f_init) = true)
    (l_init : K.lookup f_init = some ⟨oc_init, od_init, .func (PySem.W.fnOf "__init__" "Lock.__init__" (defArgs s_init) (defBody s_init) (defScope s_init) .none kV_init dc_init pm_init an_init cd_init ct_init), sl_init⟩)
    (c_init : PySem.W.codeIn K cd_init "Lock.__init__" = true)
    (k_init : PySem.W.keepIn K (.ref f_init) = true)
    (a_twin : PySem.W.findIn K (.ref C) "twin" = some (some (.ref f_twin)))
    (i_twin : PySem.W.isFn K (.ref f_twin) = true)
    (l_twin : K.lookup f_twin = some ⟨oc_twin, od_twin, .func (PySem.W.fnOf "twin" "Lock.twin" (defArgs s_twin) (defBody s_twin) (defScope s_twin) .none kV_twin dc_twin pm_twin an_twin cd_twin ct_twin), sl_twin⟩)
    (c_twin : PySem.W.codeIn K cd_twin "Lock.twin" = true)
    (k_twin : PySem.W.keepIn K (.ref f_twin) = true)
    (a_near : PySem.W.findIn K (.ref C) "near_side" = some (some (.ref f_near)))
    (i_near : PySem.W.isFn K (.ref f_near) = true)
    (l_near : K.lookup f_near = some ⟨oc_near, od_near, .func (PySem.W.fnOf "near_side" "Lock.near_side" (defArgs s_near) (defBody s_near) (defScope s_near) .none kV_near dc_near pm_near an_near cd_near ct_near), sl_near⟩)
    (c_near : PySem.W.codeIn K cd_near "Lock.near_side" = true)
    (k_near : PySem.W.keepIn K (.ref f_near) = true)
    (a_count : PySem.W.findIn K (.ref C) "ship_count" = some (some (.ref f_count)))
    (i_count : PySem.W.isFn K (.ref f_count) = true)
    (l_count : K.lookup f_count = some ⟨oc_count, od_count, .func (PySem.W.fnOf "ship_count" "Lock.ship_count" (defArgs s_count) (defBody s_count) (defScope s_count) .none kV_count dc_count pm_count an_count cd_count ct_count), sl_count⟩)
    (c_count : PySem.W.codeIn K cd_count "Lock.ship_count" = true)
    (k_count : PySem.W.keepIn K (.ref f_count) = true)
    (a_left : PySem.W.findIn K (.ref C) "seconds_left" = some (some (.ref f_left)))
    (i_left : PySem.W.isFn K (.ref f_left) = true)
    (l_left : K.lookup f_left = some ⟨oc_left, od_left, .func (PySem.W.fnOf "seconds_left" "Lock.seconds_left" (defArgs s_left) (defBody s_left) (defScope s_left) .none kV_left dc_left pm_left an_left cd_left ct_left), sl_left⟩)
    (c_left : PySem.W.codeIn K cd_left "Lock.seconds_left" = true)
    (k_left : PySem.W.keepIn K (.ref f_left) = true)
    (a_goon : PySem.W.findIn K (.ref C) "go_on" = some (some (.ref f_goon)))
    (i_goon : PySem.W.isFn K (.ref f_goon) = true)
    (l_goon : K.lookup f_goon = some ⟨oc_goon, od_goon, .func (PySem.W.fnOf "go_on" "Lock.go_on" (defArgs s_goon) (defBody s_goon) (defScope s_goon) .none kV_goon dc_goon pm_goon an_goon cd_goon ct_goon), sl_goon⟩)
    (c_goon : PySem.W.codeIn K cd_goon "Lock.go_on" = true)
    (k_goon : PySem.W.keepIn K (.ref f_goon) = true)
    (a_arrive : PySem.W.findIn K (.ref C) "arrive" = some (some (.ref f_arrive)))
    (i_arrive : PySem.W.isFn K (.ref f_arrive) = true)
    (l_arrive : K.lookup f_arrive = some ⟨oc_arrive, od_arrive, .func (PySem.W.fnOf "arrive" "Lock.arrive" (defArgs s_arrive) (defBody s_arrive) (defScope s_arrive) .none kV_arrive dc_arrive pm_arrive an_arrive cd_arrive ct_arrive), sl_arrive⟩)
    (c_arrive : PySem.W.codeIn K cd_arrive "Lock.arrive" = true)
    (k_arrive : PySem.W.keepIn K (.ref f_arrive) = true)
    (a_turn : PySem.W.findIn K (.ref C) "turn_phase" = some (some (.ref f_turn)))
    (i_turn : PySem.W.isFn K (.ref f_turn) = true)
    (l_turn : K.lookup f_turn = some ⟨oc_turn, od_turn, .func (PySem.W.fnOf "turn_phase" "Lock.turn_phase" (defArgs s_turn) (defBody s_turn) (defScope s_turn) .none kV_turn dc_turn pm_turn an_turn cd_turn ct_turn), sl_turn⟩)
    (c_turn : PySem.W.codeIn K cd_turn "Lock.turn_phase" = true)
    (k_turn : PySem.W.keepIn K (.ref f_turn) = true)
    (a_startm : PySem.W.findIn K (.ref C) "start_ship_move" = some (some (.ref f_startm)))
    (i_startm : PySem.W.isFn K (.ref f_startm) = true)
    (l_startm : K.lookup f_startm = some ⟨oc_startm, od_startm, .func (PySem.W.fnOf "start_ship_move" "Lock.start_ship_move" (defArgs s_startm) (defBody s_startm) (defScope s_startm) .none kV_startm dc_startm pm_startm an_startm cd_startm ct_startm), sl_startm⟩)
    (c_startm : PySem.W.codeIn K cd_startm "Lock.start_ship_move" = true)
    (k_startm : PySem.W.keepIn K (.ref f_startm) = true)
    (a_endm : PySem.W.findIn K (.ref C) "end_ship_move" = some (some (.ref f_endm)))
    (i_endm : PySem.W.isFn K (.ref f_endm) = true)
    (l_endm : K.lookup f_endm = some ⟨oc_endm, od_endm, .func (PySem.W.fnOf "end_ship_move" "Lock.end_ship_move" (defArgs s_endm) (defBody s_endm) (defScope s_endm) .none kV_endm dc_endm pm_endm an_endm cd_endm ct_endm), sl_endm⟩)
    (c_endm : PySem.W.codeIn K cd_endm "Lock.end_ship_move" = true)
    (k_endm : PySem.W.keepIn K (.ref f_endm) = true)
    (a_send : PySem.W.findIn K (.ref C) "send_out" = some (some (.ref f_send)))
    (i_send : PySem.W.isFn K (.ref f_send) = true)
    (l_send : K.lookup f_send = some ⟨oc_send, od_send, .func (PySem.W.fnOf "send_out" "Lock.send_out" (defArgs s_send) (defBody s_send) (defScope s_send) .none kV_send dc_send pm_send an_send cd_send ct_send), sl_send⟩)
    (c_send : PySem.W.codeIn K cd_send "Lock.send_out" = true)
    (k_send : PySem.W.keepIn K (.ref f_send) = true)
    (a_choose : PySem.W.findIn K (.ref C) "choose" = some (some (.ref f_choose)))
    (i_choose : PySem.W.isFn K (.ref f_choose) = true)
    (l_choose : K.lookup f_choose = some ⟨oc_choose, od_choose, .func (PySem.W.fnOf "choose" "Lock.choose" (defArgs s_choose) (defBody s_choose) (defScope s_choose) .none kV_choose dc_choose pm_choose an_choose cd_choose ct_choose), sl_choose⟩)
    (c_choose : PySem.W.codeIn K cd_choose "Lock.choose" = true)
    (k_choose : PySem.W.keepIn K (.ref f_choose) = true)
    (a_take : PySem.W.findIn K (.ref C) "take_comings" = some (some (.ref f_take)))
    (i_take : PySem.W.isFn K (.ref f_take) = true)
    (l_take : K.lookup f_take = some ⟨oc_take, od_take, .func (PySem.W.fnOf "take_comings" "Lock.take_comings" (defArgs s_take) (defBody s_take) (defScope s_take) .none kV_take dc_take pm_take an_take cd_take ct_take), sl_take⟩)
    (c_take : PySem.W.codeIn K cd_take "Lock.take_comings" = true)
    (k_take : PySem.W.keepIn K (.ref f_take) = true)
    (a_state : PySem.W.findIn K (.ref C) "state" = some (some (.ref f_state)))
    (i_state : PySem.W.isFn K (.ref f_state) = true)
    (l_state : K.lookup f_state = some ⟨oc_state, od_state, .func (PySem.W.fnOf "state" "Lock.state" (defArgs s_state) (defBody s_state) (defScope s_state) .none kV_state dc_state pm_state an_state cd_state ct_state), sl_state⟩)
    (c_state : PySem.W.codeIn K cd_state "Lock.state" = true)
    (k_state : PySem.W.keepIn K (.ref f_state) = true)
    (a_pass : PySem.W.nsIn K mainGlobals "pass_seconds" = some (some (.ref f_pass)))
    (l_pass : K.lookup f_pass = some ⟨oc_pass, od_pass, .func (PySem.W.fnOf "pass_seconds" "pass_seconds" (defArgs s_pass) (defBody s_pass) (defScope s_pass) .none kV_pass dc_pass pm_pass an_pass cd_pass ct_pass), sl_pass⟩)
    (c_pass : PySem.W.codeIn K cd_pass "pass_seconds" = true)
    (k_pass : PySem.W.keepIn K (.ref f_pass) = true)
    (a_within : PySem.W.nsIn K mainGlobals "within" = some (some (.ref f_within)))
    (l_within : K.lookup f_within = some ⟨oc_within, od_within, .func (PySem.W.fnOf "within" "within" (defArgs s_within) (defBody s_within) (defScope s_within) .none kV_within dc_within pm_within an_within cd_within ct_within), sl_within⟩)
    (c_within : PySem.W.codeIn K cd_within "within" = true)
    (k_within : PySem.W.keepIn K (.ref f_within) = true)
    (a_right : PySem.W.nsIn K mainGlobals "comings_are_right" = some (some (.ref f_right)))
    (l_right : K.lookup f_right = some ⟨oc_right, od_right, .func (PySem.W.fnOf "comings_are_right" "comings_are_right" (defArgs s_right) (defBody s_right) (defScope s_right) .none kV_right dc_right pm_right an_right cd_right ct_right), sl_right⟩)
    (c_right : PySem.W.codeIn K cd_right "comings_are_right" = true)
    (k_right : PySem.W.keepIn K (.ref f_right) = true)
    (a_dinit : PySem.W.findIn K (.ref D) "__init__" = some (some (.ref f_dinit)))
    (i_dinit : PySem.W.isFn K (.ref f_dinit) = true)
    (l_dinit : K.lookup f_dinit = some ⟨oc_dinit, od_dinit, .func (PySem.W.fnOf "__init__" "Desk.__init__" (defArgs s_dinit) (defBody s_dinit) (defScope s_dinit) .none kV_dinit dc_dinit pm_dinit an_dinit cd_dinit ct_dinit), sl_dinit⟩)
    (c_dinit : PySem.W.codeIn K cd_dinit "Desk.__init__" = true)
    (k_dinit : PySem.W.keepIn K (.ref f_dinit) = true)
    (a_begin : PySem.W.findIn K (.ref D) "begin" = some (some (.ref f_begin)))
    (i_begin : PySem.W.isFn K (.ref f_begin) = true)
    (l_begin : K.lookup f_begin = some ⟨oc_begin, od_begin, .func (PySem.W.fnOf "begin" "Desk.begin" (defArgs s_begin) (defBody s_begin) (defScope s_begin) .none kV_begin dc_begin pm_begin an_begin cd_begin ct_begin), sl_begin⟩)
    (c_begin : PySem.W.codeIn K cd_begin "Desk.begin" = true)
    (k_begin : PySem.W.keepIn K (.ref f_begin) = true)
    (a_run : PySem.W.findIn K (.ref D) "run" = some (some (.ref f_run)))
    (i_run : PySem.W.isFn K (.ref f_run) = true)
    (l_run : K.lookup f_run = some ⟨oc_run, od_run, .func (PySem.W.fnOf "run" "Desk.run" (defArgs s_run) (defBody s_run) (defScope s_run) .none kV_run dc_run pm_run an_run cd_run ct_run), sl_run⟩)
    (c_run : PySem.W.codeIn K cd_run "Desk.run" = true)
    (k_run : PySem.W.keepIn K (.ref f_run) = true)
    (a_answer : PySem.W.findIn K (.ref D) "answer" = some (some (.ref f_answer)))
    (i_answer : PySem.W.isFn K (.ref f_answer) = true)
    (l_answer : K.lookup f_answer = some ⟨oc_answer, od_answer, .func (PySem.W.fnOf "answer" "Desk.answer" (defArgs s_answer) (defBody s_answer) (defScope s_answer) .none kV_answer dc_answer pm_answer an_answer cd_answer ct_answer), sl_answer⟩)
    (c_answer : PySem.W.codeIn K cd_answer "Desk.answer" = true)
    (k_answer : PySem.W.keepIn K (.ref f_answer) = true)
    (a_clen : PySem.W.nsIn K mainGlobals "call_length" = some (some (.ref f_clen)))
    (l_clen : K.lookup f_clen = some ⟨oc_clen, od_clen, .func (PySem.W.fnOf "call_length" "call_length" (defArgs s_clen) (defBody s_clen) (defScope s_clen) .none kV_clen dc_clen pm_clen an_clen cd_clen ct_clen), sl_clen⟩)
    (c_clen : PySem.W.codeIn K cd_clen "call_length" = true)
    (k_clen : PySem.W.keepIn K (.ref f_clen) = true)
    (a_answers : PySem.W.nsIn K mainGlobals "answers" = some (some (.ref f_answers)))
    (l_answers : K.lookup f_answers = some ⟨oc_answers, od_answers, .func (PySem.W.fnOf "answers" "answers" (defArgs s_answers) (defBody s_answers) (defScope s_answers) .none kV_answers dc_answers pm_answers an_answers cd_answers ct_answers), sl_answers⟩)
    (c_answers : PySem.W.codeIn K cd_answers "answers" = true)
    (k_answers : PySem.W.keepIn K (.ref f_answers) = true)
    (pgC : PySem.W.plainGet K C Str.empty = true)
    (hdC : PySem.W.hasDictIn K C = true)
    (poC : PySem.W.plainOver K C = true)
    (saC : PySem.W.findIn K (.ref C) "__setattr__" = some (some (.builtin "object.__setattr__")))
    (mkC : PySem.W.makesIn K C = true)
    (kcC : PySem.W.keepIn K (.ref C) = true)
    (pgD : PySem.W.plainGet K D Str.empty = true)
    (hdD : PySem.W.hasDictIn K D = true)
    (poD : PySem.W.plainOver K D = true)
    (saD : PySem.W.findIn K (.ref D) "__setattr__" = some (some (.builtin "object.__setattr__")))
    (mkD : PySem.W.makesIn K D = true)
    (kcD : PySem.W.keepIn K (.ref D) = true)
    (n_room : PySem.W.findIn K (.ref C) "room" = some none)
    (n_high : PySem.W.findIn K (.ref C) "high" = some none)
    (n_gate : PySem.W.findIn K (.ref C) "gate" = some none)
    (n_move : PySem.W.findIn K (.ref C) "move" = some none)
    (n_phase : PySem.W.findIn K (.ref C) "phase" = some none)
    (n_water : PySem.W.findIn K (.ref C) "water" = some none)
    (n_openings : PySem.W.findIn K (.ref C) "openings" = some none)
    (n_waiting : PySem.W.findIn K (.ref C) "waiting" = some none)
    (n_chamber : PySem.W.findIn K (.ref C) "chamber" = some none)
    (n_filled : PySem.W.findIn K (.ref C) "filled" = some none)
    (n_leaving : PySem.W.findIn K (.ref C) "leaving" = some none)
    (n_mover : PySem.W.findIn K (.ref C) "mover" = some none)
    (n_inward : PySem.W.findIn K (.ref C) "inward" = some none)
    (n_to_go : PySem.W.findIn K (.ref C) "to_go" = some none)
    (n_lock : PySem.W.findIn K (.ref D) "lock" = some none)
    (z_len : PySem.W.nsIn K mainGlobals "len" = some none)
    (z_list : PySem.W.nsIn K mainGlobals "list" = some none)
    (z_min : PySem.W.nsIn K mainGlobals "min" = some none)
    (z_range : PySem.W.nsIn K mainGlobals "range" = some none)
    (v_WRONG_VALUE : PySem.W.nsIn K mainGlobals "WRONG_VALUE" = some (some (.int (-2) t_WRONG_VALUE)))
    (v_TOO_MUCH_TO_TELL : PySem.W.nsIn K mainGlobals "TOO_MUCH_TO_TELL" = some (some (.int (-3) t_TOO_MUCH_TO_TELL)))
    (v_TOO_MANY_SHIPS : PySem.W.nsIn K mainGlobals "TOO_MANY_SHIPS" = some (some (.int (-4) t_TOO_MANY_SHIPS)))
    (v_MOST_SHIPS : PySem.W.nsIn K mainGlobals "MOST_SHIPS" = some (some (.int (4096) t_MOST_SHIPS)))
    : ∃ fd : FuncData, (∀ (s : Shared) (v : Value), BindsTo s fd ⟨[v], []⟩ [("calls", v)]) ∧ ∀ base : Heap, K.In base → base.Ns mainGlobals mg → FnOk P w K mg base CX0 7 fa fd ["calls"] (sp_answers K) := by
  have e := hfa.symm.trans (PySem.W.mg_of X G a_answers)
  cases e
  have F_init := fun_mk (st := s_init) l_init c_init k_init
  have F_twin := fun_mk (st := s_twin) l_twin c_twin k_twin
  have F_near := fun_mk (st := s_near) l_near c_near k_near
  have F_count := fun_mk (st := s_count) l_count c_count k_count
  have F_left := fun_mk (st := s_left) l_left c_left k_left
  have F_goon := fun_mk (st := s_goon) l_goon c_goon k_goon
  have F_arrive := fun_mk (st := s_arrive) l_arrive c_arrive k_arrive
  have F_turn := fun_mk (st := s_turn) l_turn c_turn k_turn
  have F_startm := fun_mk (st := s_startm) l_startm c_startm k_startm
  have F_endm := fun_mk (st := s_endm) l_endm c_endm k_endm
  have F_send := fun_mk (st := s_send) l_send c_send k_send
  have F_choose := fun_mk (st := s_choose) l_choose c_choose k_choose
  have F_take := fun_mk (st := s_take) l_take c_take k_take
  have F_state := fun_mk (st := s_state) l_state c_state k_state
  have F_pass := fun_mk (st := s_pass) l_pass c_pass k_pass
  have F_within := fun_mk (st := s_within) l_within c_within k_within
  have F_right := fun_mk (st := s_right) l_right c_right k_right
  have F_dinit := fun_mk (st := s_dinit) l_dinit c_dinit k_dinit
  have F_begin := fun_mk (st := s_begin) l_begin c_begin k_begin
  have F_run := fun_mk (st := s_run) l_run c_run k_run
  have F_answer := fun_mk (st := s_answer) l_answer c_answer k_answer
  have F_clen := fun_mk (st := s_clen) l_clen c_clen k_clen
  have F_answers := fun_mk (st := s_answers) l_answers c_answers k_answers
  have b_init := F_init.binds (ps := ["self", "room", "high", "gate", "move"]) fun _ _ _ _ _ _ us hl => match us, hl with | [_, _, _, _, _], _ => rfl
  have b_twin := F_twin.binds (ps := ["self"]) fun _ _ _ _ _ _ us hl => match us, hl with | [_], _ => rfl
  have b_near := F_near.binds (ps := ["self"]) fun _ _ _ _ _ _ us hl => match us, hl with | [_], _ => rfl
  have b_count := F_count.binds (ps := ["self"]) fun _ _ _ _ _ _ us hl => match us, hl with | [_], _ => rfl
  have b_left := F_left.binds (ps := ["self"]) fun _ _ _ _ _ _ us hl => match us, hl with | [_], _ => rfl
  have b_goon := F_goon.binds (ps := ["self", "seconds"]) fun _ _ _ _ _ _ us hl => match us, hl with | [_, _], _ => rfl
  have b_arrive := F_arrive.binds (ps := ["self", "second"]) fun _ _ _ _ _ _ us hl => match us, hl with | [_, _], _ => rfl
  have b_turn := F_turn.binds (ps := ["self"]) fun _ _ _ _ _ _ us hl => match us, hl with | [_], _ => rfl
  have b_startm := F_startm.binds (ps := ["self", "ship", "inward"]) fun _ _ _ _ _ _ us hl => match us, hl with | [_, _, _], _ => rfl
  have b_endm := F_endm.binds (ps := ["self", "second"]) fun _ _ _ _ _ _ us hl => match us, hl with | [_, _], _ => rfl
  have b_send := F_send.binds (ps := ["self"]) fun _ _ _ _ _ _ us hl => match us, hl with | [_], _ => rfl
  have b_choose := F_choose.binds (ps := ["self"]) fun _ _ _ _ _ _ us hl => match us, hl with | [_], _ => rfl
  have b_take := F_take.binds (ps := ["self", "comings", "place", "second"]) fun _ _ _ _ _ _ us hl => match us, hl with | [_, _, _, _], _ => rfl
  have b_state := F_state.binds (ps := ["self"]) fun _ _ _ _ _ _ us hl => match us, hl with | [_], _ => rfl
  have b_pass := F_pass.binds (ps := ["lock", "n", "most", "comings"]) fun _ _ _ _ _ _ us hl => match us, hl with | [_, _, _, _], _ => rfl
  have b_within := F_within.binds (ps := ["value", "least", "greatest"]) fun _ _ _ _ _ _ us hl => match us, hl with | [_, _, _], _ => rfl
  have b_right := F_right.binds (ps := ["comings", "n", "room"]) fun _ _ _ _ _ _ us hl => match us, hl with | [_, _, _], _ => rfl
  have b_dinit := F_dinit.binds (ps := ["self"]) fun _ _ _ _ _ _ us hl => match us, hl with | [_], _ => rfl
  have b_begin := F_begin.binds (ps := ["self", "room", "high", "gate", "move"]) fun _ _ _ _ _ _ us hl => match us, hl with | [_, _, _, _, _], _ => rfl
  have b_run := F_run.binds (ps := ["self", "m", "n", "most", "comings"]) fun _ _ _ _ _ _ us hl => match us, hl with | [_, _, _, _, _], _ => rfl
  have b_answer := F_answer.binds (ps := ["self", "call"]) fun _ _ _ _ _ _ us hl => match us, hl with | [_, _], _ => rfl
  have b_clen := F_clen.binds (ps := ["calls", "start"]) fun _ _ _ _ _ _ us hl => match us, hl with | [_, _], _ => rfl
  have T : Txt K mg ⟨C, D, f_init, _, f_twin, _, f_near, _, f_count, _, f_left, _, f_goon, _, f_arrive, _, f_turn, _, f_startm, _, f_endm, _, f_send, _, f_choose, _, f_take, _, f_state, _, f_pass, _, f_within, _, f_right, _, f_dinit, _, f_begin, _, f_run, _, f_answer, _, f_clen, _, fa, _⟩ := ⟨⟨pgC, hdC, poC, saC⟩, ⟨pgD, hdD, poD, saD⟩, n_room, n_high, n_gate, n_move, n_phase, n_water, n_openings, n_waiting, n_chamber, n_filled, n_leaving, n_mover, n_inward, n_to_go, n_lock, PySem.W.mg_of X G aC, PySem.W.mg_of X G aD, PySem.W.mg_none_of X G z_len, PySem.W.mg_none_of X G z_list, PySem.W.mg_none_of X G z_min, PySem.W.mg_none_of X G z_range, ⟨_, PySem.W.mg_of X G v_WRONG_VALUE⟩, ⟨_, PySem.W.mg_of X G v_TOO_MUCH_TO_TELL⟩, ⟨_, PySem.W.mg_of X G v_TOO_MANY_SHIPS⟩, ⟨_, PySem.W.mg_of X G v_MOST_SHIPS⟩, ⟨mkC, a_init, i_init, kcC⟩, ⟨mkD, a_dinit, i_dinit, kcD⟩, F_init, b_init, F_twin, b_twin, ⟨a_twin, i_twin, k_twin⟩, F_near, b_near, ⟨a_near, i_near, k_near⟩, F_count, b_count, ⟨a_count, i_count, k_count⟩, F_left, b_left, ⟨a_left, i_left, k_left⟩, F_goon, b_goon, ⟨a_goon, i_goon, k_goon⟩, F_arrive, b_arrive, ⟨a_arrive, i_arrive, k_arrive⟩, F_turn, b_turn, ⟨a_turn, i_turn, k_turn⟩, F_startm, b_startm, ⟨a_startm, i_startm, k_startm⟩, F_endm, b_endm, ⟨a_endm, i_endm, k_endm⟩, F_send, b_send, ⟨a_send, i_send, k_send⟩, F_choose, b_choose, ⟨a_choose, i_choose, k_choose⟩, F_take, b_take, ⟨a_take, i_take, k_take⟩, F_state, b_state, ⟨a_state, i_state, k_state⟩, F_pass, b_pass, PySem.W.mg_of X G a_pass, F_within, b_within, PySem.W.mg_of X G a_within, F_right, b_right, PySem.W.mg_of X G a_right, F_dinit, b_dinit, F_begin, b_begin, ⟨a_begin, i_begin, k_begin⟩, F_run, b_run, ⟨a_run, i_run, k_run⟩, F_answer, b_answer, ⟨a_answer, i_answer, k_answer⟩, F_clen, b_clen, PySem.W.mg_of X G a_clen, F_answers⟩
  exact ⟨_, fun s v => .of_eq rfl, fun base _ _ => ok_answers T⟩
end Ship
open PySem PySem.W PyProof.Rows
set_option maxRecDepth 100000 in
set_option maxHeartbeats 0 in
theorem PySem.Challenge.cw_shiplock_s01_answers_holds : PySem.Challenge.rw_shiplock_s01_answers.Holds := by
  w_on; k_headS; (case hw => exact ⟨[.list [.int 0, .int 1, .int 1, .int 1, .int 1]], by decide +kernel, by decide +kernel⟩)
  k_fillS
  refine L2.walk_spec (k := 7) (x := "calls") (sp := Ship.sp_answers) (by decide) rfl ⟨rfl, by decide, by decide⟩ (fun w h Y => PySem.W.kIn_of Y) ?F ?S
  case S => exact fun K H a ns hask hO hS => ⟨a, ns, rfl, hS, hask, fun H' l h => ⟨l, rfl, h⟩⟩
  case F =>
    intro w mg fa h KX G hmg
    refine' Ship.all_mk KX G hmg ?aC ?aD ?a_init ?i_init ?l_init ?c_init ?k_init ?a_twin ?i_twin ?l_twin ?c_twin ?k_twin ?a_near ?i_near ?l_near ?c_near ?k_near ?a_count ?i_count ?l_count ?c_count ?k_count ?a_left ?i_left ?l_left ?c_left ?k_left ?a_goon ?i_goon ?l_goon ?c_goon ?k_goon ?a_arrive ?i_arrive ?l_arrive ?c_arrive ?k_arrive ?a_turn ?i_turn ?l_turn ?c_turn ?k_turn ?a_startm ?i_startm ?l_startm ?c_startm ?k_startm ?a_endm ?i_endm ?l_endm ?c_endm ?k_endm ?a_send ?i_send ?l_send ?c_send ?k_send ?a_choose ?i_choose ?l_choose ?c_choose ?k_choose ?a_take ?i_take ?l_take ?c_take ?k_take ?a_state ?i_state ?l_state ?c_state ?k_state ?a_pass ?l_pass ?c_pass ?k_pass ?a_within ?l_within ?c_within ?k_within ?a_right ?l_right ?c_right ?k_right ?a_dinit ?i_dinit ?l_dinit ?c_dinit ?k_dinit ?a_begin ?i_begin ?l_begin ?c_begin ?k_begin ?a_run ?i_run ?l_run ?c_run ?k_run ?a_answer ?i_answer ?l_answer ?c_answer ?k_answer ?a_clen ?l_clen ?c_clen ?k_clen ?a_answers ?l_answers ?c_answers ?k_answers ?pgC ?hdC ?poC ?saC ?mkC ?kcC ?pgD ?hdD ?poD ?saD ?mkD ?kcD ?n_room ?n_high ?n_gate ?n_move ?n_phase ?n_water ?n_openings ?n_waiting ?n_chamber ?n_filled ?n_leaving ?n_mover ?n_inward ?n_to_go ?n_lock ?z_len ?z_list ?z_min ?z_range ?v_WRONG_VALUE ?v_TOO_MUCH_TO_TELL ?v_TOO_MANY_SHIPS ?v_MOST_SHIPS
    (case aC => k_is)
    (case aD => k_is)
    (case a_init => k_is)
    (case i_init => k_is)
    (case l_init => k_is)
    (case c_init => k_is)
    (case k_init => k_is)
    (case a_twin => k_is)
    (case i_twin => k_is)
    (case l_twin => k_is)
    (case c_twin => k_is)
    (case k_twin => k_is)
    (case a_near => k_is)
    (case i_near => k_is)
    (case l_near => k_is)
    (case c_near => k_is)
    (case k_near => k_is)
    (case a_count => k_is)
    (case i_count => k_is)
    (case l_count => k_is)
    (case c_count => k_is)
    (case k_count => k_is)
    (case a_left => k_is)
    (case i_left => k_is)
    (case l_left => k_is)
    (case c_left => k_is)
    (case k_left => k_is)
    (case a_goon => k_is)
    (case i_goon => k_is)
    (case l_goon => k_is)
    (case c_goon => k_is)
    (case k_goon => k_is)
    (case a_arrive => k_is)
    (case i_arrive => k_is)
    (case l_arrive => k_is)
    (case c_arrive => k_is)
    (case k_arrive => k_is)
    (case a_turn => k_is)
    (case i_turn => k_is)
    (case l_turn => k_is)
    (case c_turn => k_is)
    (case k_turn => k_is)
    (case a_startm => k_is)
    (case i_startm => k_is)
    (case l_startm => k_is)
    (case c_startm => k_is)
    (case k_startm => k_is)
    (case a_endm => k_is)
    (case i_endm => k_is)
    (case l_endm => k_is)
    (case c_endm => k_is)
    (case k_endm => k_is)
    (case a_send => k_is)
    (case i_send => k_is)
    (case l_send => k_is)
    (case c_send => k_is)
    (case k_send => k_is)
    (case a_choose => k_is)
    (case i_choose => k_is)
    (case l_choose => k_is)
    (case c_choose => k_is)
    (case k_choose => k_is)
    (case a_take => k_is)
    (case i_take => k_is)
    (case l_take => k_is)
    (case c_take => k_is)
    (case k_take => k_is)
    (case a_state => k_is)
    (case i_state => k_is)
    (case l_state => k_is)
    (case c_state => k_is)
    (case k_state => k_is)
    (case a_pass => k_is)
    (case l_pass => k_is)
    (case c_pass => k_is)
    (case k_pass => k_is)
    (case a_within => k_is)
    (case l_within => k_is)
    (case c_within => k_is)
    (case k_within => k_is)
    (case a_right => k_is)
    (case l_right => k_is)
    (case c_right => k_is)
    (case k_right => k_is)
    (case a_dinit => k_is)
    (case i_dinit => k_is)
    (case l_dinit => k_is)
    (case c_dinit => k_is)
    (case k_dinit => k_is)
    (case a_begin => k_is)
    (case i_begin => k_is)
    (case l_begin => k_is)
    (case c_begin => k_is)
    (case k_begin => k_is)
    (case a_run => k_is)
    (case i_run => k_is)
    (case l_run => k_is)
    (case c_run => k_is)
    (case k_run => k_is)
    (case a_answer => k_is)
    (case i_answer => k_is)
    (case l_answer => k_is)
    (case c_answer => k_is)
    (case k_answer => k_is)
    (case a_clen => k_is)
    (case l_clen => k_is)
    (case c_clen => k_is)
    (case k_clen => k_is)
    (case a_answers => k_is)
    (case l_answers => k_is)
    (case c_answers => k_is)
    (case k_answers => k_is)
    (case pgC => k_is)
    (case hdC => k_is)
    (case poC => k_is)
    (case saC => k_is)
    (case mkC => k_is)
    (case kcC => k_is)
    (case pgD => k_is)
    (case hdD => k_is)
    (case poD => k_is)
    (case saD => k_is)
    (case mkD => k_is)
    (case kcD => k_is)
    (case n_room => k_is)
    (case n_high => k_is)
    (case n_gate => k_is)
    (case n_move => k_is)
    (case n_phase => k_is)
    (case n_water => k_is)
    (case n_openings => k_is)
    (case n_waiting => k_is)
    (case n_chamber => k_is)
    (case n_filled => k_is)
    (case n_leaving => k_is)
    (case n_mover => k_is)
    (case n_inward => k_is)
    (case n_to_go => k_is)
    (case n_lock => k_is)
    (case z_len => k_is)
    (case z_list => k_is)
    (case z_min => k_is)
    (case z_range => k_is)
    (case v_WRONG_VALUE => k_is)
    (case v_TOO_MUCH_TO_TELL => k_is)
    (case v_TOO_MANY_SHIPS => k_is)
    (case v_MOST_SHIPS => k_is)
#print axioms PySem.Challenge.cw_shiplock_s01_answers_holds

