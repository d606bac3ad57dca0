import PyProof.Rows.All
import Wide.All
import OpenK.AllK
import Wide.FinOn
import PyProof.EqAt
import PyProof.EqKinds
import PyProof.TupleCall
import KE.BitLaws
import PyProof.ExcBaseAll.ValueError
import PyProof.ExcArgs
import KE.KLam
import KE.KDictOf
import PyProof.P3In
import PySem.Challenge.RW_midstride_k31_refused_calls
-- CHANGE: your row's module here, as the last of these rows
set_option Elab.async false
set_option linter.all false
set_option maxRecDepth 100000
/-! THE HAND LAYER, for ints, bools, texts, own classes, lists, tuples, dicts, comprehensions, walks over dicts, enumerate, zip, reversed, texts, calls, loops. Paste it whole ahead of your own text; what your proof does not reach may be deleted. -/
namespace L2
open PySem PySem.Spec PyProof.Rows

/-- a key: an int or a str -/
abbrev Key := Sum Int Str
def keyIs : Key → Value → Bool
  | .inl k, v => Value.isInt k v
  | .inr x, v => Value.isStrOf x v
def keyH (w : World) : Key → Int
  | .inl k => hashInt k
  | .inr x => hashStr w x
theorem keyIs_shape : ∀ {k : Key} {v : Value}, keyIs k v = true → (∃ i t, k = Sum.inl i ∧ v = Value.int i t) ∨ (∃ x t, k = Sum.inr x ∧ v = Value.str x t)
  | .inl i, v, h => by
    obtain ⟨t, e⟩ := Value.isInt_shape (k := i) (v := v) h
    exact .inl ⟨i, t, rfl, e⟩
  | .inr x, v, h => by
    obtain ⟨t, e⟩ := Value.isStrOf_shape (x := x) (v := v) h
    exact .inr ⟨x, t, rfl, e⟩
theorem keyIs_int (i : Int) (t : Tok) : keyIs (.inl i) (.int i t) = true := by simp [keyIs, Value.isInt]
theorem keyIs_str (x : Str) (t : Tok) : keyIs (.inr x) (.str x t) = true := by simp [keyIs, Value.isStrOf]
theorem key_ll (a b : Int) : decide ((Sum.inl a : Key) = Sum.inl b) = (a == b) := by
  by_cases e : a = b
  · subst e; simp
  · have h : ¬ (Sum.inl a : Key) = Sum.inl b := fun q => e (Sum.inl.inj q)
    rw [decide_eq_false h]
    exact (beq_eq_false_iff_ne.mpr e).symm
theorem key_rr (a b : Str) : decide ((Sum.inr a : Key) = Sum.inr b) = decide (a = b) := by
  by_cases e : a = b
  · subst e; simp
  · have h : ¬ (Sum.inr a : Key) = Sum.inr b := fun q => e (Sum.inr.inj q)
    rw [decide_eq_false h, decide_eq_false e]
theorem key_lr (a : Int) (b : Str) : decide ((Sum.inl a : Key) = Sum.inr b) = false := decide_eq_false (fun q => nomatch q)
theorem key_rl (a : Str) (b : Int) : decide ((Sum.inr a : Key) = Sum.inl b) = false := decide_eq_false (fun q => nomatch q)

def mixKind (prog : Program) (w : World) : PySem.KeyKind prog w Key where
  is := keyIs
  hash := keyH w
  inj := fun v a b ha hb => by
    rcases keyIs_shape ha with ⟨i, t, rfl, rfl⟩ | ⟨x, t, rfl, rfl⟩
    · rcases keyIs_shape hb with ⟨j, u, rfl, e⟩ | ⟨y, u, rfl, e⟩
      · injection e with e1 _; rw [e1]
      · exact nomatch e
    · rcases keyIs_shape hb with ⟨j, u, rfl, e⟩ | ⟨y, u, rfl, e⟩
      · exact nomatch e
      · injection e with e1 _; rw [e1]
  byValue := fun k v h => by
    rcases keyIs_shape h with ⟨i, t, rfl, rfl⟩ | ⟨x, t, rfl, rfl⟩ <;> rfl
  pyHash := fun hv h => by
    rcases keyIs_shape hv with ⟨i, t, rfl, rfl⟩ | ⟨x, t, rfl, rfl⟩
    · exact wpAny_pyHash_int h
    · exact wpAny_pyHash_str h
  eqBool := fun hu hv h => by
    rcases keyIs_shape hu with ⟨i, t, rfl, rfl⟩ | ⟨x, t, rfl, rfl⟩
    · rcases keyIs_shape hv with ⟨j, u, rfl, rfl⟩ | ⟨y, u, rfl, rfl⟩
      · rw [key_ll] at h; exact wpAny_eqBool_int h
      · rw [key_lr] at h; exact SeqAt.EqAt.int_str i t y u _ _ _ _ h
    · rcases keyIs_shape hv with ⟨j, u, rfl, rfl⟩ | ⟨y, u, rfl, rfl⟩
      · rw [key_rl] at h; exact SeqAt.EqAt.str_int x t j u _ _ _ _ h
      · rw [key_rr] at h; exact wpAny_eqBool_str h
  «strs» := fun k x t v h => by
    rcases keyIs_shape h with ⟨i, u, rfl, e⟩ | ⟨y, u, rfl, e⟩
    · exact nomatch e
    · injection e with e1 _
      subst e1
      cases v <;> rfl

theorem mixKind_int (prog : Program) (w : World) (i : Int) (t : Tok) : (mixKind prog w).is (.inl i) (.int i t) = true := keyIs_int i t
theorem mixKind_str (prog : Program) (w : World) (x : Str) (t : Tok) : (mixKind prog w).is (.inr x) (.str x t) = true := keyIs_str x t
end L2

namespace L2
open PySem PySem.Spec PyProof.Rows

/-- a value, without the heap -/
inductive V where
  | non | bl (b : Bool) | int (i : Int) | str (x : Str) | byt (b : Array UInt8) | flt (b : UInt64) | ref (a : Addr) | ty (n : String)
  deriving DecidableEq

def RelV : V → Value → Prop
  | .non, u => u = Value.none
  | .bl b, u => u = Value.bool b
  | .int i, u => ∃ t, u = Value.int i t
  | .str x, u => ∃ t, u = Value.str x t
  | .byt b, u => ∃ t, u = Value.bytes b t
  | .flt b, u => ∃ t, u = Value.float b t
  | .ref a, u => u = Value.ref a
  | .ty n, u => u = Value.type n

abbrev Vals : List V → List Value → Prop := Paired RelV
theorem Vals.length {xs : List V} {us : List Value} (r : Vals xs us) : xs.length = us.length := Paired.length r
theorem Vals.get : ∀ {xs : List V} {us : List Value} {i : Nat} {x : V}, Vals xs us → xs[i]? = some x → ∃ u, us[i]? = some u ∧ RelV x u
  | _, _, _, _, .nil, e => by simp at e
  | _, _, 0, _, .cons r _, e => by simp at e; subst e; exact ⟨_, rfl, r⟩
  | _, _, i + 1, x, .cons _ t, e => by
    obtain ⟨u, h1, h2⟩ := Vals.get (i := i) (x := x) t (by simpa using e)
    exact ⟨u, by simpa using h1, h2⟩
theorem Vals.set {x : V} {u : Value} (r : RelV x u) : ∀ {xs : List V} {us : List Value} (i : Nat), Vals xs us → Vals (xs.set i x) (us.set i u)
  | _, _, _, .nil => .nil
  | _, _, 0, .cons _ t => .cons r t
  | _, _, i + 1, .cons q t => .cons q (Vals.set r i t)
theorem Vals.append : ∀ {xs ys : List V} {us ws : List Value}, Vals xs us → Vals ys ws → Vals (xs ++ ys) (us ++ ws)
  | _, _, _, _, .nil, s => s
  | _, _, _, _, .cons r t, s => .cons r (Vals.append t s)
theorem Vals.take : ∀ {xs : List V} {us : List Value} (n : Nat), Vals xs us → Vals (xs.take n) (us.take n)
  | _, _, 0, _ => .nil
  | _, _, _ + 1, .nil => .nil
  | _, _, n + 1, .cons r t => .cons r (Vals.take n t)
theorem Vals.drop : ∀ {xs : List V} {us : List Value} (n : Nat), Vals xs us → Vals (xs.drop n) (us.drop n)
  | _, _, 0, r => r
  | _, _, _ + 1, .nil => .nil
  | _, _, n + 1, .cons _ t => Vals.drop n t
theorem Vals.none_of : ∀ {xs : List V} {us : List Value} {i : Nat}, Vals xs us → xs[i]? = none → us[i]? = none := fun {xs us i} r e => by
  have h1 := r.length
  have h2 : xs.length ≤ i := List.getElem?_eq_none_iff.mp e
  exact List.getElem?_eq_none_iff.mpr (by omega)

def RelO : Option V → Option Value → Prop
  | some v, some u => RelV v u
  | none, none => True
  | _, _ => False
def KV {κ : Type} : List (κ × V) → List (κ × Value) → Prop := Paired fun (p : κ × V) (q : κ × Value) => p.1 = q.1 ∧ RelV p.2 q.2

/-- a key of a dict (00_mix): an int or a text -/
def kV : Key → V
  | .inl i => .int i
  | .inr x => .str x

/-- what stands at a tracked address -/
inductive HO where
  /-- a list -/
  | lst (xs : List V)
  /-- a tuple (never changes) -/
  | tup (xs : List V)
  /-- a dict whose keys are ints and texts; one whose keys are tuples of ints and texts (the empty one is both) -/
  | dK (kvs : List (Key × V)) | dT (kvs : List (List Key × V))
  /-- a set of ints: its members, its size -/
  | set (S : Int → Bool) (n : Nat)
  /-- an instance of the class at C, its dict at dx, its attributes -/
  | ins (C dx : Addr) (fs : List (Str × V))
  /-- the dict of the instance at x -/
  | own (x : Addr)
  /-- the dict of an exception -/
  | xd (fs : List (Str × V))
  /-- a bound method, f of x -/
  | met (f x : Addr)
  /-- a range object lo, lo + 1, .. below hi -/
  | rng (lo hi : Int)
  /-- a thing that is known to the object (the script; a dict while a loop walks it): read, never written while it is so -/
  | frz (o : Obj) (u : HO)
  /-- a code object's table -/
  | tbl (ps : Array Value)
  /-- any other thing, by what is true of its one object (a def of one's own: SetO a S n := HO.ext fun h => ..) -/
  | ext (φ : Heap → Prop)

abbrev Hp := Addr → Option HO
def upd (H : Hp) (a : Addr) (o : HO) : Hp := fun b => if b = a then some o else H b
theorem upd_same {H : Hp} {a : Addr} {o : HO} : upd H a o a = some o := by unfold upd; rw [if_pos rfl]
theorem upd_ne {H : Hp} {a b : Addr} {o : HO} (h : b ≠ a) : upd H a o b = H b := by unfold upd; rw [if_neg h]
theorem upd_upd {H : Hp} {a : Addr} {o u : HO} : upd (upd H a o) a u = upd H a u := by
  funext b; unfold upd; split <;> rfl
/-- two objects of different content stand apart -/
theorem ne_of {H : Hp} {a b : Addr} {o u : HO} (h : H a = some o) (h' : H b = some u) (d : o ≠ u) : a ≠ b := by
  intro e; subst e; rw [h] at h'; exact d (Option.some.inj h')
theorem ne_of_none {H : Hp} {a b : Addr} {o : HO} (h : H a = some o) (h' : H b = none) : a ≠ b := by
  intro e; subst e; rw [h] at h'; cases h'

section
variable (P : Program) (w : World)
def ObjOk (H : Hp) (h : Heap) (a : Addr) : HO → Prop
  | .lst xs => xs.length ≤ sizeLine ∧ ∃ (its : List Value) (n : Nat), Vals xs its ∧ h.get? a = some { cls := .type "list", data := .seq its.toArray n }
  | .tup xs => xs.length ≤ sizeLine ∧ ∃ its : List Value, Vals xs its ∧ IsTup h a its.toArray
  | .dK kvs => kvs.length ≤ sizeLine ∧ (a == sysModules) = false ∧ ∃ vs, KV kvs vs ∧ h.DictOf (mixKind P w) a vs
  | .dT kvs => kvs.length ≤ sizeLine ∧ (a == sysModules) = false ∧ ∃ xs : List (List Key × Addr × Value),
      Paired (fun (p : List Key × V) (q : List Key × Addr × Value) => p.1 = q.1 ∧ H q.2.1 = some (.tup (p.1.map kV)) ∧ RelV p.2 q.2.2) kvs xs ∧
      ∃ o es ep, h.get? a = some o ∧ o.ExactDict ∧ o.data = .dict es ep ∧ es.toList = xs.map (entryOfKey (tupleKind (mixKind P w))) ∧ (xs.map (·.1)).Nodup
  | .set S n => h.SetOf (intKind P w) a S n
  | .ins C dx fs => H dx = some (.own a) ∧ fs.length ≤ 1000 ∧ dx ≠ a ∧ h.get? a = some (PySem.W.instObj C dx) ∧
      ∃ mA, h.Ns1 dx mA ∧ (∀ f, RelO (fs.lookup f) (mA f)) ∧ PySem.Within mA (fs.map (·.1))
  | .own _ => ∃ o, h.get? a = some o
  | .xd fs => ∃ mA, h.Ns1 a mA ∧ ∀ f, RelO (fs.lookup f) (mA f)
  | .rng lo hi => ∃ t u v, h.get? a = some { cls := .type "range", data := .fields #[.int lo t, .int hi u, .int 1 v] }
  | .frz o u => h.get? a = some o ∧ ObjOk H h a u
  | .tbl ps => h.get? a = some { cls := .none, data := .fields ps }
  | .met f x => h.get? a = some (PySem.W.methodObj (.ref f) (.ref x))
  | .ext φ => φ h ∧ (∃ o, h.get? a = some o) ∧ ∀ h1 h2 : Heap, φ h1 → (∀ o, h1.get? a = some o → h2.get? a = some o) → φ h2
/-- the abstract heap is held -/
def HOk (H : Hp) (h : Heap) : Prop := ∀ a o, H a = some o → ObjOk P w H h a o
end

section
variable {P : Program} {w : World} {H H' : Hp} {h h' : Heap} {a : Addr} {o : HO}
theorem ObjOk.lt (x : ObjOk P w H h a o) : a < h.objs.size := by
  cases o with
  | lst xs => obtain ⟨_, _, _, _, e⟩ := x; exact Heap.lt_size e
  | tup xs => obtain ⟨_, _, _, p⟩ := x; exact p.lt
  | dK kvs => obtain ⟨_, _, _, _, o, _, _, e, _⟩ := x; exact Heap.lt_size e
  | dT kvs => obtain ⟨_, _, _, _, o, _, _, e, _⟩ := x; exact Heap.lt_size e
  | set S n => obtain ⟨o, _, _, _, e, _⟩ := x; exact Heap.lt_size e
  | ins C dx fs => obtain ⟨_, _, _, e, _⟩ := x; exact Heap.lt_size e
  | own y => obtain ⟨_, e⟩ := x; exact Heap.lt_size e
  | xd fs => obtain ⟨_, ⟨_, _, _, e, _⟩, _⟩ := x; exact Heap.lt_size e
  | rng lo hi => obtain ⟨_, _, _, e⟩ := x; exact Heap.lt_size e
  | frz ob u => obtain ⟨e, _⟩ := x; exact Heap.lt_size e
  | tbl ps => exact Heap.lt_size (show h.get? a = some _ from x)
  | met f y => exact Heap.lt_size (show h.get? a = some _ from x)
  | ext φ => obtain ⟨_, ⟨_, e⟩, _⟩ := x; exact Heap.lt_size e
theorem Paired.mapP {α β : Type} {F G : α → β → Prop} : ∀ {l₁ : List α} {l₂ : List β}, Paired F l₁ l₂ → (∀ a b, F a b → G a b) → Paired G l₁ l₂
  | _, _, .nil, _ => .nil
  | _, _, .cons r t, f => .cons (f _ _ r) (Paired.mapP t f)
/-- what an object's description leans on: its own object, its own dict, the tuples -/
theorem ObjOk.stay (x : ObjOk P w H h a o) (k : ∀ b u, (b = a ∨ H b = some (.own a)) → h.get? b = some u → h'.get? b = some u)
    (ho : ∀ b, H b = some (.own a) → H' b = some (.own a)) (ht : ∀ b xs, H b = some (.tup xs) → H' b = some (.tup xs)) : ObjOk P w H' h' a o := by
  induction o with
  | lst xs => obtain ⟨z, its, n, r, e⟩ := x; exact ⟨z, its, n, r, k _ _ (.inl rfl) e⟩
  | tup xs => obtain ⟨z, its, r, ob, e, c⟩ := x; exact ⟨z, its, r, ob, k _ _ (.inl rfl) e, c⟩
  | dK kvs => obtain ⟨z, y, vs, r, ob, es, ep, e, c⟩ := x; exact ⟨z, y, vs, r, ob, es, ep, k _ _ (.inl rfl) e, c⟩
  | dT kvs =>
    obtain ⟨z, y, xs, r, ob, es, ep, e, c⟩ := x
    exact ⟨z, y, xs, Paired.mapP r fun p q z => ⟨z.1, ht _ _ z.2.1, z.2.2⟩, ob, es, ep, k _ _ (.inl rfl) e, c⟩
  | set S n => obtain ⟨ob, es, ep, t, e, c⟩ := x; exact ⟨ob, es, ep, t, k _ _ (.inl rfl) e, c⟩
  | ins C dx fs =>
    obtain ⟨d, z, ne, e, mA, ⟨od, es, ep, e2, c⟩, r⟩ := x
    exact ⟨ho _ d, z, ne, k _ _ (.inl rfl) e, mA, ⟨od, es, ep, k _ _ (.inr d) e2, c⟩, r⟩
  | own y => obtain ⟨ob, e⟩ := x; exact ⟨ob, k _ _ (.inl rfl) e⟩
  | xd fs => obtain ⟨mA, ⟨od, es, ep, e, c⟩, r⟩ := x; exact ⟨mA, ⟨od, es, ep, k _ _ (.inl rfl) e, c⟩, r⟩
  | rng lo hi => obtain ⟨t, u, v, e⟩ := x; exact ⟨t, u, v, k _ _ (.inl rfl) e⟩
  | frz ob u ih => obtain ⟨e, q⟩ := x; exact ⟨k _ _ (.inl rfl) e, ih q⟩
  | tbl ps =>
    have e : h.get? a = some { cls := .none, data := .fields ps } := x
    show h'.get? a = some { cls := .none, data := .fields ps }
    exact k a _ (.inl rfl) e
  | met f y =>
    have e : h.get? a = some (PySem.W.methodObj (.ref f) (.ref y)) := x
    show h'.get? a = some (PySem.W.methodObj (.ref f) (.ref y))
    exact k a _ (.inl rfl) e
  | ext φ => obtain ⟨p, ⟨o, e⟩, st⟩ := x; exact ⟨st _ _ p fun o q => k _ _ (.inl rfl) q, ⟨o, k _ _ (.inl rfl) e⟩, st⟩
theorem HOk.lt (x : HOk P w H h) (e : H a = some o) : a < h.objs.size := (x a o e).lt
theorem HOk.fresh (x : HOk P w H h) (e : h.objs.size ≤ a) : H a = none := by
  cases q : H a with
  | none => rfl
  | some u => exact absurd (Nat.lt_of_lt_of_le (x.lt q) e) (Nat.lt_irrefl _)
/-- every object of the heap is kept -/
theorem HOk.kept (x : HOk P w H h) (k : ∀ b u, h.get? b = some u → h'.get? b = some u) : HOk P w H h' := fun a o e =>
  (x a o e).stay (fun b u _ q => k b u q) (fun _ q => q) fun _ _ q => q
/-- a new object is laid and tracked -/
theorem HOk.laid (x : HOk P w H h) (k : ∀ b u, h.get? b = some u → h'.get? b = some u) (hp : h.objs.size ≤ a) (new : ObjOk P w (upd H a o) h' a o) : HOk P w (upd H a o) h' := fun b u e => by
  have hn := x.fresh hp
  by_cases hb : b = a
  · subst hb; rw [upd_same] at e; cases e; exact new
  · rw [upd_ne hb] at e
    exact (x b u e).stay (fun c v _ q => k c v q) (fun c q => by rw [upd_ne (ne_of_none q hn)]; exact q) fun c xs q => by rw [upd_ne (ne_of_none q hn)]; exact q
end

/-- what may be read as u: it is u, or a known u -/
def Rd (H : Hp) (a : Addr) (u : HO) : Prop := H a = some u ∨ ∃ o, H a = some (.frz o u)
theorem Rd.of {H : Hp} {a : Addr} {u : HO} (h : H a = some u) : Rd H a u := .inl h
theorem Rd.ok {P : Program} {w : World} {H : Hp} {h : Heap} {a : Addr} {u : HO} (r : Rd H a u) (x : HOk P w H h) : ObjOk P w H h a u := by
  rcases r with r | ⟨o, r⟩
  · exact x a u r
  · obtain ⟨_, q⟩ := x a _ r
    exact q
/-- what may be written -/
def Mut : Option HO → Prop
  | some (.lst _) => True
  | some (.dK _) => True
  | some (.dT _) => True
  | some (.set _ _) => True
  | some (.ins _ _ _) => True
  | some (.ext _) => True
  | _ => False
section
variable {P : Program} {w : World} {H : Hp} {h h' : Heap} {x e : Addr} {o' : HO}
/-- the object at e is changed: x itself, or the dict of the instance x -/
theorem HOk.write (ok : HOk P w H h) (mu : Mut (H x)) (he : e = x ∨ H e = some (.own x)) (k : ∀ b u, b ≠ e → h.get? b = some u → h'.get? b = some u) (heo : ∃ u, h'.get? e = some u)
    (new : ObjOk P w (upd H x o') h' x o') : HOk P w (upd H x o') h' := fun b u q => by
  have nown : ∀ c y, H c = some (.own y) → c ≠ x := fun c y r z => by subst z; rw [r] at mu; exact mu
  have ntup : ∀ c xs, H c = some (.tup xs) → c ≠ x := fun c xs r z => by subst z; rw [r] at mu; exact mu
  by_cases hb : b = x
  · subst hb; rw [upd_same] at q; cases q; exact new
  · rw [upd_ne hb] at q
    by_cases hbe : b = e
    · have q' : H b = some (.own x) := by
        rcases he with z | z
        · exact absurd (hbe.trans z) hb
        · rw [hbe]; exact z
      rw [q] at q'; cases q'
      obtain ⟨v, hv⟩ := heo
      exact ⟨v, by rw [hbe]; exact hv⟩
    · refine (ok b u q).stay (fun c v hc r => k c v ?_ r) (fun c r => by rw [upd_ne (nown c b r)]; exact r) fun c xs r => by rw [upd_ne (ntup c xs r)]; exact r
      rcases hc with rfl | hc
      · exact hbe
      · rintro rfl
        rcases he with z | z
        · exact nown c b hc z
        · rw [hc] at z; cases z; exact hb rfl
end

/-! ### kept unless tracked; of the frames at fs (the callers') the slots may change (an exception that passes writes there); of the records at ex (iterators) nothing is said -/
structure Un (fs ex : List Addr) (H H' : Hp) (h h' : Heap) : Prop where
  keep : ∀ b o, h.get? b = some o → H b = none → b ∉ fs → b ∉ ex → h'.get? b = some o
  slot : ∀ b o, h.get? b = some o → H b = none → b ∈ fs → b ∉ ex → ∃ sl, h'.get? b = some { o with slots := sl }
  free : ∀ b o, h.get? b = some o → H b = none → b ∉ ex → H' b = none
  there : ∀ b o, h.get? b = some o → b ∉ ex → ∃ o', h'.get? b = some o'
  tups : ∀ b xs, H b = some (.tup xs) → H' b = some (.tup xs)
  frzs : ∀ b o u, H b = some (.frz o u) → H' b = some (.frz o u)
  tbls : ∀ b ps, H b = some (.tbl ps) → ∃ more, H' b = some (.tbl (ps ++ more))
section
variable {fs fs' ex ex' : List Addr} {H H1 H2 : Hp} {h h1 h2 h' : Heap} {a x e : Addr} {o : HO}
theorem Un.any (u : Un fs ex H H1 h h1) {b : Addr} {ob : Obj} (q : h.get? b = some ob) (n : H b = none) (hx : b ∉ ex) : ∃ sl, h1.get? b = some { ob with slots := sl } := by
  by_cases hb : b ∈ fs
  · exact u.slot b ob q n hb hx
  · exact ⟨ob.slots, u.keep b ob q n hb hx⟩
theorem Un.trans (a : Un fs ex H H1 h h1) (b : Un fs ex H1 H2 h1 h2) : Un fs ex H H2 h h2 where
  keep := fun c ob q n hc hx => b.keep c ob (a.keep c ob q n hc hx) (a.free c ob q n hx) hc hx
  slot := fun c ob q n hc hx => by
    obtain ⟨sl, e1⟩ := a.slot c ob q n hc hx
    obtain ⟨sl', e2⟩ := b.slot c _ e1 (a.free c ob q n hx) hc hx
    exact ⟨sl', e2⟩
  free := fun c ob q n hx => by
    obtain ⟨o', e1⟩ := a.there c ob q hx
    exact b.free c o' e1 (a.free c ob q n hx) hx
  there := fun c ob q hx => by
    obtain ⟨o', e1⟩ := a.there c ob q hx
    exact b.there c o' e1 hx
  tups := fun c xs q => b.tups c xs (a.tups c xs q)
  frzs := fun c ob xs q => b.frzs c ob xs (a.frzs c ob xs q)
  tbls := fun c ps q => by
    obtain ⟨m1, e1⟩ := a.tbls c ps q
    obtain ⟨m2, e2⟩ := b.tbls c _ e1
    exact ⟨m1 ++ m2, by rw [e2, Array.append_assoc]⟩
theorem Un.kept (k : ∀ b u, h.get? b = some u → h'.get? b = some u) : Un fs ex H H h h' :=
  ⟨fun b ob q _ _ _ => k b ob q, fun b ob q _ _ _ => ⟨ob.slots, k b ob q⟩, fun _ _ _ n _ => n, fun b ob q _ => ⟨ob, k b ob q⟩, fun _ _ q => q, fun _ _ _ q => q, fun _ ps q => ⟨#[], by rw [q]; simp⟩⟩
theorem Un.refl : Un fs ex H H h h := Un.kept fun _ _ q => q
theorem Un.laid (k : ∀ b u, h.get? b = some u → h'.get? b = some u) (hp : h.objs.size ≤ a) (hn : H a = none) : Un fs ex H (upd H a o) h h' where
  keep := fun b u q _ _ _ => k b u q
  slot := fun b u q _ _ _ => ⟨u.slots, k b u q⟩
  free := fun b u q n _ => by rw [upd_ne (Nat.ne_of_lt (Nat.lt_of_lt_of_le (Heap.lt_size q) hp))]; exact n
  there := fun b u q _ => ⟨u, k b u q⟩
  tups := fun b xs q => by rw [upd_ne (ne_of_none q hn)]; exact q
  frzs := fun b u xs q => by rw [upd_ne (ne_of_none q hn)]; exact q
  tbls := fun b ps q => ⟨#[], by rw [upd_ne (ne_of_none q hn), q]; simp⟩
theorem Un.write (mu : Mut (H x)) (he : e = x ∨ H e = some (.own x)) (k : ∀ b u, b ≠ e → h.get? b = some u → h'.get? b = some u) (heo : ∃ u, h'.get? e = some u) : Un fs ex H (upd H x o) h h' := by
  have hx : ∀ b, H b = none → b ≠ x := fun b n z => by subst z; rw [n] at mu; exact mu
  have hb : ∀ b, H b = none → b ≠ e := fun b n z => by
    subst z
    rcases he with r | r
    · exact hx b n r
    · rw [n] at r; cases r
  have hm : ∀ b u, H b = some u → ¬ Mut (some u) → b ≠ x := fun b u q nm z => by subst z; rw [q] at mu; exact nm mu
  refine ⟨fun b u q n _ _ => k b u (hb b n) q, fun b u q n _ _ => ⟨u.slots, k b u (hb b n) q⟩, fun b u q n _ => by rw [upd_ne (hx b n)]; exact n, fun b u q _ => ?_,
    fun b xs q => by rw [upd_ne (hm b _ q fun z => z)]; exact q, fun b u xs q => by rw [upd_ne (hm b _ q fun z => z)]; exact q, fun b ps q => ⟨#[], by rw [upd_ne (hm b _ q fun z => z), q]; simp⟩⟩
  by_cases hbe : b = e
  · subst hbe; exact heo
  · exact ⟨u, k b u hbe q⟩
theorem Un.mono (u : Un fs ex H H1 h h1) (hs : ∀ b ∈ fs, b ∈ fs') (hx : ∀ b ∈ ex, b ∈ ex') : Un fs' ex' H H1 h h1 :=
  ⟨fun b ob q n hb he => u.keep b ob q n (fun z => hb (hs b z)) fun z => he (hx b z), fun _ _ q n _ he => u.any q n fun z => he (hx _ z), fun b ob q n he => u.free b ob q n fun z => he (hx b z), fun b ob q he => u.there b ob q fun z => he (hx b z), u.tups, u.frzs, u.tbls⟩
end

/-! ### the heap without what is tracked -/
def trk (h : Heap) (H : Hp) : List Addr := (List.range h.objs.size).filter fun a => (H a).isSome
def hidT (h : Heap) (H : Hp) : Heap := PySem.W.hideAll h (trk h H)
theorem hidT_size (h : Heap) (H : Hp) : (hidT h H).objs.size = h.objs.size := PySem.W.hideAll_size _ _
theorem hidT_get {h : Heap} {H : Hp} {b : Addr} {o : Obj} (e : h.get? b = some o) (n : H b = none) : (hidT h H).get? b = some o :=
  PySem.W.hideAll_get _ e fun hm => by
    have q : (H b).isSome = true := (List.mem_filter.mp hm).2
    rw [n] at q; simp at q
theorem of_hidT {h : Heap} {H : Hp} {b : Addr} {o : Obj} (e : (hidT h H).get? b = some o) : h.get? b = some o ∧ H b = none := by
  have e' : h.get? b = some o := PySem.W.of_hideAll (trk h H) e
  refine ⟨e', ?_⟩
  cases q : H b with
  | none => rfl
  | some x =>
    have hm : b ∈ trk h H := List.mem_filter.mpr ⟨List.mem_range.mpr (Heap.lt_size e'), by simp [q]⟩
    have z : (hidT h H).get? b = none := PySem.W.hideAll_none (trk h H) hm
    rw [z] at e; cases e

/-! ### OpenK's ledger, filled with every new object but one -/
def allNews (g h : Heap) (L : Addr) : List (Addr × Obj) := (List.range h.objs.size).filterMap fun a => if a = L ∨ (g.get? a).isSome = true then none else (h.get? a).map fun o => (a, o)
def rest (g h : Heap) (L d : Addr) : List (Addr × Obj) := (allNews g h L).filter fun p => decide (p.1 ≠ d)
end L2

namespace L2
open PySem PySem.Spec PyProof.Rows

/-- the module's facts, over the base: the heap at the law's entry without what is tracked there -/
structure Mod (K : PySem.W.Frag) (mg : Str → Option Value) (base : Heap) : Prop where
  kin : K.In base
  glob : base.Ns mainGlobals mg
  blt : ∃ mb, base.Ns builtinsNs mb ∧ ∀ x : Str, x ≠ "__name__" → mb x = bootBuiltins x
  nolimit : base.NoLimit

/-- the context: a def's body (or a comprehension's block) running. base: fixed through the whole law; s₀, H₀: the entry; outer: the frames whose slots others may change (a def's callers); stack: all frames that run;
   ex: iterators that were made ahead of the entry and are walked here (a comprehension's); fn: the names whose cells were made at the entry (a def: all; a comprehension's block: its own); calm: not within an except suite; pn: pins that every state bears; xe: what is wanted of an exception that leaves the code -/
structure Cx where
  prog : Program
  w : World
  K : PySem.W.Frag
  mg : Str → Option Value
  base : Heap
  A : Around
  N : List Str
  s_0 : Shared
  H_0 : Hp
  env : Env
  outer : List Env
  stack : List Env
  ex : List Addr
  fn : Str → Bool
  calm : Bool
  pn : List (Addr × Obj)
  xe : Value → Shared → Prop
/-- the callers' frames -/
def frs (l : List Env) : List Addr := l.filterMap (·.frame)
abbrev Cx.fs (X : Cx) : List Addr := frs X.outer

def Vis (sc : Scope) (x : Str) : Prop := sc.names.lookup x = some .local ∨ sc.names.lookup x = some .cell ∨ sc.names.lookup x = some .free
def Loc (sc : Scope) (x : Str) : Prop := sc.names.lookup x = some .local ∨ sc.names.lookup x = some .cell
def Look (env : Env) (h : Heap) (m : Str → Option Value) (x : Str) (u : Value) : Prop :=
  (env.kindOf x = some .local ∧ m x = some u) ∨ ((env.kindOf x = some .cell ∨ env.kindOf x = some .free) ∧ ∃ c, env.cells.lookup x = some c ∧ h.IsCell c (some u))

structure Cx.Ok (X : Cx) : Prop where
  mod : Mod X.K X.mg X.base
  kind : X.env.scope.kind = .function
  glob : X.env.globals = mainGlobals
  blt : X.env.builtins = builtinsNs
  above : X.s_0.heap.objs.size ≤ X.env.locals
  inj : ∀ x y c, X.env.cells.lookup x = some c → X.env.cells.lookup y = some c → x = y
  has : ∀ x, (X.env.kindOf x = some .cell ∨ X.env.kindOf x = some .free) → ∃ c, X.env.cells.lookup x = some c
  cab : ∀ x c, X.fn x = true → X.env.cells.lookup x = some c → X.s_0.heap.objs.size ≤ c
  hd : X.calm = true → X.A.handled = none
  frames : X.A.frames = some X.stack
  stk : X.stack = X.outer ∨ (X.stack = X.env :: X.outer ∧ X.env.frame = some X.env.locals)
  exf : ∀ b ∈ X.ex, b ≠ X.env.locals ∧ ∀ x c, X.env.cells.lookup x = some c → c ≠ b
  bs : ∀ b o, X.base.get? b = some o → X.s_0.heap.get? b = some o ∧ X.H_0 b = none
  bsz : X.base.objs.size ≤ X.s_0.heap.objs.size
  noex : ∀ b o, X.base.get? b = some o → b ∉ X.ex
  exfs : ∀ b ∈ X.ex, b ∉ X.fs
  funs : X.s_0.heap.FunFrames X.base X.outer
  frf : ∀ b ∈ X.fs, X.H_0 b = none

structure Inv (X : Cx) (pins : List (Addr × Obj)) (σ : List (Option V)) (H : Hp) (s : Shared) : Prop where
  ok : X.Ok
  os : s.os = X.s_0.os
  bare : AllBare s.gens
  base : Un X.fs X.ex X.H_0 H X.s_0.heap s.heap
  loc : ∃ m, s.heap.Ns X.env.locals m ∧ ∀ (i : Nat) (x : Str) (v : V), X.N[i]? = some x → σ[i]? = some (some v) → Vis X.env.scope x → ∃ u, RelV v u ∧ Look X.env s.heap m x u
  cell : ∀ x c, X.env.cells.lookup x = some c → ∃ v, s.heap.IsCell c v
  free : H X.env.locals = none
  freeC : ∀ x c, X.env.cells.lookup x = some c → H c = none
  pin : ∀ p ∈ X.pn ++ pins, s.heap.get? p.1 = some p.2 ∧ H p.1 = none ∧ p.1 ≠ X.env.locals ∧ p.1 ∉ X.fs ∧ ∀ v, p.2.data ≠ .cell v
  hok : HOk X.prog X.w H s.heap
  len : σ.length = X.N.length

section
variable {X : Cx} {pins : List (Addr × Obj)} {σ : List (Option V)} {H H' : Hp} {s : Shared} {h' : Heap}

theorem Cx.Ok.nofr (ok : X.Ok) {b : Addr} {o : Obj} (e : X.base.get? b = some o) : b ∉ X.fs := fun hb => by
  have := (ok.funs.mem hb).1
  rw [e] at this; cases this
theorem Inv.bs (I : Inv X pins σ H s) : ∀ b o, X.base.get? b = some o → s.heap.get? b = some o ∧ H b = none := fun b o e =>
  ⟨I.base.keep b o (I.ok.bs b o e).1 (I.ok.bs b o e).2 (I.ok.nofr e) (I.ok.noex b o e), I.base.free b o (I.ok.bs b o e).1 (I.ok.bs b o e).2 (I.ok.noex b o e)⟩
theorem Inv.bk (I : Inv X pins σ H s) : ∀ b o, X.base.get? b = some o → s.heap.get? b = some o := fun b o e => (I.bs b o e).1
theorem Inv.mod (I : Inv X pins σ H s) : Mod X.K X.mg X.base := I.ok.mod
theorem Inv.kIn (I : Inv X pins σ H s) : X.K.In s.heap := I.ok.mod.kin.keeps I.bk
theorem Inv.nolimit (I : Inv X pins σ H s) : s.heap.NoLimit := I.ok.mod.nolimit.keeps I.bk
/-- the frame over the base: for OpenK's rules (K.In X.base is I.mod.kin) -/
theorem Inv.fr (I : Inv X pins σ H s) : ∃ m, Fr X.base X.env.locals s.heap m :=
  let ⟨m, hn, _⟩ := I.loc
  ⟨m, hn, I.bk, Nat.le_trans I.ok.bsz I.ok.above⟩
theorem Inv.lt (I : Inv X pins σ H s) : X.env.locals < s.heap.objs.size := let ⟨_, hn, _⟩ := I.loc; hn.lt
theorem Inv.sz (I : Inv X pins σ H s) : X.s_0.heap.objs.size ≤ s.heap.objs.size := Nat.le_trans I.ok.above (Nat.le_of_lt I.lt)
theorem Inv.nofs (I : Inv X pins σ H s) {a : Addr} (h : s.heap.objs.size ≤ a) : a ∉ X.fs := fun hb => by
  obtain ⟨_, o, ho, _⟩ := I.ok.funs.mem hb
  exact absurd (Nat.lt_of_lt_of_le (Heap.lt_size ho) (Nat.le_trans I.sz h)) (Nat.lt_irrefl _)
theorem Inv.cne (I : Inv X pins σ H s) : ∀ x c, X.env.cells.lookup x = some c → c ≠ X.env.locals := fun x c e z => by
  obtain ⟨v, o, ho, hd⟩ := I.cell x c e
  obtain ⟨m, ⟨o', es, ep, ho', hd', _⟩, _⟩ := I.loc
  rw [z, ho'] at ho; cases ho; rw [hd'] at hd; cases hd
theorem Inv.funs (I : Inv X pins σ H s) : s.heap.FunFrames X.base X.outer := by
  have all : ∀ (l : List Env), (∀ b ∈ frs l, b ∈ X.fs) → X.s_0.heap.FunFrames X.base l → s.heap.FunFrames X.base l := by
    intro l
    induction l with
    | nil => intro _ _; trivial
    | cons env r ih =>
      intro hs hl
      obtain ⟨hk, ⟨L, o, hf, hn, ho, hd⟩, hr⟩ := hl
      have hL : L ∈ X.fs := hs L (by unfold frs; rw [List.filterMap_cons, hf]; exact List.mem_cons_self)
      obtain ⟨sl, e⟩ := I.base.slot L o ho (I.ok.frf L hL) hL fun z => I.ok.exfs L z hL
      exact ⟨hk, ⟨L, _, hf, hn, e, hd⟩, ih (fun b hb => hs b (by unfold frs; rw [List.filterMap_cons, hf]; exact List.mem_cons_of_mem _ hb)) hr⟩
  exact all X.outer (fun _ hb => hb) I.ok.funs

/-- the frames that run, for a call -/
theorem Inv.stack (I : Inv X pins σ H s) : s.heap.FunFrames X.base X.stack := by
  rcases I.ok.stk with e | ⟨e, hf⟩
  · rw [e]; exact I.funs
  · rw [e]
    obtain ⟨m, hn, _⟩ := I.loc
    refine .cons (by rw [I.ok.kind]; decide) hf hn ?_ I.funs
    exact Heap.get?_none_of_le (Nat.le_trans I.ok.bsz I.ok.above)
theorem Inv.stkSub (I : Inv X pins σ H s) : ∀ b ∈ frs X.stack, b ∈ X.env.locals :: X.fs := fun b hb => by
  rcases I.ok.stk with e | ⟨e, hf⟩
  · rw [e] at hb; exact List.mem_cons_of_mem _ hb
  · rw [e] at hb
    unfold frs at hb
    rw [List.filterMap_cons, hf] at hb
    exact hb
theorem Inv.stkFree (I : Inv X pins σ H s) : ∀ b ∈ frs X.stack, H b = none := fun b hb => by
  rcases List.mem_cons.mp (I.stkSub b hb) with e | hb
  · rw [e]; exact I.free
  · obtain ⟨_, o, ho, _⟩ := I.ok.funs.mem hb
    exact I.base.free b o ho (I.ok.frf b hb) fun z => I.ok.exfs b z hb

/-- THE STEP: the untracked objects but the frame and the records at ch are kept (the callers' frames up to slots), the frame's map is kept, the new abstract heap is held -/
theorem Inv.step {g' : Array GenState} {t' : Nat} {d' : Drawn} {ch : List Addr} (I : Inv X pins σ H s)
    (hch : ∀ b ∈ ch, (b ∈ X.ex ∨ X.s_0.heap.objs.size ≤ b) ∧ b ≠ X.env.locals ∧ (∀ x c, X.env.cells.lookup x = some c → c ≠ b) ∧ ∀ p ∈ X.pn ++ pins, p.1 ≠ b)
    (keep : ∀ b o, b ≠ X.env.locals → b ∉ X.fs → b ∉ ch → s.heap.get? b = some o → H b = none → h'.get? b = some o)
    (slot : ∀ b o, b ≠ X.env.locals → b ∈ X.fs → b ∉ ch → s.heap.get? b = some o → H b = none → ∃ sl, h'.get? b = some { o with slots := sl }) (free : ∀ b o, b ∉ ch → s.heap.get? b = some o → H b = none → H' b = none)
    (there : ∀ b o, b ∉ ch → s.heap.get? b = some o → ∃ o', h'.get? b = some o')
    (tups : ∀ b xs, H b = some (.tup xs) → H' b = some (.tup xs)) (frzs : ∀ b o u, H b = some (.frz o u) → H' b = some (.frz o u)) (tbls : ∀ b ps, H b = some (.tbl ps) → ∃ more, H' b = some (.tbl (ps ++ more)))
    (ns : ∀ m, s.heap.Ns X.env.locals m → h'.Ns X.env.locals m) (hok : HOk X.prog X.w H' h') (hg : AllBare g') :
    Inv X pins σ H' { s with heap := h', gens := g', drawn := d', toks := t' } := by
  have neL : ∀ b o, X.s_0.heap.get? b = some o → b ≠ X.env.locals := fun b o e => Nat.ne_of_lt (Nat.lt_of_lt_of_le (Heap.lt_size e) I.ok.above)
  have neC : ∀ b o, X.s_0.heap.get? b = some o → b ∉ X.ex → b ∉ ch := fun b o e hx hb => by
    rcases (hch b hb).1 with z | z
    · exact hx z
    · exact absurd (Nat.lt_of_lt_of_le (Heap.lt_size e) z) (Nat.lt_irrefl _)
  have cellK : ∀ x c, X.env.cells.lookup x = some c → ∀ v, s.heap.IsCell c v → h'.IsCell c v := fun x c e v ⟨o, ho, hd⟩ => by
    have nch : c ∉ ch := fun z => (hch c z).2.2.1 x c e rfl
    by_cases hc : c ∈ X.fs
    · obtain ⟨sl, q⟩ := slot c o (I.cne x c e) hc nch ho (I.freeC x c e)
      exact ⟨_, q, hd⟩
    · exact ⟨o, keep c o (I.cne x c e) hc nch ho (I.freeC x c e), hd⟩
  refine ⟨I.ok, I.os, hg, ⟨fun b o e n hb hx => ?_, fun b o e n hb hx => ?_, fun b o e n hx => ?_, fun b o e hx => ?_, fun b xs e => tups b xs (I.base.tups b xs e), fun b o xs e => frzs b o xs (I.base.frzs b o xs e), fun b ps e => ?_⟩, ?_, fun x c e => ?_, ?_, fun x c e => ?_, fun p hp => ?_, hok, I.len⟩
  · exact keep b o (neL b o e) hb (neC b o e hx) (I.base.keep b o e n hb hx) (I.base.free b o e n hx)
  · obtain ⟨sl, e1⟩ := I.base.slot b o e n hb hx
    obtain ⟨sl', e2⟩ := slot b _ (neL b o e) hb (neC b o e hx) e1 (I.base.free b o e n hx)
    exact ⟨sl', e2⟩
  · obtain ⟨o', e1⟩ := I.base.there b o e hx
    exact free b o' (neC b o e hx) e1 (I.base.free b o e n hx)
  · obtain ⟨o', e1⟩ := I.base.there b o e hx
    exact there b o' (neC b o e hx) e1
  · obtain ⟨m1, e1⟩ := I.base.tbls b ps e
    obtain ⟨m2, e2⟩ := tbls b _ e1
    exact ⟨m1 ++ m2, by rw [e2, Array.append_assoc]⟩
  · obtain ⟨m, hn, hl⟩ := I.loc
    refine ⟨m, ns m hn, fun i x v e1 e2 e3 => ?_⟩
    obtain ⟨u, r, l⟩ := hl i x v e1 e2 e3
    refine ⟨u, r, ?_⟩
    rcases l with l | ⟨k, c, e, z⟩
    · exact .inl l
    · exact .inr ⟨k, c, e, cellK x c e _ z⟩
  · obtain ⟨v, z⟩ := I.cell x c e
    exact ⟨v, cellK x c e v z⟩
  · obtain ⟨m, ⟨o, _, _, ho, _⟩, _⟩ := I.loc
    exact free _ o (fun z => (hch _ z).2.1 rfl) ho I.free
  · obtain ⟨v, o, ho, hd⟩ := I.cell x c e
    exact free c o (fun z => (hch c z).2.2.1 x c e rfl) ho (I.freeC x c e)
  · obtain ⟨e, n, ne, nf, d⟩ := I.pin p hp
    have nch : p.1 ∉ ch := fun z => (hch p.1 z).2.2.2 p hp rfl
    exact ⟨keep p.1 p.2 ne nf nch e n, free p.1 p.2 nch e n, ne, nf, d⟩
/-- .. where the frame's own object is kept too -/
theorem Inv.un {t' : Nat} (I : Inv X pins σ H s) (u : Un X.fs [] H H' s.heap h') (hok : HOk X.prog X.w H' h') : Inv X pins σ H' { s with heap := h', toks := t' } := by
  obtain ⟨m, ⟨o, es, ep, ho, r⟩, _⟩ := id I.loc
  obtain ⟨sl, hL⟩ := u.any ho I.free (by simp)
  exact I.step (g' := s.gens) (d' := s.drawn) (ch := []) (fun _ z => nomatch z) (fun b o _ hb _ e n => u.keep b o e n hb (by simp)) (fun b o _ hb _ e n => u.slot b o e n hb (by simp)) (fun b o _ e n => u.free b o e n (by simp)) (fun b o _ e => u.there b o e (by simp)) u.tups u.frzs u.tbls (fun m' hm => by
    obtain ⟨o', es', ep', ho', r'⟩ := hm
    rw [ho] at ho'; cases ho'
    exact ⟨_, es', ep', hL, r'⟩) hok I.bare
/-- behind a call (or a comprehension's block): the slots of this frame may have changed too, the records at ch may have turned -/
theorem Inv.call {g' : Array GenState} {t' : Nat} {d' : Drawn} {ch : List Addr} (I : Inv X pins σ H s) (u : Un (frs X.stack) ch H H' s.heap h') (hok : HOk X.prog X.w H' h') (hg : AllBare g')
    (hch : ∀ b ∈ ch, (b ∈ X.ex ∨ X.s_0.heap.objs.size ≤ b) ∧ b ≠ X.env.locals ∧ (∀ x c, X.env.cells.lookup x = some c → c ≠ b) ∧ ∀ p ∈ X.pn ++ pins, p.1 ≠ b) :
    Inv X pins σ H' { s with heap := h', gens := g', drawn := d', toks := t' } := by
  obtain ⟨m, ⟨o, es, ep, ho, r⟩, _⟩ := id I.loc
  obtain ⟨sl, hL⟩ := u.any ho I.free fun z => (hch _ z).2.1 rfl
  exact I.step (ch := ch) hch (fun b o hL hb hc e n => u.keep b o e n (fun z => (List.mem_cons.mp (I.stkSub b z)).elim hL hb) hc) (fun b o _ _ hc e n => u.any e n hc) (fun b o hc e n => u.free b o e n hc) (fun b o hc e => u.there b o e hc) u.tups u.frzs u.tbls (fun m' hm => by
    obtain ⟨o', es', ep', ho', r'⟩ := hm
    rw [ho] at ho'; cases ho'
    exact ⟨_, es', ep', hL, r'⟩) hok hg
/-- an untracked record of ours (an iterator) has turned -/
theorem Inv.turned {t' : Nat} {it : Addr} (I : Inv X pins σ H s) (k : ∀ b o, b ≠ it → s.heap.get? b = some o → h'.get? b = some o) (hn : H it = none) (hL : it ≠ X.env.locals)
    (h1 : it ∈ X.ex ∨ X.s_0.heap.objs.size ≤ it) (h2 : ∀ x c, X.env.cells.lookup x = some c → c ≠ it) (h3 : ∀ p ∈ X.pn ++ pins, p.1 ≠ it) : Inv X pins σ H { s with heap := h', toks := t' } := by
  have nit : ∀ b u, H b = some u → b ≠ it := fun b u e z => by rw [z, hn] at e; cases e
  refine I.step (g' := s.gens) (d' := s.drawn) (ch := [it]) (fun b hb => ?_) (fun b o _ _ hc e _ => k b o (fun z => hc (by simp [z])) e) (fun b o _ _ hc e _ => ⟨o.slots, k b o (fun z => hc (by simp [z])) e⟩) (fun _ _ _ _ n => n)
    (fun b o hc e => ⟨o, k b o (fun z => hc (by simp [z])) e⟩) (fun _ _ e => e) (fun _ _ _ e => e) (fun b ps e => ⟨#[], by rw [e]; simp⟩) (fun m hm => ?_) (fun b u e => ?_) I.bare
  · have e : b = it := by simpa using hb
    subst e
    exact ⟨h1, hL, h2, h3⟩
  · obtain ⟨o, es, ep, ho, r⟩ := hm
    exact ⟨o, es, ep, k _ o (Ne.symm hL) ho, r⟩
  · refine (I.hok b u e).stay (fun c v hc q => k c v ?_ q) (fun _ q => q) fun _ _ q => q
    rcases hc with z | z
    · rw [z]; exact nit b u e
    · exact nit c _ z
theorem Inv.tok (I : Inv X pins σ H s) (t : Nat) : Inv X pins σ H { s with toks := t } := I.un (h' := s.heap) (t' := t) Un.refl I.hok
/-- all objects kept -/
theorem Inv.kept {t' : Nat} (I : Inv X pins σ H s) (k : ∀ b u, s.heap.get? b = some u → h'.get? b = some u) : Inv X pins σ H { s with heap := h', toks := t' } := I.un (Un.kept k) (I.hok.kept k)
/-- a new object laid and tracked -/
theorem Inv.laid {a : Addr} {o : HO} {t' : Nat} (I : Inv X pins σ H s) (k : ∀ b u, s.heap.get? b = some u → h'.get? b = some u) (hp : s.heap.objs.size ≤ a) (new : ObjOk X.prog X.w (upd H a o) h' a o) :
    Inv X pins σ (upd H a o) { s with heap := h', toks := t' } := I.un (Un.laid k hp (I.hok.fresh hp)) (I.hok.laid k hp new)
/-- an object written -/
theorem Inv.write {x e : Addr} {o : HO} {t' : Nat} (I : Inv X pins σ H s) (mu : Mut (H x)) (he : e = x ∨ H e = some (.own x)) (k : ∀ b u, b ≠ e → s.heap.get? b = some u → h'.get? b = some u) (heo : ∃ u, h'.get? e = some u)
    (new : ObjOk X.prog X.w (upd H x o) h' x o) : Inv X pins σ (upd H x o) { s with heap := h', toks := t' } := I.un (Un.write mu he k heo) (I.hok.write mu he k heo new)
/-- forgetting slots, pins -/
theorem Inv.weak {σ' : List (Option V)} (I : Inv X pins σ H s) (hl : σ'.length = σ.length) (w : ∀ (i : Nat) v, σ'[i]? = some (some v) → σ[i]? = some (some v)) : Inv X pins σ' H s :=
  ⟨I.ok, I.os, I.bare, I.base, let ⟨m, hn, hl'⟩ := I.loc; ⟨m, hn, fun i x v e1 e2 e3 => hl' i x v e1 (w i v e2) e3⟩, I.cell, I.free, I.freeC, I.pin, I.hok, hl.trans I.len⟩
theorem Inv.pins_of {pins' : List (Addr × Obj)} (I : Inv X pins σ H s) (h : ∀ p ∈ pins', s.heap.get? p.1 = some p.2 ∧ H p.1 = none ∧ p.1 ≠ X.env.locals ∧ p.1 ∉ X.fs ∧ ∀ v, p.2.data ≠ .cell v) : Inv X pins' σ H s :=
  ⟨I.ok, I.os, I.bare, I.base, I.loc, I.cell, I.free, I.freeC, fun p hp => (List.mem_append.mp hp).elim (fun z => I.pin p (List.mem_append_left _ z)) (h p), I.hok, I.len⟩

theorem nodup_ix {N : List Str} (hN : N.Nodup) {i j : Nat} {x : Str} (a : N[i]? = some x) (b : N[j]? = some x) : i = j := by
  obtain ⟨h1, e1⟩ := List.getElem?_eq_some_iff.mp a
  obtain ⟨h2, e2⟩ := List.getElem?_eq_some_iff.mp b
  exact (List.getElem_inj hN).mp (e1.trans e2.symm)

/-- a name is stored; what changed -/
theorem store_ok2 {M : Model} {A : Around} {E : Value → Shared → Prop} {i : Nat} {x : Str} {v : V} {u : Value} {Q : Unit → Shared → Prop} (I : Inv X pins σ H s) (hN : X.N.Nodup) (hi : X.N[i]? = some x) (hx : Loc X.env.scope x) (r : RelV v u)
    (h : ∀ s', Inv X pins (σ.set i (some v)) H s' → (∃ a, Heap.SameBut a s.heap s'.heap ∧ (a = X.env.locals ∨ X.env.cells.lookup x = some a)) → Q () s') (hf : X.fn x = true ∨ X.env.scope.names.lookup x = some .local := by first | exact .inl rfl | exact .inr rfl | assumption) : wpAny M A (storeName X.env x u) Q E s := by
  obtain ⟨m, hn, hl⟩ := id I.loc
  have hcls : (X.env.scope.kind == .class || (X.env.scope.kind == .module && X.env.locals != X.env.globals)) = false := by rw [I.ok.kind]; rfl
  have hiσ : i < σ.length := by rw [I.len]; exact (List.getElem?_eq_some_iff.mp hi).1
  have cne := I.cne
  have tracked : ∀ {a : Addr} {h' : Heap}, (∃ o, s.heap.get? a = some o ∧ H a = none) → Heap.SameBut a s.heap h' → HOk X.prog X.w H h' := fun {a h'} ha hs b ob e => by
    obtain ⟨_, _, hfree⟩ := ha
    refine (I.hok b ob e).stay (fun c w' hc q => (hs.2 c ?_).trans q) (fun _ q => q) fun _ _ q => q
    rintro rfl
    rcases hc with rfl | hc
    · rw [hfree] at e; cases e
    · rw [hfree] at hc; cases hc
  rcases hx with hk | hk
  · refine wpAny_storeName_local hk hn (fun h' hn' hs => ?_) hcls
    obtain ⟨oL, _, _, hoL, _⟩ := id hn
    refine h _ ⟨I.ok, I.os, I.bare, ⟨fun b o e n hb hx => ?_, fun b o e n hb hx => ?_, I.base.free, fun b o e hx => ?_, I.base.tups, I.base.frzs, I.base.tbls⟩, ⟨_, hn', fun j y v' e1 e2 e3 => ?_⟩, fun y c e => ?_, I.free, I.freeC, fun p hp => ?_, tracked ⟨oL, hoL, I.free⟩ hs, by simpa using I.len⟩ ⟨_, hs, .inl rfl⟩
    · exact (hs.2 b (Nat.ne_of_lt (Nat.lt_of_lt_of_le (Heap.lt_size e) I.ok.above))).trans (I.base.keep b o e n hb hx)
    · obtain ⟨sl, e1⟩ := I.base.slot b o e n hb hx
      exact ⟨sl, (hs.2 b (Nat.ne_of_lt (Nat.lt_of_lt_of_le (Heap.lt_size e) I.ok.above))).trans e1⟩
    · obtain ⟨o', e1⟩ := I.base.there b o e hx
      exact ⟨o', (hs.2 b (Nat.ne_of_lt (Nat.lt_of_lt_of_le (Heap.lt_size e) I.ok.above))).trans e1⟩
    · by_cases hj : j = i
      · subst hj
        rw [hi] at e1; cases e1
        rw [List.getElem?_set_self hiσ] at e2
        cases e2
        exact ⟨u, r, .inl ⟨hk, by simp⟩⟩
      · rw [List.getElem?_set_ne (Ne.symm hj)] at e2
        obtain ⟨u', r', q⟩ := hl j y v' e1 e2 e3
        refine ⟨u', r', ?_⟩
        rcases q with ⟨k, e⟩ | ⟨k, c, e, z⟩
        · refine .inl ⟨k, ?_⟩
          have : y ≠ x := fun e => hj (nodup_ix hN e1 (e ▸ hi))
          simp [this, e]
        · exact .inr ⟨k, c, e, z.sameBut hs (cne y c e)⟩
    · obtain ⟨w', z⟩ := I.cell y c e
      exact ⟨w', z.sameBut hs (cne y c e)⟩
    · obtain ⟨e, n, ne, nf, d⟩ := I.pin p hp
      exact ⟨(hs.2 p.1 ne).trans e, n, ne, nf, d⟩
  · have hfn : X.fn x = true := by
      rcases hf with z | z
      · exact z
      · rw [z] at hk; cases hk
    obtain ⟨c, hc⟩ := I.ok.has x (.inl hk)
    obtain ⟨w', z⟩ := I.cell x c hc
    refine wpAny_storeName_cell I.ok.kind hk hc z (fun h' hc' hs => ?_)
    obtain ⟨oc, hoc, hocd⟩ := id z
    refine h { s with heap := h' } ⟨I.ok, I.os, I.bare, ⟨fun b o e n hb hx => ?_, fun b o e n hb hx => ?_, I.base.free, fun b o e hx => ?_, I.base.tups, I.base.frzs, I.base.tbls⟩, ⟨m, hn.sameBut hs (Ne.symm (cne x c hc)), fun j y v' e1 e2 e3 => ?_⟩, fun y c' e => ?_, I.free, I.freeC, fun p hp => ?_, tracked ⟨oc, hoc, I.freeC x c hc⟩ hs, by simpa using I.len⟩ ⟨c, hs, .inr hc⟩
    · exact (hs.2 b (Nat.ne_of_lt (Nat.lt_of_lt_of_le (Heap.lt_size e) (I.ok.cab x c hfn hc)))).trans (I.base.keep b o e n hb hx)
    · obtain ⟨sl, e1⟩ := I.base.slot b o e n hb hx
      exact ⟨sl, (hs.2 b (Nat.ne_of_lt (Nat.lt_of_lt_of_le (Heap.lt_size e) (I.ok.cab x c hfn hc)))).trans e1⟩
    · obtain ⟨o', e1⟩ := I.base.there b o e hx
      exact ⟨o', (hs.2 b (Nat.ne_of_lt (Nat.lt_of_lt_of_le (Heap.lt_size e) (I.ok.cab x c hfn hc)))).trans e1⟩
    · by_cases hj : j = i
      · subst hj
        rw [hi] at e1; cases e1
        rw [List.getElem?_set_self hiσ] at e2
        cases e2
        exact ⟨u, r, .inr ⟨.inl hk, c, hc, hc'⟩⟩
      · rw [List.getElem?_set_ne (Ne.symm hj)] at e2
        obtain ⟨u', r', q⟩ := hl j y v' e1 e2 e3
        refine ⟨u', r', ?_⟩
        rcases q with q | ⟨k, c', e, z'⟩
        · exact .inl q
        · refine .inr ⟨k, c', e, z'.sameBut hs ?_⟩
          rintro rfl
          exact hj (nodup_ix hN e1 (I.ok.inj _ _ _ e hc ▸ hi))
    · by_cases hcc : c' = c
      · subst hcc; exact ⟨_, hc'⟩
      · obtain ⟨w2, z2⟩ := I.cell y c' e
        exact ⟨w2, z2.sameBut hs hcc⟩
    · obtain ⟨e, n, ne, nf, d⟩ := I.pin p hp
      refine ⟨(hs.2 p.1 ?_).trans e, n, ne, nf, d⟩
      intro q
      rw [q, hoc] at e
      have q' : oc = p.2 := Option.some.inj e
      exact d w' (by rw [← q']; exact hocd)
theorem store_ok {M : Model} {A : Around} {E : Value → Shared → Prop} {i : Nat} {x : Str} {v : V} {u : Value} {Q : Unit → Shared → Prop} (I : Inv X pins σ H s) (hN : X.N.Nodup) (hi : X.N[i]? = some x) (hx : Loc X.env.scope x) (r : RelV v u)
    (h : ∀ s', Inv X pins (σ.set i (some v)) H s' → Q () s') (hf : X.fn x = true ∨ X.env.scope.names.lookup x = some .local := by first | exact .inl rfl | exact .inr rfl | assumption) : wpAny M A (storeName X.env x u) Q E s :=
  store_ok2 I hN hi hx r (fun s' I' _ => h s' I') hf
/-- behind a call or a block, the state as it is -/
theorem Inv.call' {s' : Shared} {ch : List Addr} (I : Inv X pins σ H s) (ho : s'.os = s.os) (u : Un (frs X.stack) ch H H' s.heap s'.heap) (hok : HOk X.prog X.w H' s'.heap) (hg : AllBare s'.gens)
    (hch : ∀ b ∈ ch, (b ∈ X.ex ∨ X.s_0.heap.objs.size ≤ b) ∧ b ≠ X.env.locals ∧ (∀ x c, X.env.cells.lookup x = some c → c ≠ b) ∧ ∀ p ∈ X.pn ++ pins, p.1 ≠ b) : Inv X pins σ H' s' := by
  obtain ⟨h', g', d', t', o'⟩ := s'
  have e : o' = s.os := ho
  subst e
  exact I.call (g' := g') (t' := t') (d' := d') u hok hg hch
end

/-! ### the judgements -/
/-- an exception: its class, its own dict's address (where it has one), the abstract heap behind it -/
abbrev XK := Value → Option Addr → Hp → Prop
abbrev St := List (Option V)
abbrev VK := V → Hp → Prop
/-- an expression's reading; a test's; an argument list's -/
abbrev TE := St → Hp → VK → Prop
abbrev TT := St → Hp → (Bool → Hp → Prop) → Prop
abbrev TA := St → Hp → (List V → Hp → Prop) → Prop
/-- what is wanted behind a statement -/
structure Ends where
  nx : St → Hp → Prop
  rt : VK
  bk : St → Hp → Prop := fun _ _ => False
  ct : St → Hp → Prop := fun _ _ => False
abbrev TS := Ends → St → Hp → Prop

def EP (X : Cx) (pins : List (Addr × Obj)) (σ : St) (Q : VK) (u : Value) (s' : Shared) : Prop := ∃ v H', Inv X pins σ H' s' ∧ RelV v u ∧ Q v H'
def TP (X : Cx) (pins : List (Addr × Obj)) (σ : St) (Q : Bool → Hp → Prop) (b : Bool) (s' : Shared) : Prop := ∃ H', Inv X pins σ H' s' ∧ Q b H'
def AP (X : Cx) (pins : List (Addr × Obj)) (σ : St) (Q : List V → Hp → Prop) (us : List Value) (s' : Shared) : Prop := ∃ vs H', Inv X pins σ H' s' ∧ Vals vs us ∧ Q vs H'
def SP (X : Cx) (pins : List (Addr × Obj)) (D : Ends) (f : Flow) (s' : Shared) : Prop :=
  match f with
  | .next => ∃ σ' H', Inv X pins σ' H' s' ∧ D.nx σ' H'
  | .brk => ∃ σ' H', Inv X pins σ' H' s' ∧ D.bk σ' H'
  | .cont => ∃ σ' H', Inv X pins σ' H' s' ∧ D.ct σ' H'
  | .ret u => ∃ v σ' H', Inv X pins σ' H' s' ∧ RelV v u ∧ D.rt v H'

def PE (X : Cx) (e : Expr) (t : TE) : Prop :=
  ∀ (pins : List (Addr × Obj)) (s : Shared) (σ : St) (H : Hp) (Q : VK), Inv X pins σ H s → t σ H Q → wpAny (model X.prog X.w) X.A (eval e X.env) (EP X pins σ Q) X.xe s
def PT (X : Cx) (e : Expr) (t : TT) : Prop :=
  ∀ (pins : List (Addr × Obj)) (s : Shared) (σ : St) (H : Hp) (Q : Bool → Hp → Prop), Inv X pins σ H s → t σ H Q → wpAny (model X.prog X.w) X.A (isTrue e X.env (eval e X.env)) (TP X pins σ Q) X.xe s
/-- a test whatever its 'whole' is (and, or) -/
def PW (X : Cx) (e : Expr) (t : TT) : Prop :=
  ∀ (whole : Sem Value) (pins : List (Addr × Obj)) (s : Shared) (σ : St) (H : Hp) (Q : Bool → Hp → Prop), Inv X pins σ H s → t σ H Q → wpAny (model X.prog X.w) X.A (isTrue e X.env whole) (TP X pins σ Q) X.xe s
theorem PW.pt {X : Cx} {e : Expr} {t : TT} (h : PW X e t) : PT X e t := h _
/-- an argument list (no star), from the left -/
def PA (X : Cx) (es : List Expr) (t : TA) : Prop :=
  ∀ (pos : Pos) (pins : List (Addr × Obj)) (s : Shared) (σ : St) (H : Hp) (Q : List V → Hp → Prop), Inv X pins σ H s → t σ H Q → wpAny (model X.prog X.w) X.A (spliced (backTo pos (starEach es X.env))) (AP X pins σ Q) X.xe s
def PS (X : Cx) (st : Stmt) (t : TS) : Prop :=
  ∀ (pins : List (Addr × Obj)) (s : Shared) (σ : St) (H : Hp) (D : Ends), Inv X pins σ H s → t D σ H → wpAny (model X.prog X.w) X.A (exec st X.env) (SP X pins D) X.xe s
def PSs (X : Cx) (st : List Stmt) (t : TS) : Prop :=
  ∀ (pins : List (Addr × Obj)) (s : Shared) (σ : St) (H : Hp) (D : Ends), Inv X pins σ H s → t D σ H → wpAny (model X.prog X.w) X.A (execs st X.env) (SP X pins D) X.xe s
/-- weaken the end -/
theorem thn {α : Type} {t : Sem α} {Q Q' : α → Shared → Prop} {M : Model} {A : Around} {E : Value → Shared → Prop} {s : Shared} (h : wpAny M A t Q E s) (hQ : ∀ a s, Q a s → Q' a s) : wpAny M A t Q' E s := wpAny_mono h hQ fun _ _ x => x
end L2

namespace L2
open PySem PySem.Spec PyProof.Rows
section
variable {X : Cx}

/-! ### names and constants -/
def tVar (i : Nat) : TE := fun σ H Q => ∃ v, σ[i]? = some (some v) ∧ Q v H
def tC (v : V) : TE := fun _ H Q => Q v H
theorem pe_var {i : Nat} {x : Str} {pos : Pos} (hN : X.N[i]? = some x) (hv : Vis X.env.scope x) (hd : (x == ("__debug__" : Str)) = false := by decide) (hcd : (x == ("__classdict__" : Str)) = false := by decide) : PE X (.Name x pos) (tVar i) := by
  intro pins s σ H Q I h
  obtain ⟨v, e, h⟩ := h
  obtain ⟨m, hn, hl⟩ := I.loc
  obtain ⟨u, r, l⟩ := hl i x v hN e hv
  have fin : EP X pins σ Q u s := ⟨v, H, I, r, h⟩
  rcases l with ⟨hk, hm⟩ | ⟨hk, c, hc, hcell⟩
  · exact wpAny_Name (wpAny_loadName_local I.ok.kind hk hn hm fin) hd
  · rcases hk with hk | hk
    · exact wpAny_Name (wpAny_loadName_cell I.ok.kind hk hc hcell fin) hd
    · exact wpAny_Name (wpAny_loadName_free I.ok.kind hk hc hcell fin hcd) hd
theorem pe_int {i j pos} : PE X (.Constant (.int i) j pos) (tC (.int i)) := fun _ _ _ H _ I h => wpAny_Constant_int ⟨.int i, H, I.tok _, ⟨_, rfl⟩, h⟩
theorem pe_bl {b j pos} : PE X (.Constant (.bool b) j pos) (tC (.bl b)) := fun _ _ _ H _ I h => Constant_bool ⟨.bl b, H, I, rfl, h⟩
theorem pe_non {j pos} : PE X (.Constant .none j pos) (tC .non) := fun _ _ _ H _ I h => Constant_none ⟨.non, H, I, rfl, h⟩
theorem pe_str {x j pos} : PE X (.Constant (.str x) j pos) (tC (.str x)) := fun _ _ _ H _ I h => Calls.Constant_str ⟨.str x, H, I.tok _, ⟨_, rfl⟩, h⟩

/-- a global name of the def -/
def Gl (X : Cx) (x : Str) : Prop := X.env.kindOf x = some .globalImplicit
theorem ld_glob {E : Value → Shared → Prop} {pins : List (Addr × Obj)} {s : Shared} {σ : St} {H : Hp} {x : Str} {u : Value} {pos : Pos} {Q : Value → Shared → Prop} (I : Inv X pins σ H s) (hg : Gl X x) (hm : X.mg x = some u) (h : Q u s)
    (hd : (x == ("__debug__" : Str)) = false := by decide) : wpAny (model X.prog X.w) X.A (eval (.Name x pos) X.env) Q E s :=
  Calls.Name_function_global I.ok.kind hg (Calls.loadGlobal_global (by rw [I.ok.glob]; exact I.mod.glob.keeps I.bk) hm h) hd
theorem ld_blt {E : Value → Shared → Prop} {pins : List (Addr × Obj)} {s : Shared} {σ : St} {H : Hp} {x : Str} {u : Value} {pos : Pos} {Q : Value → Shared → Prop} (I : Inv X pins σ H s) (hg : Gl X x) (hm : X.mg x = none) (hv : bootBuiltins x = some u) (h : Q u s)
    (hn : x ≠ "__name__" := by decide) (hd : (x == ("__debug__" : Str)) = false := by decide) : wpAny (model X.prog X.w) X.A (eval (.Name x pos) X.env) Q E s := by
  obtain ⟨mb, h1, h2⟩ := I.mod.blt
  exact Calls.Name_function_global I.ok.kind hg (Calls.loadGlobal_builtin (by rw [I.ok.glob]; exact I.mod.glob.keeps I.bk) hm (by rw [I.ok.blt]; exact h1.keeps I.bk) ((h2 x hn).trans hv) h) hd
/-- a module's constant, a class, a function, as a value -/
theorem pe_glob {x : Str} {v : V} {u : Value} {pos : Pos} (hg : Gl X x) (hm : X.mg x = some u) (r : RelV v u) (hd : (x == ("__debug__" : Str)) = false := by decide) : PE X (.Name x pos) (tC v) :=
  fun _ _ _ H _ I h => ld_glob I hg hm ⟨v, H, I, r, h⟩ hd
theorem pe_bltn {x : Str} {v : V} {u : Value} {pos : Pos} (hg : Gl X x) (hm : X.mg x = none) (hv : bootBuiltins x = some u) (r : RelV v u) (hn : x ≠ "__name__" := by decide) (hd : (x == ("__debug__" : Str)) = false := by decide) : PE X (.Name x pos) (tC v) :=
  fun _ _ _ H _ I h => ld_blt I hg hm hv ⟨v, H, I, r, h⟩ hn hd

/-! ### arithmetic -/
variable {a b : Expr} {ta tb : TE} {pos : Pos}
/-! ### comparisons -/
def PC (X : Cx) (op : CmpOp) (a b : Expr) (t : TE) : Prop :=
  ∀ (pins : List (Addr × Obj)) (s : Shared) (σ : St) (H : Hp) (Q : VK), Inv X pins σ H s → t σ H Q →
    wpAny (model X.prog X.w) X.A (eval a X.env) (fun v s₁ => wpAny (model X.prog X.w) X.A (eval b X.env) (fun u s₂ => wpAny (model X.prog X.w) X.A (compareOp op v u) (EP X pins σ Q) X.xe s₂) X.xe s₁) X.xe s
theorem nobehind (b : Expr) {op : CmpOp} (h : op ≠ .In) (h2 : op ≠ .NotIn) : behindInMarks op b = false := by
  have e1 : (op == CmpOp.In) = false := by cases op <;> first | rfl | exact absurd rfl h
  have e2 : (op == CmpOp.NotIn) = false := by cases op <;> first | rfl | exact absurd rfl h2
  cases b <;> simp [behindInMarks, e1, e2]
/-- a comparison as a value, as a test -/
def tB (t : TE) : TT := fun σ H Q => t σ H fun x H1 => ∃ c, x = .bl c ∧ Q c H1
theorem pt_cmp {op : CmpOp} {t : TE} (h : PC X op a b t) (h1 : behindInMarks op b = false := by first | exact nobehind _ (by decide) (by decide) | rfl) : PT X (.Compare a [op] [b] pos) (tB t) := by
  intro pins s σ H Q I hw
  refine wpAny_isTrue_Compare1 (thn (h pins s σ H _ I hw) fun v s1 h1 => thn h1 fun u s2 h2 => thn h2 fun c s3 ⟨x, H1, I1, r1, q1⟩ => ?_) h1
  obtain ⟨d, rfl, q⟩ := q1
  cases r1
  exact wpAny_truthy_bool ⟨H1, I1, q⟩
/-- an expression whose value is a bool, as a test -/
theorem pt_val {e : Expr} {t : TE} (h : PE X e t) (he : ∀ whole, isTrue e X.env whole = (do let v ← whole; standAt e.pos; holding [v] (truthy v)) := by intro _; rfl) : PT X e (tB t) := by
  intro pins s σ H Q I hw
  refine isTrue_plain (thn (h pins s σ H _ I hw) fun v s1 ⟨x, H1, I1, r1, q1⟩ => ?_) (he _)
  obtain ⟨d, rfl, q⟩ := q1
  cases r1
  exact wpAny_truthy_bool ⟨H1, I1, q⟩

/-! ### and, or, not -/
variable {tA tB' : TT} {rest : List Expr}
def tAnd (t u : TT) : TT := fun σ H Q => t σ H fun c H1 => if c = true then u σ H1 Q else Q false H1
def tOr (t u : TT) : TT := fun σ H Q => t σ H fun c H1 => if c = true then Q true H1 else u σ H1 Q
def tNot (t : TT) : TT := fun σ H Q => t σ H fun c H1 => Q (!c) H1
theorem pw_and1 (ha : PT X a tA) : PW X (.BoolOp .And [a] pos) tA := by
  intro wh pins s σ H Q I h
  refine isTrue_and (thn (ha pins s σ H Q I h) fun c s1 e => ?_)
  cases c with
  | true => exact isTrue_and_nil e
  | false => exact e
theorem pw_or1 (ha : PT X a tA) : PW X (.BoolOp .Or [a] pos) tA := by
  intro wh pins s σ H Q I h
  refine isTrue_or (thn (ha pins s σ H Q I h) fun c s1 e => ?_)
  cases c with
  | false => exact isTrue_or_nil e
  | true => exact e
theorem pw_and (ha : PT X a tA) (hb : PW X (.BoolOp .And (b :: rest) pos) tB') : PW X (.BoolOp .And (a :: b :: rest) pos) (tAnd tA tB') := by
  intro wh pins s σ H Q I h
  refine isTrue_and (thn (ha pins s σ H _ I h) fun c s1 ⟨H1, I1, q1⟩ => ?_)
  cases c with
  | true => exact hb wh pins s1 σ H1 Q I1 q1
  | false => exact ⟨H1, I1, q1⟩
theorem pw_or (ha : PT X a tA) (hb : PW X (.BoolOp .Or (b :: rest) pos) tB') : PW X (.BoolOp .Or (a :: b :: rest) pos) (tOr tA tB') := by
  intro wh pins s σ H Q I h
  refine isTrue_or (thn (ha pins s σ H _ I h) fun c s1 ⟨H1, I1, q1⟩ => ?_)
  cases c with
  | true => exact ⟨H1, I1, q1⟩
  | false => exact hb wh pins s1 σ H1 Q I1 q1
theorem pt_not (ha : PT X a tA) : PT X (.UnaryOp .Not a pos) (tNot tA) := by
  intro pins s σ H Q I h
  exact isTrue_not (ha pins s σ H (fun c H1 => Q (!c) H1) I h)
/-- .. as values (bools) -/
def tAndV (ta tb : TE) : TE := fun σ H Q => ta σ H fun x H1 => ∃ c, x = .bl c ∧ if c = true then tb σ H1 Q else Q (.bl false) H1
def tNotV (ta : TE) : TE := fun σ H Q => ta σ H fun x H1 => ∃ c, x = .bl c ∧ Q (.bl (!c)) H1
theorem pe_one {op} {t : TE} (h : PE X a t) : PE X (.BoolOp op [a] pos) t := fun pins s σ H Q I hw => BoolOp_one (h pins s σ H Q I hw)
theorem pe_and (ha : PE X a ta) (hb : PE X (.BoolOp .And (b :: rest) pos) tb) : PE X (.BoolOp .And (a :: b :: rest) pos) (tAndV ta tb) := by
  intro pins s σ H Q I h
  refine BoolOp_and (thn (ha pins s σ H _ I h) fun v s1 ⟨x, H1, I1, r1, q1⟩ => ?_)
  obtain ⟨c, rfl, q1⟩ := q1
  cases r1
  refine wpAny_truthy_bool ?_
  cases c with
  | true => exact hb pins s1 σ H1 Q I1 q1
  | false => exact ⟨.bl false, H1, I1, rfl, q1⟩
theorem pe_not (ha : PE X a ta) : PE X (.UnaryOp .Not a pos) (tNotV ta) := by
  intro pins s σ H Q I h
  refine UnaryOp_ (thn (ha pins s σ H _ I h) fun v s1 ⟨x, H1, I1, r1, q1⟩ => ?_)
  obtain ⟨c, rfl, q1⟩ := q1
  cases r1
  exact not_of (wpAny_truthy_bool ⟨.bl (!c), H1, I1, rfl, q1⟩)
/-- a if t else b -/
def tIf (t : TT) (ta tb : TE) : TE := fun σ H Q => t σ H fun c H1 => if c = true then ta σ H1 Q else tb σ H1 Q
theorem pe_ifExp {c : Expr} (hc : PT X c tA) (ha : PE X a ta) (hb : PE X b tb) : PE X (.IfExp c a b pos) (tIf tA ta tb) := by
  intro pins s σ H Q I h
  refine wpAny_IfExp (thn (hc pins s σ H _ I h) fun d s1 ⟨H1, I1, q1⟩ => ?_)
  cases d with
  | true => exact ha pins s1 σ H1 Q I1 q1
  | false => exact hb pins s1 σ H1 Q I1 q1
end
end L2

namespace L2
open PySem PySem.Spec PyProof.Rows

/-! ### a list, a tuple that is read: tracked, frozen, or an object of the module -/
def SqL (K : PySem.W.Frag) (H : Hp) (a : Addr) (xs : List V) : Prop :=
  Rd H a (.lst xs) ∨
    ∃ (o : Obj) (its : Array Value) (n : Nat), K.lookup a = some o ∧ o.cls = .type "list" ∧ o.dict = none ∧ o.data = .seq its n ∧ its.size ≤ sizeLine ∧ Vals xs its.toList
def SqT (K : PySem.W.Frag) (H : Hp) (a : Addr) (xs : List V) : Prop :=
  Rd H a (.tup xs) ∨
    ∃ (o : Obj) (its : Array Value) (n : Nat), K.lookup a = some o ∧ o.cls = .type "tuple" ∧ o.data = .seq its n ∧ its.size ≤ sizeLine ∧ Vals xs its.toList
def absV : Value → Option V
  | .none => some .non
  | .bool b => some (.bl b)
  | .int i _ => some (.int i)
  | .str x _ => some (.str x)
  | .bytes b _ => some (.byt b)
  | .float b _ => some (.flt b)
  | .ref a => some (.ref a)
  | .type n => some (.ty n)
  | _ => none
theorem RelV.abs {x : V} {u : Value} (r : RelV x u) : absV u = some x := by
  cases x with
  | non => cases r; rfl
  | bl _ => cases r; rfl
  | int _ => obtain ⟨t, rfl⟩ := r; rfl
  | str _ => obtain ⟨t, rfl⟩ := r; rfl
  | byt _ => obtain ⟨t, rfl⟩ := r; rfl
  | flt _ => obtain ⟨t, rfl⟩ := r; rfl
  | ref _ => cases r; rfl
  | ty _ => cases r; rfl
theorem RelV.inj {x y : V} {u : Value} (r : RelV x u) (q : RelV y u) : x = y := Option.some.inj (r.abs.symm.trans q.abs)
theorem Vals.inj : ∀ {xs ys : List V} {us : List Value}, Vals xs us → Vals ys us → xs = ys
  | _, _, _, .nil, .nil => rfl
  | _, _, _, .cons r t, .cons r' t' => by rw [r.inj r', Vals.inj t t']
section
variable {X : Cx} {pins : List (Addr × Obj)} {σ : St} {H : Hp} {s : Shared} {a : Addr} {xs ys : List V}
theorem SqL.of {K : PySem.W.Frag} (h : H a = some (.lst xs)) : SqL K H a xs := .inl (.inl h)
theorem SqT.of {K : PySem.W.Frag} (h : H a = some (.tup xs)) : SqT K H a xs := .inl (.inl h)
theorem Inv.list (I : Inv X pins σ H s) (h : SqL X.K H a xs) : ∃ its : List Value, Vals xs its ∧ PlainL s.heap a its.toArray ∧ xs.length ≤ sizeLine := by
  rcases h with h | ⟨o, its, n, hk, hc, hd, hs, hz, r⟩
  · obtain ⟨z, its, n, r, e⟩ := h.ok I.hok
    exact ⟨its, r, ⟨_, n, e, rfl, rfl, rfl⟩, z⟩
  · refine ⟨its.toList, r, ⟨o, n, I.kIn a o hk, hc, hd, by simpa using hs⟩, ?_⟩
    have e := r.length
    simp only [Array.length_toList] at e
    omega
theorem Inv.tuple (I : Inv X pins σ H s) (h : SqT X.K H a xs) : ∃ its : List Value, Vals xs its ∧ IsTup s.heap a its.toArray ∧ xs.length ≤ sizeLine := by
  rcases h with h | ⟨o, its, n, hk, hc, hs, hz, r⟩
  · obtain ⟨z, its, r, p⟩ := h.ok I.hok
    exact ⟨its, r, p, z⟩
  · refine ⟨its.toList, r, ⟨o, I.kIn a o hk, hc, n, by simpa using hs⟩, ?_⟩
    have e := r.length
    simp only [Array.length_toList] at e
    omega
theorem Inv.list_inj (I : Inv X pins σ H s) (h : SqL X.K H a xs) (h' : SqL X.K H a ys) : xs = ys := by
  obtain ⟨its, r, ⟨o, n, e, _, _, d⟩, _⟩ := I.list h
  obtain ⟨its', r', ⟨o', n', e', _, _, d'⟩, _⟩ := I.list h'
  rw [e] at e'; cases e'
  rw [d] at d'
  injection d' with d1 _
  have : its = its' := by simpa using congrArg Array.toList d1
  subst this
  exact r.inj r'
theorem Inv.tuple_inj (I : Inv X pins σ H s) (h : SqT X.K H a xs) (h' : SqT X.K H a ys) : xs = ys := by
  obtain ⟨its, r, ⟨o, e, _, n, d⟩, _⟩ := I.tuple h
  obtain ⟨its', r', ⟨o', e', _, n', d'⟩, _⟩ := I.tuple h'
  rw [e] at e'; cases e'
  rw [d] at d'
  injection d' with d1 _
  have : its = its' := by simpa using congrArg Array.toList d1
  subst this
  exact r.inj r'
end

/-! ### another wish about exceptions -/
abbrev Cx.wish (X : Cx) (E : Value → Shared → Prop) : Cx := { X with xe := E }
/-- no exception leaves -/
abbrev Cx.nox (X : Cx) : Cx := X.wish fun _ _ => False
theorem Cx.Ok.wish {X : Cx} (ok : X.Ok) (E : Value → Shared → Prop) : (X.wish E).Ok :=
  ⟨ok.mod, ok.kind, ok.glob, ok.blt, ok.above, ok.inj, ok.has, ok.cab, ok.hd, ok.frames, ok.stk, ok.exf, ok.bs, ok.bsz, ok.noex, ok.exfs, ok.funs, ok.frf⟩
theorem Cx.Ok.unwish {X : Cx} {E : Value → Shared → Prop} (ok : (X.wish E).Ok) : X.Ok :=
  ⟨ok.mod, ok.kind, ok.glob, ok.blt, ok.above, ok.inj, ok.has, ok.cab, ok.hd, ok.frames, ok.stk, ok.exf, ok.bs, ok.bsz, ok.noex, ok.exfs, ok.funs, ok.frf⟩
section
variable {X : Cx} {pins : List (Addr × Obj)} {σ : St} {H : Hp} {s : Shared} {E : Value → Shared → Prop}
theorem Inv.wish (I : Inv X pins σ H s) (E : Value → Shared → Prop) : Inv (X.wish E) pins σ H s := ⟨I.ok.wish E, I.os, I.bare, I.base, I.loc, I.cell, I.free, I.freeC, I.pin, I.hok, I.len⟩
theorem Inv.unwish (I : Inv (X.wish E) pins σ H s) : Inv X pins σ H s := ⟨I.ok.unwish, I.os, I.bare, I.base, I.loc, I.cell, I.free, I.freeC, I.pin, I.hok, I.len⟩
theorem SP.unwish {D : Ends} {f : Flow} {s' : Shared} (h : SP (X.wish E) pins D f s') : SP X pins D f s' := by
  cases f with
  | next => obtain ⟨σ', H', I, q⟩ := h; exact ⟨σ', H', I.unwish, q⟩
  | brk => obtain ⟨σ', H', I, q⟩ := h; exact ⟨σ', H', I.unwish, q⟩
  | cont => obtain ⟨σ', H', I, q⟩ := h; exact ⟨σ', H', I.unwish, q⟩
  | ret u => obtain ⟨v, σ', H', I, r, q⟩ := h; exact ⟨v, σ', H', I.unwish, r, q⟩
theorem PE.nox {e : Expr} {t : TE} (h : PE X.nox e t) : PE X e t := fun pins s σ H Q I hw =>
  wpAny_mono (h pins s σ H Q (I.wish _) hw) (fun _ _ ⟨v, H', I', r, q⟩ => ⟨v, H', I'.unwish, r, q⟩) fun _ _ z => False.elim z
theorem PT.nox {e : Expr} {t : TT} (h : PT X.nox e t) : PT X e t := fun pins s σ H Q I hw =>
  wpAny_mono (h pins s σ H Q (I.wish _) hw) (fun _ _ ⟨H', I', q⟩ => ⟨H', I'.unwish, q⟩) fun _ _ z => False.elim z
theorem PSs.nox {st : List Stmt} {t : TS} (h : PSs X.nox st t) : PSs X st t := fun pins s σ H D I hw =>
  wpAny_mono (h pins s σ H D (I.wish _) hw) (fun _ _ q => q.unwish) fun _ _ z => False.elim z
end

/-! ### blocks and small statements -/
section
variable {X : Cx} {st : Stmt} {rest : List Stmt} {t u : TS} {e : Expr} {te : TE} {pos : Pos}
def tNext : TS := fun D σ H => D.nx σ H
def tSeq (t u : TS) : TS := fun D σ H => t { D with nx := u D } σ H
theorem pss_nil : PSs X [] tNext := fun _ _ σ H _ I h => wpAny_execs_nil ⟨σ, H, I, h⟩
theorem pss_cons (h1 : PS X st t) (h2 : PSs X rest u) : PSs X (st :: rest) (tSeq t u) := by
  intro pins s σ H D I h
  refine wpAny_execs_cons (thn (h1 pins s σ H { D with nx := u D } I h) fun f s1 q => ?_)
  cases f with
  | next =>
    obtain ⟨σ', H', I', q⟩ := q
    exact h2 pins s1 σ' H' D I' q
  | ret v => exact q
  | brk => exact q
  | cont => exact q
theorem pss_one (h1 : PS X st t) : PSs X [st] t := by
  intro pins s σ H D I h
  refine wpAny_execs_cons (thn (h1 pins s σ H D I h) fun f s1 q => ?_)
  cases f with
  | next => exact wpAny_execs_nil q
  | ret v => exact q
  | brk => exact q
  | cont => exact q
/-- in a def's body nothing is shown -/
theorem Inv.quiet {pins : List (Addr × Obj)} {σ : St} {H : Hp} {s : Shared} (I : Inv X pins σ H s) : interactive X.env = false := by simp [interactive, I.ok.kind]
/-- an expression whose value is dropped -/
def tDrop (te : TE) : TS := fun D σ H => te σ H fun _ H1 => D.nx σ H1
theorem ps_expr (he : PE X e te) (hs : swapsWith e none pos.line X.env = pure false := by rfl) : PS X (.Expr e pos) (tDrop te) := by
  intro pins s σ H D I h
  exact wpAny_Expr_any (thn (he pins s σ H _ I h) fun v s1 ⟨x, H1, I1, r1, q1⟩ => ⟨σ, H1, I1, q1⟩) I.quiet hs
def tRet (te : TE) : TS := fun D σ H => te σ H D.rt
theorem ps_ret (he : PE X e te) : PS X (.Return (some e) pos) (tRet te) := by
  intro pins s σ H D I h
  exact wpAny_Return_some (thn (he pins s σ H _ I h) fun v s1 ⟨x, H1, I1, r1, q1⟩ => ⟨x, σ, H1, I1, r1, q1⟩)
def tRetN : TS := fun D _ H => D.rt .non H
theorem ps_retN : PS X (.Return none pos) tRetN := fun _ _ σ H _ I h => wpAny_Return_none ⟨.non, σ, H, I, rfl, h⟩
def tIfS (c : TT) (t u : TS) : TS := fun D σ H => c σ H fun b H1 => if b = true then t D σ H1 else u D σ H1
theorem ps_if {c : Expr} {a b : List Stmt} {tc : TT} (hc : PT X c tc) (ha : PSs X a t) (hb : PSs X b u) : PS X (.If c a b pos) (tIfS tc t u) := by
  intro pins s σ H D I h
  refine wpAny_If (thn (hc pins s σ H _ I h) fun d s1 ⟨H1, I1, q1⟩ => ?_)
  cases d with
  | true => exact ha pins s1 σ H1 D I1 q1
  | false => exact hb pins s1 σ H1 D I1 q1
end

/-! ### targets -/
abbrev TG := V → St → Hp → (St → Hp → Prop) → Prop
abbrev TGs := List V → St → Hp → (St → Hp → Prop) → Prop
def PG (X : Cx) (target : Expr) (t : TG) : Prop :=
  ∀ (pins : List (Addr × Obj)) (s : Shared) (σ : St) (H : Hp) (v : V) (u : Value) (Q : St → Hp → Prop), Inv X pins σ H s → RelV v u → t v σ H Q →
    wpAny (model X.prog X.w) X.A (assign target X.env u) (fun _ s' => ∃ σ' H', Inv X pins σ' H' s' ∧ Q σ' H') X.xe s
/-- several targets, one after another -/
def PGs (X : Cx) (ts : List Expr) (t : TGs) : Prop :=
  ∀ (pins : List (Addr × Obj)) (s : Shared) (σ : St) (H : Hp) (vs : List V) (us : List Value) (Q : St → Hp → Prop), Inv X pins σ H s → Vals vs us → t vs σ H Q →
    wpAny (model X.prog X.w) X.A (assignInOrder ((assignEach ts X.env).map (·.2)) us) (fun _ s' => ∃ σ' H', Inv X pins σ' H' s' ∧ Q σ' H') X.xe s
section
variable {X : Cx} {pos : Pos}
def gName (i : Nat) : TG := fun v σ H Q => Q (σ.set i (some v)) H
theorem pg_name {i : Nat} {x : Str} (hN : X.N.Nodup) (hi : X.N[i]? = some x) (hx : Loc X.env.scope x) (hf : X.fn x = true ∨ X.env.scope.names.lookup x = some .local := by first | exact .inl rfl | exact .inr rfl | assumption) : PG X (.Name x pos) (gName i) := by
  intro pins s σ H v u Q I r h
  exact wpAny_assign_Name (store_ok I hN hi hx r (fun s' I' => ⟨_, H, I', h⟩) hf)
def gNil : TGs := fun vs σ H Q => vs = [] ∧ Q σ H
def gCons (t : TG) (u : TGs) : TGs := fun vs σ H Q => ∃ v r, vs = v :: r ∧ t v σ H fun σ' H' => u r σ' H' Q
theorem pgs_nil : PGs X [] gNil := by
  intro pins s σ H vs us Q I r h
  obtain ⟨e, h⟩ := h
  subst e
  cases r
  exact assignInOrder_nil ⟨σ, H, I, h⟩
theorem pgs_cons {e : Expr} {es : List Expr} {t : TG} {u : TGs} (h1 : PG X e t) (h2 : PGs X es u)
    (hs : (assignEach (e :: es) X.env).map (·.2) = assign e X.env :: (assignEach es X.env).map (·.2) := by rfl) : PGs X (e :: es) (gCons t u) := by
  intro pins s σ H vs us Q I r h
  obtain ⟨v, vr, e1, h⟩ := h
  subst e1
  cases r with
  | cons r rr =>
    rw [hs]
    refine assignInOrder_cons (thn (h1 pins s σ H _ _ _ I r h) fun _ s1 ⟨σ1, H1, I1, q1⟩ => ?_)
    exact h2 pins s1 σ1 H1 _ _ Q I1 rr q1
/-- (a, b, ..) = a tuple of that length -/
def gTup (K : PySem.W.Frag) (n : Nat) (t : TGs) : TG := fun v σ H Q => ∃ a xs, v = .ref a ∧ SqT K H a xs ∧ xs.length = n ∧ t xs σ H Q
theorem pg_tup {es : List Expr} {k : Nat} {t : TGs} {n : Nat} (hc : X.calm = true) (h : PGs X es t)
    (hn : (assignEach es X.env).length = n := by rfl) (hst : (assignEach es X.env).findIdx? (·.1) = none := by rfl) : PG X (.Tuple es k pos) (gTup X.K n t) := by
  intro pins s σ H v u Q I r hw
  obtain ⟨a, xs, e1, hq, hl, hw⟩ := hw
  subst e1
  cases r
  obtain ⟨its, rv, ht, hz⟩ := I.tuple hq
  refine assign_Tuple_tuple (I.ok.hd hc) ht (by simp [hn, ← hl, rv.length]) hst fun h' hx => ?_
  have I1 : Inv X pins σ H { s with heap := h' } := I.kept (t' := s.toks) fun b o e => hx b o (Nat.ne_of_lt (Heap.lt_size e)) e
  exact h pins _ σ H xs _ Q I1 (by simpa using rv) hw
/-- target = value -/
def tAsg (te : TE) (g : TG) : TS := fun D σ H => te σ H fun x H1 => g x σ H1 D.nx
theorem ps_asg {tg e : Expr} {te : TE} {g : TG} (he : PE X e te) (hg : PG X tg g) (hs : swapsWithSole [tg] e pos.line X.env = pure false := by rfl) (hw : swappedStores [tg] e X.env = pure none := by rfl)
    (h1 : (assignEach [tg] X.env).map (·.2) = [assign tg X.env] := by rfl) : PS X (.Assign [tg] e pos) (tAsg te g) := by
  intro pins s σ H D I h
  refine wpAny_Assign_stores (thn (he pins s σ H _ I h) fun v s1 ⟨x, H1, I1, r1, q1⟩ => ?_) hs hw
  rw [h1]
  exact thn (hg pins s1 σ H1 x v _ I1 r1 q1) fun _ s2 q => q
/-- name = value -/
theorem ps_set {i : Nat} {x : Str} {e : Expr} {te : TE} {pos' : Pos} (hN : X.N.Nodup) (hi : X.N[i]? = some x) (hx : Loc X.env.scope x) (he : PE X e te) (hs : swapsWith e (some (.Name x pos')) pos.line X.env = pure false := by rfl) (hf : X.fn x = true ∨ X.env.scope.names.lookup x = some .local := by first | exact .inl rfl | exact .inr rfl | assumption) :
    PS X (.Assign [.Name x pos'] e pos) (tAsg te (gName i)) := by
  intro pins s σ H D I h
  refine wpAny_Assign_Name (thn (he pins s σ H _ I h) fun v s1 ⟨y, H1, I1, r1, q1⟩ => ?_) hs
  exact store_ok I1 hN hi hx r1 (fun s2 I2 => ⟨_, H1, I2, q1⟩) hf
end

/-! ### while -/
section
variable {X : Cx} {pos : Pos}
/-- the invariant W with its measure -/
def tWhile (c : TT) (tb : TS) : TS := fun D σ H => ∃ W : Nat → St → Hp → Prop, (∃ m, W m σ H) ∧ ∀ m σ H, W m σ H →
  c σ H fun b H1 => if b = true then ∃ N : St → Hp → Prop, (∀ σ' H', N σ' H' → ∃ m', m' < m ∧ W m' σ' H') ∧ tb { D with nx := N, ct := N, bk := D.nx } σ H1 else D.nx σ H1
theorem ps_while {c : Expr} {body : List Stmt} {tc : TT} {tb : TS} (hp : PassesOwn (model X.prog X.w) X.A X.env X.xe) (hc : PT X c tc) (hb : PSs X body tb) : PS X (.While c body [] pos) (tWhile tc tb) := by
  intro pins s σ H D I h
  obtain ⟨W, ⟨m0, w0⟩, turn⟩ := h
  refine wpAny_While (codeAny_whileLoop (fun n s' => ∃ σ' H', Inv X pins σ' H' s' ∧ W n σ' H') ?_ m0 ⟨σ, H, I, w0⟩)
  rintro n s1 ⟨σ1, H1, I1, w1⟩
  refine wpAny_passesOwn hp (thn (hc pins s1 σ1 H1 _ I1 (turn n σ1 H1 w1)) fun b s2 ⟨H2, I2, q2⟩ => ?_)
  cases b with
  | true =>
    obtain ⟨N, hN, q2⟩ := q2
    rw [if_pos rfl]
    refine wpAny_passesOwn hp (thn (hb pins s2 σ1 H2 _ I2 q2) fun f s3 q3 => ?_)
    cases f with
    | next =>
      obtain ⟨σ3, H3, I3, n3⟩ := q3
      obtain ⟨m', hm, w3⟩ := hN σ3 H3 n3
      exact ⟨m', hm, σ3, H3, I3, w3⟩
    | cont =>
      obtain ⟨σ3, H3, I3, n3⟩ := q3
      obtain ⟨m', hm, w3⟩ := hN σ3 H3 n3
      exact ⟨m', hm, σ3, H3, I3, w3⟩
    | brk => exact q3
    | ret v => exact q3
  | false =>
    rw [if_neg Bool.false_ne_true]
    exact wpAny_execs_nil ⟨σ1, H2, I2, q2⟩
end

/-! ### what a loop or a comprehension walks -/
/-- at turn i: it yields x (the heap may grow), or it stops -/
structure It where
  go : Nat → Hp → Prop
  yld : Nat → Hp → V → Hp → Prop
  stop : Nat → Hp → Prop
/-- the iterator's own objects may turn: they are not the frame's, not pinned, younger than the entry (or a comprehension's own) -/
def FpOk (X : Cx) (pins : List (Addr × Obj)) (H : Hp) (b : Addr) : Prop :=
  H b = none ∧ b ≠ X.env.locals ∧ b ∉ X.fs ∧ (b ∈ X.ex ∨ X.s_0.heap.objs.size ≤ b) ∧ (∀ x c, X.env.cells.lookup x = some c → c ≠ b) ∧ ∀ p ∈ X.pn ++ pins, p.1 ≠ b
theorem Inv.fpOk {X : Cx} {pins : List (Addr × Obj)} {σ : St} {H H' : Hp} {s : Shared} {b : Addr} (I : Inv X pins σ H s) (hb : s.heap.objs.size ≤ b) (hn : H' b = none) : FpOk X pins H' b := by
  refine ⟨hn, Nat.ne_of_gt (Nat.lt_of_lt_of_le I.lt hb), I.nofs hb, .inr (Nat.le_trans I.sz hb), fun x c e z => ?_, fun p hp z => ?_⟩
  · obtain ⟨v, q⟩ := I.cell x c e
    exact absurd (Nat.lt_of_lt_of_le q.lt (by rw [z]; exact hb)) (Nat.lt_irrefl _)
  · exact absurd (Nat.lt_of_lt_of_le (Heap.lt_size (I.pin p hp).1) (by rw [z]; exact hb)) (Nat.lt_irrefl _)
structure Turn (P : Program) (w : World) (K : PySem.W.Frag) (tg : Expr) (J : It) (fp : List Addr) (it : Addr) (tn : Nat → Heap → Prop) : Prop where
  mem : it ∈ fp
  obj : ∀ i h, tn i h → ∀ b ∈ fp, ∃ o, h.get? b = some o ∧ ∀ v, o.data ≠ .cell v
  keep : ∀ i h h', tn i h → (∀ b ∈ fp, ∀ o, h.get? b = some o → h'.get? b = some o) → tn i h'
  item : ∀ (X : Cx), X.prog = P → X.w = w → X.K = K → X.calm = true → ∀ (i : Nat) (pins : List (Addr × Obj)) (s : Shared) (σ : St) (H : Hp) (E : Value → Shared → Prop), Inv X pins σ H s → (∀ b ∈ fp, FpOk X pins H b) → tn i s.heap → J.go i H →
    wpAny (model P w) X.A (pyNext (.ref it)) (fun r s1 => ∃ u, r = some u ∧
      wpAny (model P w) X.A (letOwnedTupleGo tg (.ref it) u) (fun _ s2 => ∃ x H', Inv X pins σ H' s2 ∧ RelV x u ∧ J.yld i H x H' ∧ tn (i + 1) s2.heap ∧ ∀ b ∈ fp, H' b = none) E s1) E s
  done : ∀ (X : Cx), X.prog = P → X.w = w → X.K = K → X.calm = true → ∀ (i : Nat) (pins : List (Addr × Obj)) (s : Shared) (σ : St) (H : Hp) (E : Value → Shared → Prop), Inv X pins σ H s → (∀ b ∈ fp, FpOk X pins H b) → tn i s.heap → J.stop i H →
    wpAny (model P w) X.A (pyNext (.ref it)) (fun r s1 => r = none ∧ Inv X pins σ H s1) E s
  self : ∀ (A : Around) (i : Nat) (s : Shared) (Q : Value → Shared → Prop) (E : Value → Shared → Prop), tn i s.heap → Q (.ref it) s → wpAny (model P w) A (pyIter (.ref it)) Q E s
abbrev TI := St → Hp → (It → Hp → Prop) → Prop
/-- an iterator has come -/
def PIE (X : Cx) (pins : List (Addr × Obj)) (σ : St) (tg : Expr) (R : It → Hp → Prop) (itv : Value) (s2 : Shared) : Prop :=
  ∃ (it : Addr) (fp : List Addr) (tn : Nat → Heap → Prop) (J : It) (H' : Hp), itv = .ref it ∧ Inv X pins σ H' s2 ∧ Turn X.prog X.w X.K tg J fp it tn ∧ tn 0 s2.heap ∧ (∀ b ∈ fp, FpOk X pins H' b) ∧ R J H'
def PI (X : Cx) (tg iter : Expr) (wi : TI) : Prop :=
  ∀ (pins : List (Addr × Obj)) (s : Shared) (σ : St) (H : Hp) (R : It → Hp → Prop), Inv X pins σ H s → wi σ H R →
    wpAny (model X.prog X.w) X.A (eval iter X.env) (fun v s1 => wpAny (model X.prog X.w) X.A (pyIter v) (PIE X pins σ tg R) X.xe s1) X.xe s

/-- the step ahead of the store is nothing for an iterator that keeps no tuple -/
theorem go_of {M : Model} {A : Around} {E : Value → Shared → Prop} {s : Shared} {tg : Expr} {it : Addr} {u : Value} {o : Obj} {n : String} {vs : Array Value} {Q : Unit → Shared → Prop} (ho : s.heap.get? it = some o) (hc : o.cls = .type n) (hd : o.data = .fields vs)
    (hn : ["enumerate", "zip", "dict_itemiterator", "dict_reverseitemiterator", "odict_iterator", "itertools.zip_longest", "itertools.pairwise"].contains n = false) (hQ : Q () s) : wpAny M A (letOwnedTupleGo tg (.ref it) u) Q E s := by
  unfold letOwnedTupleGo
  cases tg <;> first
    | exact wpAny_pure hQ
    | (cases u <;> first
        | exact wpAny_pure hQ
        | (refine wpAny_bind (wpAny_load ho ?_)
           rw [hc, hd]
           show wpAny M A (if (["enumerate", "zip", "dict_itemiterator", "dict_reverseitemiterator", "odict_iterator", "itertools.zip_longest", "itertools.pairwise"].contains n && vs[0]? == some (rawInt _)) = true then _ else _) Q E s
           rw [if_neg (by intro h; rw [hn, Bool.false_and] at h; cases h)]
           exact wpAny_pure hQ))

/-- the list at a, as it stands at each turn (a loop may append to it) -/
def Itl (K : PySem.W.Frag) (a : Addr) : It :=
  ⟨fun i H => ∃ xs x, SqL K H a xs ∧ xs[i]? = some x, fun i H x H' => H' = H ∧ ∀ xs, SqL K H a xs → xs[i]? = some x, fun i H => ∃ xs, SqL K H a xs ∧ xs.length ≤ i⟩
def Itt (K : PySem.W.Frag) (a : Addr) : It :=
  ⟨fun i H => ∃ xs x, SqT K H a xs ∧ xs[i]? = some x, fun i H x H' => H' = H ∧ ∀ xs, SqT K H a xs → xs[i]? = some x, fun i H => ∃ xs, SqT K H a xs ∧ xs.length ≤ i⟩
/-- lo, lo + 1, .. (n of them) -/
def Itr (lo : Int) (n : Nat) : It := ⟨fun i _ => i < n, fun i H x H' => H' = H ∧ x = .int (lo + i), fun i _ => n ≤ i⟩
theorem turn_list {P : Program} {w : World} {K : PySem.W.Frag} {tg : Expr} (a it : Addr) : Turn P w K tg (Itl K a) [it] it (fun i h => h.IsListIter it a i) where
  mem := by simp
  obj := fun i h st b hb => by
    have e : b = it := by simpa using hb
    subst e
    obtain ⟨o, e, c, d⟩ := st
    exact ⟨o, e, fun v z => by rw [d] at z; cases z⟩
  keep := fun i h h' st k => st.at fun o e => k it (by simp) o e
  item := by
    intro X hP hw hK hc i pins s σ H E I hf st hg
    subst hP hw hK
    obtain ⟨xs, x, hq, hx⟩ := hg
    obtain ⟨its, rv, p, hz⟩ := I.list hq
    obtain ⟨u, hu, ru⟩ := rv.get hx
    obtain ⟨f0, f1, f2, f3, f4, f5⟩ := hf it (by simp)
    refine wpAny_pyNext_list_item st p.isList (x := u) (by simpa using hu) fun h' st' sb => ?_
    have I1 : Inv X pins σ H { s with heap := h' } := I.turned (t' := s.toks) (fun b o hb e => (sb.2 b hb).trans e) f0 f1 f3 f4 f5
    obtain ⟨o, e, c, d⟩ := id st'
    exact ⟨u, rfl, go_of (s := { s with heap := h' }) e c d (by decide) ⟨x, H, I1, ru, ⟨rfl, fun ys hy => by rw [I.list_inj hy hq]; exact hx⟩, st', fun b hb => (hf b hb).1⟩⟩
  done := by
    intro X hP hw hK hc i pins s σ H E I hf st hg
    subst hP hw hK
    obtain ⟨xs, hq, hx⟩ := hg
    obtain ⟨its, rv, p, hz⟩ := I.list hq
    obtain ⟨f0, f1, f2, f3, f4, f5⟩ := hf it (by simp)
    have hl := rv.length
    exact wpAny_pyNext_list_end (I.ok.hd hc) st p.isList (by simp; omega) fun h' eb => ⟨rfl, I.turned (t' := s.toks) (fun b o hb e => eb b o hb e) f0 f1 f3 f4 f5⟩
  self := fun _ _ _ _ _ st h => wpAny_pyIter_listiter st h
theorem turn_tuple {P : Program} {w : World} {K : PySem.W.Frag} {tg : Expr} (a it : Addr) : Turn P w K tg (Itt K a) [it] it (fun i h => h.IsTupleIter it a i) where
  mem := by simp
  obj := fun i h st b hb => by
    have e : b = it := by simpa using hb
    subst e
    obtain ⟨o, e, c, d⟩ := st
    exact ⟨o, e, fun v z => by rw [d] at z; cases z⟩
  keep := fun i h h' st k => st.at fun o e => k it (by simp) o e
  item := by
    intro X hP hw hK hc i pins s σ H E I hf st hg
    subst hP hw hK
    obtain ⟨xs, x, hq, hx⟩ := hg
    obtain ⟨its, rv, p, hz⟩ := I.tuple hq
    obtain ⟨u, hu, ru⟩ := rv.get hx
    obtain ⟨f0, f1, f2, f3, f4, f5⟩ := hf it (by simp)
    refine wpAny_pyNext_tuple_item st (show s.heap.IsTuple a its.toArray from p) (x := u) (by simpa using hu) fun h' st' sb => ?_
    have I1 : Inv X pins σ H { s with heap := h' } := I.turned (t' := s.toks) (fun b o hb e => (sb.2 b hb).trans e) f0 f1 f3 f4 f5
    obtain ⟨o, e, c, d⟩ := id st'
    exact ⟨u, rfl, go_of (s := { s with heap := h' }) e c d (by decide) ⟨x, H, I1, ru, ⟨rfl, fun ys hy => by rw [I.tuple_inj hy hq]; exact hx⟩, st', fun b hb => (hf b hb).1⟩⟩
  done := by
    intro X hP hw hK hc i pins s σ H E I hf st hg
    subst hP hw hK
    obtain ⟨xs, hq, hx⟩ := hg
    obtain ⟨its, rv, p, hz⟩ := I.tuple hq
    obtain ⟨f0, f1, f2, f3, f4, f5⟩ := hf it (by simp)
    have hl := rv.length
    exact wpAny_pyNext_tuple_end (I.ok.hd hc) st (show s.heap.IsTuple a its.toArray from p) (by simp; omega) fun h' eb => ⟨rfl, I.turned (t' := s.toks) (fun b o hb e => eb b o hb e) f0 f1 f3 f4 f5⟩
  self := fun _ _ _ _ _ st h => wpAny_pyIter_tupleiter st h
theorem turn_range {P : Program} {w : World} {K : PySem.W.Frag} {tg : Expr} (it : Addr) (lo : Int) (n : Nat) : Turn P w K tg (Itr lo n) [it] it (fun i h => IsRangeIter h it (lo + (i : Nat) * 1) ((n : Int) - (i : Nat)) 1) where
  mem := by simp
  obj := fun i h st b hb => by
    have e : b = it := by simpa using hb
    subst e
    exact ⟨_, st, fun v z => by
      have z' : Data.fields _ = Data.cell v := z
      cases z'⟩
  keep := fun i h h' st k => k it (by simp) _ st
  item := by
    intro X hP hw hK hc i pins s σ H E I hf st hg
    subst hP hw hK
    obtain ⟨f0, f1, f2, f3, f4, f5⟩ := hf it (by simp)
    have W := Walks.range (prog := X.prog) (w := X.w) (I.ok.hd hc) it lo 1 n
    refine W.item i s _ _ hg st fun v h' tk hv st' kk => ?_
    obtain ⟨t, rfl⟩ := hv
    have I1 : Inv X pins σ H { s with heap := h', toks := tk } := I.turned (fun b o hb e => kk b o (by simpa using hb) e) f0 f1 f3 f4 f5
    refine ⟨_, rfl, go_of (s := { s with heap := h', toks := tk }) (n := "range_iterator") st' rfl rfl (by decide) ⟨.int (lo + i), H, I1, ⟨t, ?_⟩, ⟨rfl, rfl⟩, st', fun b hb => (hf b hb).1⟩⟩
    rw [Int.mul_one]
  done := by
    intro X hP hw hK hc i pins s σ H E I hf st hg
    subst hP hw hK
    obtain ⟨f0, f1, f2, f3, f4, f5⟩ := hf it (by simp)
    exact wpAny_pyNext_range_end (I.ok.hd hc) st (by have : n ≤ i := hg; omega) fun h' eb => ⟨rfl, I.turned (t' := s.toks) (fun b o hb e => eb b o hb e) f0 f1 f3 f4 f5⟩
  self := fun _ _ _ _ _ st h => wpAny_pyIter_rangeiter st h
end L2

namespace L2
open PySem PySem.Spec PyProof.Rows
section
variable {X : Cx} {tg : Expr}
def iList (K : PySem.W.Frag) (tl : TE) : TI := fun σ H R => tl σ H fun x H1 => ∃ a, x = .ref a ∧ (∃ xs, SqL K H1 a xs) ∧ R (Itl K a) H1
def iTup (K : PySem.W.Frag) (tl : TE) : TI := fun σ H R => tl σ H fun x H1 => ∃ a, x = .ref a ∧ (∃ xs, SqT K H1 a xs) ∧ R (Itt K a) H1
theorem pi_list {l : Expr} {tl : TE} (hl : PE X l tl) : PI X tg l (iList X.K tl) := by
  intro pins s σ H R I h
  refine thn (hl pins s σ H _ I h) fun v s1 ⟨x, H1, I1, r1, q1⟩ => ?_
  obtain ⟨a, e, ⟨xs, hq⟩, q⟩ := q1
  subst e
  cases r1
  obtain ⟨its, rv, p, hz⟩ := I1.list hq
  refine wpAny_pyIter_list p.isList ?_
  refine ⟨s1.heap.objs.size, [s1.heap.objs.size], _, _, H1, rfl, I1.kept (t' := s1.toks) fun b o e => Heap.get?_push_of_some _ e, turn_list a _, ⟨_, Heap.get?_push_size _ rfl, rfl, rfl⟩, fun b hb => ?_, q⟩
  have e : b = s1.heap.objs.size := by simpa using hb
  subst e
  exact I1.fpOk (Nat.le_refl _) (I1.hok.fresh (Nat.le_refl _))
theorem pi_tup {l : Expr} {tl : TE} (hl : PE X l tl) : PI X tg l (iTup X.K tl) := by
  intro pins s σ H R I h
  refine thn (hl pins s σ H _ I h) fun v s1 ⟨x, H1, I1, r1, q1⟩ => ?_
  obtain ⟨a, e, ⟨xs, hq⟩, q⟩ := q1
  subst e
  cases r1
  obtain ⟨its, rv, p, hz⟩ := I1.tuple hq
  refine wpAny_pyIter_tuple (show s1.heap.IsTuple a its.toArray from p) ?_
  refine ⟨s1.heap.objs.size, [s1.heap.objs.size], _, _, H1, rfl, I1.kept (t' := s1.toks) fun b o e => Heap.get?_push_of_some _ e, turn_tuple a _, ⟨_, Heap.get?_push_size _ rfl, rfl, rfl⟩, fun b hb => ?_, q⟩
  have e : b = s1.heap.objs.size := by simpa using hb
  subst e
  exact I1.fpOk (Nat.le_refl _) (I1.hok.fresh (Nat.le_refl _))
/-- a range object just made, walked -/
theorem range_it {pins : List (Addr × Obj)} {σ : St} {H : Hp} {s : Shared} {R : It → Hp → Prop} {E : Value → Shared → Prop} {lo hi : Int} {t u v : Tok} {tk : Nat} (I : Inv X pins σ H s) (h1 : -(2 ^ 62) ≤ lo) (h2 : lo < 2 ^ 62) (h3 : -(2 ^ 62) ≤ hi) (h4 : hi < 2 ^ 62)
    (q : R (Itr lo (hi - lo).toNat) H) : wpAny (model X.prog X.w) X.A (pyIter (.ref s.heap.objs.size)) (PIE X pins σ tg R) E { s with heap := s.heap.push { cls := .type "range", data := .fields #[.int lo t, .int hi u, .int 1 v] }, toks := tk } := by
  refine wpAny_pyIter_range (IsRange.new ..) (small_one h1 h2 h3 h4) ?_
  have I1 : Inv X pins σ H { s with heap := s.heap.push { cls := .type "range", data := .fields #[.int lo t, .int hi u, .int 1 v] }, toks := tk } := I.kept fun b o e => Heap.get?_push_of_some _ e
  refine ⟨(s.heap.push { cls := .type "range", data := .fields #[.int lo t, .int hi u, .int 1 v] }).objs.size, [(s.heap.push { cls := .type "range", data := .fields #[.int lo t, .int hi u, .int 1 v] }).objs.size], _, _, H, rfl,
    I1.kept (t' := tk) fun b o e => Heap.get?_push_of_some _ e, turn_range _ lo (hi - lo).toNat, ?_, fun b hb => ?_, q⟩
  · have e1 : lo + ((0 : Nat) : Int) * 1 = lo := by simp
    have e2 : (((hi - lo).toNat : Nat) : Int) - ((0 : Nat) : Int) = Builtin.Range.rangeSize lo hi 1 := by rw [rangeSize_one]; split <;> omega
    show IsRangeIter _ _ (lo + ((0 : Nat) : Int) * 1) ((((hi - lo).toNat : Nat) : Int) - ((0 : Nat) : Int)) 1
    rw [e1, e2]
    exact Heap.get?_push_size _ rfl
  · have e : b = (s.heap.push { cls := .type "range", data := .fields #[.int lo t, .int hi u, .int 1 v] }).objs.size := by simpa using hb
    subst e
    exact I1.fpOk (Nat.le_refl _) (I1.hok.fresh (Nat.le_refl _))
def iRng1 (ta : TA) : TI := fun σ H R => ta σ H fun vs H1 => ∃ j : Int, vs = [.int j] ∧ -(2 ^ 62) ≤ j ∧ j < 2 ^ 62 ∧ R (Itr 0 j.toNat) H1
theorem pi_range1 {a : Expr} {ta : TA} {p pos : Pos} (hg : Gl X "range") (hm : X.mg "range" = none) (ha : PA X [a] ta) (hs : starEach [a] X.env = [(false, eval a X.env)] := by rfl) : PI X tg (.Call (.Name "range" p) [a] [] pos) (iRng1 ta) := by
  intro pins s σ H R I h
  refine Call_ (ld_blt I hg hm boot_range (PyProof.Rows.callWith_type1 (thn (ha pos pins s σ H _ I h) fun us s1 ⟨vs, H1, I1, r1, q1⟩ => ?_) hs rfl))
  obtain ⟨j, e, q1, q2, q⟩ := q1
  subst e
  cases r1 with
  | cons r rr =>
    cases rr
    obtain ⟨t, rfl⟩ := r
    exact call_range_1 (range_it I1 (by omega) (by omega) q1 q2 (by simpa using q))
/-! ### for -/
/-- W: the invariant by the turn and a measure; N: what the body is to reach -/
def tFor (wi : TI) (g : TG) (tb : TS) : TS := fun D σ H => wi σ H fun J H1 => ∃ W : Nat → Nat → St → Hp → Prop, (∃ m, W 0 m σ H1) ∧ ∀ i m σ H, W i m σ H →
  (J.stop i H ∧ D.nx σ H) ∨ (J.go i H ∧ ∃ N : St → Hp → Prop, (∀ σ' H', N σ' H' → ∃ m', m' < m ∧ W (i + 1) m' σ' H') ∧ ∀ x H', J.yld i H x H' → g x σ H' fun σ2 H2 => tb { D with nx := N, ct := N, bk := D.nx } σ2 H2)
/-- the records at fp as they stand -/
def pinsAt (fp : List Addr) (h : Heap) : List (Addr × Obj) := fp.filterMap fun b => (h.get? b).map fun o => (b, o)
theorem mem_pinsAt {fp : List Addr} {h : Heap} {b : Addr} {o : Obj} (hb : b ∈ fp) (e : h.get? b = some o) : (b, o) ∈ pinsAt fp h := List.mem_filterMap.mpr ⟨b, hb, by rw [e]; rfl⟩
theorem of_pinsAt {fp : List Addr} {h : Heap} {p : Addr × Obj} (hp : p ∈ pinsAt fp h) : p.1 ∈ fp ∧ h.get? p.1 = some p.2 := by
  obtain ⟨b, hb, e⟩ := List.mem_filterMap.mp hp
  cases q : h.get? b with
  | none => rw [q] at e; cases e
  | some o =>
    rw [q] at e
    have e' : (b, o) = p := Option.some.inj e
    subst e'
    exact ⟨hb, q⟩
theorem Inv.pinned {pins : List (Addr × Obj)} {σ : St} {H : Hp} {s : Shared} {fp : List Addr} (I : Inv X pins σ H s) (hf : ∀ b ∈ fp, FpOk X pins H b) (ho : ∀ b ∈ fp, ∃ o, s.heap.get? b = some o ∧ ∀ v, o.data ≠ .cell v) : Inv X (pins ++ pinsAt fp s.heap) σ H s :=
  I.pins_of fun p hp => (List.mem_append.mp hp).elim (fun z => I.pin p (List.mem_append_right _ z)) fun z => by
    obtain ⟨hb, e⟩ := of_pinsAt z
    obtain ⟨f0, f1, f2, _⟩ := hf p.1 hb
    obtain ⟨o, e', d⟩ := ho p.1 hb
    rw [e] at e'; cases e'
    exact ⟨e, f0, f1, f2, d⟩
theorem Inv.unpinned {pins pl : List (Addr × Obj)} {σ : St} {H : Hp} {s : Shared} (I : Inv X (pins ++ pl) σ H s) : Inv X pins σ H s := I.pins_of fun p hp => I.pin p (List.mem_append_right _ (List.mem_append_left _ hp))
theorem ps_for {iter : Expr} {body : List Stmt} {wi : TI} {g : TG} {tb : TS} {pos : Pos} (hp : PassesOwn (model X.prog X.w) X.A X.env X.xe) (hc : X.calm = true) (hi : PI X tg iter wi) (hg : PG X tg g) (hb : PSs X body tb)
    (hs : ∀ x, foldedSetIterable iter X.env x = pure x := by intro _; rfl) : PS X (.For tg iter body [] pos) (tFor wi g tb) := by
  intro pins s σ H D I h
  refine wpAny_For (thn (hi pins s σ H _ I h) fun v s1 h1 => thn h1 fun itv s2 h2 => ?_) hs
  obtain ⟨it, fp, tn, J, H2, e, I2, T, st2, f2, W, ⟨m0, w0⟩, turn⟩ := h2
  subst e
  -- what stays true of the iterator's objects through the loop
  have stat : ∀ {H' : Hp}, (∀ b ∈ fp, H' b = none) → ∀ b ∈ fp, FpOk X pins H' b := fun hn b hb => ⟨hn b hb, (f2 b hb).2⟩
  refine codeAny_forLoop_any (fun n s' => ∃ i σ' H', Inv X pins σ' H' s' ∧ tn i s'.heap ∧ (∀ b ∈ fp, H' b = none) ∧ W i n σ' H') ?_ m0 ⟨0, σ, H2, I2, st2, fun b hb => (f2 b hb).1, w0⟩
  rintro n s3 ⟨i, σ3, H3, I3, st3, fr3, w3⟩
  rcases turn i n σ3 H3 w3 with ⟨stop, qn⟩ | ⟨go, N, hN, step⟩
  · refine wpAny_passesOwn hp (thn (T.done X rfl rfl rfl hc i pins s3 σ3 H3 X.xe I3 (stat fr3) st3 stop) fun r s4 ⟨hr, I4⟩ => ?_)
    subst hr
    exact wpAny_execs_nil ⟨σ3, H3, I4, qn⟩
  · refine wpAny_passesOwn hp (thn (T.item X rfl rfl rfl hc i pins s3 σ3 H3 X.xe I3 (stat fr3) st3 go) fun r s4 ⟨u, hr, h4⟩ => ?_)
    subst hr
    refine wpAny_passesOwn hp (thn h4 fun _ s5 ⟨x, H5, I5, r5, y5, st5, fr5⟩ => ?_)
    have I5' := I5.pinned (stat fr5) (T.obj _ _ st5)
    refine wpAny_passesOwn hp (thn (hg _ s5 σ3 H5 x u _ I5' r5 (step x H5 y5)) fun _ s6 ⟨σ6, H6, I6, q6⟩ => ?_)
    refine wpAny_passesOwn hp (thn (hb _ s6 σ6 H6 _ I6 q6) fun f s7 q7 => ?_)
    have again : ∀ {σ7 : St} {H7 : Hp}, Inv X (pins ++ pinsAt fp s5.heap) σ7 H7 s7 → N σ7 H7 → ∃ m, m < n ∧ ∃ i σ' H', Inv X pins σ' H' s7 ∧ tn i s7.heap ∧ (∀ b ∈ fp, H' b = none) ∧ W i m σ' H' := fun {σ7 H7} I7 n7 => by
      obtain ⟨m', hm, w7⟩ := hN σ7 H7 n7
      refine ⟨m', hm, i + 1, σ7, H7, I7.unpinned, T.keep _ _ _ st5 fun b hb o e => (I7.pin (b, o) (List.mem_append_right _ (List.mem_append_right _ (mem_pinsAt hb e)))).1, fun b hb => ?_, w7⟩
      obtain ⟨o, e, d⟩ := T.obj _ _ st5 b hb
      exact (I7.pin (b, o) (List.mem_append_right _ (List.mem_append_right _ (mem_pinsAt hb e)))).2.1
    cases f with
    | next => obtain ⟨σ7, H7, I7, n7⟩ := q7; exact again I7 n7
    | cont => obtain ⟨σ7, H7, I7, n7⟩ := q7; exact again I7 n7
    | brk => obtain ⟨σ7, H7, I7, q7⟩ := q7; exact ⟨σ7, H7, I7.unpinned, q7⟩
    | ret v => obtain ⟨x7, σ7, H7, I7, r7, q7⟩ := q7; exact ⟨x7, σ7, H7, I7.unpinned, r7, q7⟩
end

/-! ### the forms one uses -/
/-- over a list that the body leaves as it is -/
theorem for_list {K : PySem.W.Frag} {a : Addr} {xs : List V} {g : TG} {tb : TS} {D : Ends} {σ : St} {H : Hp} (Pv : Nat → St → Hp → Prop) (h0 : Pv 0 σ H) (hl : ∀ i σ H, i ≤ xs.length → Pv i σ H → SqL K H a xs)
    (hs : ∀ i x σ H, xs[i]? = some x → Pv i σ H → g x σ H fun σ2 H2 => tb { D with nx := Pv (i + 1), ct := Pv (i + 1), bk := D.nx } σ2 H2) (hd : ∀ σ H, Pv xs.length σ H → D.nx σ H) :
    ∃ W : Nat → Nat → St → Hp → Prop, (∃ m, W 0 m σ H) ∧ ∀ i m σ H, W i m σ H →
      ((Itl K a).stop i H ∧ D.nx σ H) ∨ ((Itl K a).go i H ∧ ∃ N : St → Hp → Prop, (∀ σ' H', N σ' H' → ∃ m', m' < m ∧ W (i + 1) m' σ' H') ∧ ∀ x H', (Itl K a).yld i H x H' → g x σ H' fun σ2 H2 => tb { D with nx := N, ct := N, bk := D.nx } σ2 H2) := by
  refine ⟨fun i m σ H => m = xs.length - i ∧ i ≤ xs.length ∧ Pv i σ H, ⟨xs.length, by simp, Nat.zero_le _, h0⟩, ?_⟩
  rintro i m σ H ⟨rfl, hi, p⟩
  have q := hl i σ H hi p
  by_cases hlt : i < xs.length
  · refine .inr ⟨⟨xs, xs[i], q, by simp [hlt]⟩, Pv (i + 1), fun σ' H' p' => ⟨xs.length - (i + 1), by omega, rfl, hlt, p'⟩, fun x H' y => ?_⟩
    obtain ⟨e, y⟩ := y
    subst e
    exact hs i x σ _ (y xs q) p
  · have e : i = xs.length := by omega
    subst e
    exact .inl ⟨⟨xs, q, Nat.le_refl _⟩, hd σ H p⟩
/-- while, by a word and a measure of the state -/
theorem while_by {c : TT} {tb : TS} {D : Ends} {σ : St} {H : Hp} (Pv : St → Hp → Prop) (μ : St → Hp → Nat) (h0 : Pv σ H)
    (hs : ∀ σ H, Pv σ H → c σ H fun b H1 => if b = true then tb { D with nx := fun σ' H' => Pv σ' H' ∧ μ σ' H' < μ σ H, ct := fun σ' H' => Pv σ' H' ∧ μ σ' H' < μ σ H, bk := D.nx } σ H1 else D.nx σ H1)
    (mono : ∀ σ H Q Q', (∀ b H1, Q b H1 → Q' b H1) → c σ H Q → c σ H Q') : tWhile c tb D σ H := by
  refine ⟨fun m σ H => m = μ σ H ∧ Pv σ H, ⟨_, rfl, h0⟩, ?_⟩
  rintro m σ H ⟨rfl, p⟩
  refine mono σ H _ _ (fun b H1 q => ?_) (hs σ H p)
  cases b with
  | true => exact ⟨_, fun σ' H' ⟨p', l⟩ => ⟨_, l, rfl, p'⟩, q⟩
  | false => exact q
end L2

namespace L2
open PySem PySem.Spec PyProof.Rows

abbrev R2 := V → V → Hp → VK → Prop
/-- a two-place operation on values: f is binaryOp op, inplaceOp op or compareOp op -/
def OpR (X : Cx) (f : Value → Value → Sem Value) (r : R2) : Prop :=
  ∀ (pins : List (Addr × Obj)) (s : Shared) (σ : St) (H : Hp) (x y : V) (v u : Value) (Q : VK), Inv X pins σ H s → RelV x v → RelV y u → r x y H Q →
    wpAny (model X.prog X.w) X.A (f v u) (EP X pins σ Q) X.xe s
/-- a one-place operation -/
def UnR (X : Cx) (f : Value → Sem Value) (r : V → Hp → VK → Prop) : Prop :=
  ∀ (pins : List (Addr × Obj)) (s : Shared) (σ : St) (H : Hp) (x : V) (v : Value) (Q : VK), Inv X pins σ H s → RelV x v → r x H Q →
    wpAny (model X.prog X.w) X.A (f v) (EP X pins σ Q) X.xe s
/-- a call of a value that is known (a builtin, a type) with values -/
def CallR (X : Cx) (f : Value) (r : List V → Hp → VK → Prop) : Prop :=
  ∀ (pins : List (Addr × Obj)) (s : Shared) (σ : St) (H : Hp) (xs : List V) (us : List Value) (Q : VK), Inv X pins σ H s → Vals xs us → r xs H Q →
    wpAny (model X.prog X.w) X.A (call f us) (EP X pins σ Q) X.xe s
/-- a value's truth -/
def TruR (X : Cx) (r : V → Hp → (Bool → Hp → Prop) → Prop) : Prop :=
  ∀ (pins : List (Addr × Obj)) (s : Shared) (σ : St) (H : Hp) (x : V) (v : Value) (Q : Bool → Hp → Prop), Inv X pins σ H s → RelV x v → r x H Q →
    wpAny (model X.prog X.w) X.A (truthy v) (TP X pins σ Q) X.xe s

def tOp (r : R2) (ta tb : TE) : TE := fun σ H Q => ta σ H fun x H1 => tb σ H1 fun y H2 => r x y H2 Q
def tUn (r : V → Hp → VK → Prop) (ta : TE) : TE := fun σ H Q => ta σ H fun x H1 => r x H1 Q
/-- ints in, under C, and a value out -/
def rI (C : Int → Int → Prop) (g : Int → Int → V) : R2 := fun x y H Q => ∃ i j, x = .int i ∧ y = .int j ∧ C i j ∧ Q (g i j) H
def rI0 (g : Int → Int → V) : R2 := fun x y H Q => ∃ i j, x = .int i ∧ y = .int j ∧ Q (g i j) H
def rU (g : Int → V) : V → Hp → VK → Prop := fun x H Q => ∃ i, x = .int i ∧ Q (g i) H

section
variable {X : Cx} {a b c : Expr} {ta tb tc : TE} {pos : Pos}

theorem binT (ha : PE X a ta) (hb : PE X b tb) {pins : List (Addr × Obj)} {s : Shared} {σ : St} {H : Hp} {R : V → V → Hp → Prop} (I : Inv X pins σ H s)
    (h : ta σ H fun x H1 => tb σ H1 fun y H2 => R x y H2) {Q : Value → Shared → Prop} {f : Value → Value → Sem Value}
    (hf : ∀ v u s2 x y H2, Inv X pins σ H2 s2 → RelV x v → RelV y u → R x y H2 → wpAny (model X.prog X.w) X.A (f v u) Q X.xe s2) :
    wpAny (model X.prog X.w) X.A (eval a X.env) (fun v s₁ => wpAny (model X.prog X.w) X.A (eval b X.env) (fun u s₂ => wpAny (model X.prog X.w) X.A (f v u) Q X.xe s₂) X.xe s₁) X.xe s := by
  refine thn (ha pins s σ H _ I h) fun v s1 ⟨x, H1, I1, r1, q1⟩ => ?_
  refine thn (hb pins s1 σ H1 _ I1 q1) fun u s2 ⟨y, H2, I2, r2, q2⟩ => ?_
  exact hf v u s2 x y H2 I2 r1 r2 q2

theorem pe_op {op : Operator} {r : R2} (ho : OpR X (binaryOp op) r) (ha : PE X a ta) (hb : PE X b tb) : PE X (.BinOp a op b pos) (tOp r ta tb) := by
  intro pins s σ H Q I h
  exact wpAny_BinOp (binT ha hb I h fun v u s2 x y H2 I2 rx ry q => ho pins s2 σ H2 x y v u Q I2 rx ry q)
theorem pe_un {op : UnaryOp} {r : V → Hp → VK → Prop} (ho : UnR X (unaryOp op) r) (ha : PE X a ta) : PE X (.UnaryOp op a pos) (tUn r ta) := by
  intro pins s σ H Q I h
  exact UnaryOp_ (thn (ha pins s σ H _ I h) fun v s1 ⟨x, H1, I1, r1, q1⟩ => ho pins s1 σ H1 x v Q I1 r1 q1)
/-! ### ints -/
theorem opI {f : Value → Value → Sem Value} {C : Int → Int → Prop} {g : Int → Int → Int}
    (rule : ∀ (i j : Int) (t u : Tok) (s : Shared) (Q : Value → Shared → Prop) (E : Value → Shared → Prop), C i j → Q (.int (g i j) s.toks) { s with toks := s.toks + 1 } → wpAny (model X.prog X.w) X.A (f (.int i t) (.int j u)) Q E s) :
    OpR X f (rI C fun i j => .int (g i j)) := by
  intro pins s σ H x y v u Q I rx ry h
  obtain ⟨i, j, rfl, rfl, hc, q⟩ := h
  obtain ⟨t, rfl⟩ := rx
  obtain ⟨t', rfl⟩ := ry
  exact rule i j t t' s _ _ hc ⟨.int (g i j), H, I.tok _, ⟨_, rfl⟩, q⟩
theorem opI0 {f : Value → Value → Sem Value} {g : Int → Int → Int}
    (rule : ∀ (i j : Int) (t u : Tok) (s : Shared) (Q : Value → Shared → Prop) (E : Value → Shared → Prop), Q (.int (g i j) s.toks) { s with toks := s.toks + 1 } → wpAny (model X.prog X.w) X.A (f (.int i t) (.int j u)) Q E s) :
    OpR X f (rI0 fun i j => .int (g i j)) := by
  intro pins s σ H x y v u Q I rx ry h
  obtain ⟨i, j, rfl, rfl, q⟩ := h
  obtain ⟨t, rfl⟩ := rx
  obtain ⟨t', rfl⟩ := ry
  exact rule i j t t' s _ _ ⟨.int (g i j), H, I.tok _, ⟨_, rfl⟩, q⟩
theorem opB0 {f : Value → Value → Sem Value} {g : Int → Int → Bool}
    (rule : ∀ (i j : Int) (t u : Tok) (s : Shared) (Q : Value → Shared → Prop) (E : Value → Shared → Prop), Q (.bool (g i j)) s → wpAny (model X.prog X.w) X.A (f (.int i t) (.int j u)) Q E s) :
    OpR X f (rI0 fun i j => .bl (g i j)) := by
  intro pins s σ H x y v u Q I rx ry h
  obtain ⟨i, j, rfl, rfl, q⟩ := h
  obtain ⟨t, rfl⟩ := rx
  obtain ⟨t', rfl⟩ := ry
  exact rule i j t t' s _ _ ⟨.bl (g i j), H, I, rfl, q⟩

def CPow (i j : Int) : Prop := 0 ≤ j ∧ j ≤ 1000000 ∧ i.natAbs < 2 ^ 64
def CMul (i j : Int) : Prop := (-(2 ^ 64) < i ∧ i < 2 ^ 64) ∨ (-(2 ^ 64) < j ∧ j < 2 ^ 64)
theorem CMul.ok {i j : Int} (h : CMul i j) : IntMulOk i j := by
  rcases h with ⟨h1, h2⟩ | ⟨h1, h2⟩
  · exact .of_left (intBits_le_64 h1 h2)
  · exact .of_right (intBits_le_64 h1 h2)
theorem op_add : OpR X (binaryOp .Add) (rI0 fun i j => .int (i + j)) := opI0 fun _ _ _ _ _ _ _ q => add_int q
theorem op_sub : OpR X (binaryOp .Sub) (rI0 fun i j => .int (i - j)) := opI0 fun _ _ _ _ _ _ _ q => sub_int q
theorem op_mul : OpR X (binaryOp .Mult) (rI CMul fun i j => .int (i * j)) := opI fun _ _ _ _ _ _ _ hc q => mul_int q hc.ok
/-- % by a positive divisor of any size -/
theorem op_mod : OpR X (binaryOp .Mod) (rI (fun _ j => 0 < j) fun i j => .int (i % j)) := opI fun i j _ _ _ _ _ hc q => by
  have h1 : (0 : Int) < j := hc
  exact mod_int' (by omega) (by rw [Int.fmod_eq_emod_of_nonneg i (by omega)]; exact q)
theorem op_pow : OpR X (binaryOp .Pow) (rI CPow fun i j => .int (i ^ j.toNat)) := opI fun _ _ _ _ _ _ _ hc q => pow_int_small hc.1 hc.2.1 hc.2.2 q
theorem unI {f : Value → Sem Value} {g : Int → Int}
    (rule : ∀ (i : Int) (t : Tok) (s : Shared) (Q : Value → Shared → Prop) (E : Value → Shared → Prop), Q (.int (g i) s.toks) { s with toks := s.toks + 1 } → wpAny (model X.prog X.w) X.A (f (.int i t)) Q E s) :
    UnR X f (rU fun i => .int (g i)) := by
  intro pins s σ H x v Q I rx h
  obtain ⟨i, rfl, q⟩ := h
  obtain ⟨t, rfl⟩ := rx
  exact rule i t s _ _ ⟨.int (g i), H, I.tok _, ⟨_, rfl⟩, q⟩
theorem un_neg : UnR X (unaryOp .USub) (rU fun i => .int (-i)) := unI fun _ _ _ _ _ q => neg_int q
/-! ### bools among ints: n += (a < b) -/
end

/-! ### comparisons -/
/-- the scalars that == tells apart as data does -/
def scal : V → V → Bool
  | .non, .non => true | .non, .int _ => true | .int _, .non => true | .non, .bl _ => true | .bl _, .non => true | .non, .str _ => true | .str _, .non => true
  | .int _, .int _ => true | .bl _, .bl _ => true | .str _, .str _ => true | .byt _, .byt _ => true
  | .int _, .str _ => true | .str _, .int _ => true | .bl _, .str _ => true | .str _, .bl _ => true
  | _, _ => false
def rEq : R2 := fun x y H Q => scal x y = true ∧ Q (.bl (decide (x = y))) H
def rNe : R2 := fun x y H Q => scal x y = true ∧ Q (.bl (!decide (x = y))) H

theorem dec_int {i j : Int} : decide (V.int i = V.int j) = (i == j) := by
  rw [Bool.eq_iff_iff]
  simp
theorem dec_bl {i j : Bool} : decide (V.bl i = V.bl j) = (i == j) := by
  rw [Bool.eq_iff_iff]
  simp
theorem dec_str {i j : Str} : decide (V.str i = V.str j) = (i == j) := by
  rw [Bool.eq_iff_iff]
  simp
theorem dec_byt {i j : Array UInt8} : decide (V.byt i = V.byt j) = (i.toList == j.toList) := by
  rw [Bool.eq_iff_iff]
  cases i
  cases j
  simp

section
variable {X : Cx} {a b c : Expr} {ta tb tc : TE} {pos : Pos}
theorem fin_bl {pins : List (Addr × Obj)} {σ : St} {H : Hp} {s : Shared} {Q : VK} {k k' : Bool} (I : Inv X pins σ H s) (q : Q (.bl k) H) (e : k = k') : EP X pins σ Q (.bool k') s := by
  subst e
  exact ⟨.bl k, H, I, rfl, q⟩
theorem op_eq : OpR X (compareOp .Eq) rEq := by
  intro pins s σ H x y v u Q I rx ry h
  obtain ⟨hs, q⟩ := h
  cases x with
  | non =>
    cases rx
    cases y with
    | non => cases ry; exact PySem.EqNone.eq_none_none (fin_bl I q (by simp))
    | bl j => cases ry; exact PySem.EqNone.eq_none_bool (fin_bl I q (by simp))
    | int j => obtain ⟨t', rfl⟩ := ry; exact PySem.EqNone.eq_none_int (fin_bl I q (by simp))
    | str j => obtain ⟨t', rfl⟩ := ry; exact PySem.EqNone.eq_none_str (fin_bl I q (by simp))
    | _ => exact absurd (show false = true from hs) Bool.false_ne_true
  | bl i =>
    cases rx
    cases y with
    | non => cases ry; exact PySem.EqNone.eq_bool_none (fin_bl I q (by simp))
    | bl j => cases ry; exact eq_bool (fin_bl I q dec_bl)
    | str j => obtain ⟨t', rfl⟩ := ry; exact PySem.EqMixed.eq_bool_str (fin_bl I q (by simp))
    | _ => exact absurd (show false = true from hs) Bool.false_ne_true
  | int i =>
    obtain ⟨t, rfl⟩ := rx
    cases y with
    | non => cases ry; exact PySem.EqNone.eq_int_none (fin_bl I q (by simp))
    | int j => obtain ⟨t', rfl⟩ := ry; exact eq_int (fin_bl I q dec_int)
    | str j => obtain ⟨t', rfl⟩ := ry; exact PySem.EqMixed.eq_int_str (fin_bl I q (by simp))
    | _ => exact absurd (show false = true from hs) Bool.false_ne_true
  | str i =>
    obtain ⟨t, rfl⟩ := rx
    cases y with
    | non => cases ry; exact PySem.EqNone.eq_str_none (fin_bl I q (by simp))
    | bl j => cases ry; exact PySem.EqMixed.eq_str_bool (fin_bl I q (by simp))
    | int j => obtain ⟨t', rfl⟩ := ry; exact PySem.EqMixed.eq_str_int (fin_bl I q (by simp))
    | str j => obtain ⟨t', rfl⟩ := ry; exact eq_str (fin_bl I q dec_str)
    | _ => exact absurd (show false = true from hs) Bool.false_ne_true
  | byt i =>
    obtain ⟨t, rfl⟩ := rx
    cases y with
    | byt j => obtain ⟨t', rfl⟩ := ry; exact PySem.W.eq_bytes (fin_bl I q dec_byt)
    | _ => exact absurd (show false = true from hs) Bool.false_ne_true
  | _ => cases y <;> exact absurd (show false = true from hs) Bool.false_ne_true
theorem op_ne : OpR X (compareOp .NotEq) rNe := by
  intro pins s σ H x y v u Q I rx ry h
  obtain ⟨hs, q⟩ := h
  cases x with
  | non =>
    cases rx
    cases y with
    | non => cases ry; exact PySem.EqNone.ne_none_none (fin_bl I q (by simp))
    | bl j => cases ry; exact PySem.EqNone.ne_none_bool (fin_bl I q (by simp))
    | int j => obtain ⟨t', rfl⟩ := ry; exact PySem.EqNone.ne_none_int (fin_bl I q (by simp))
    | str j => obtain ⟨t', rfl⟩ := ry; exact PySem.EqNone.ne_none_str (fin_bl I q (by simp))
    | _ => exact absurd (show false = true from hs) Bool.false_ne_true
  | bl i =>
    cases rx
    cases y with
    | non => cases ry; exact PySem.EqNone.ne_bool_none (fin_bl I q (by simp))
    | bl j => cases ry; exact ne_bool (fin_bl I q (congrArg not dec_bl))
    | str j => obtain ⟨t', rfl⟩ := ry; exact PySem.EqMixed.ne_bool_str (fin_bl I q (by simp))
    | _ => exact absurd (show false = true from hs) Bool.false_ne_true
  | int i =>
    obtain ⟨t, rfl⟩ := rx
    cases y with
    | non => cases ry; exact PySem.EqNone.ne_int_none (fin_bl I q (by simp))
    | int j => obtain ⟨t', rfl⟩ := ry; exact ne_int (fin_bl I q (congrArg not dec_int))
    | str j => obtain ⟨t', rfl⟩ := ry; exact PySem.EqMixed.ne_int_str (fin_bl I q (by simp))
    | _ => exact absurd (show false = true from hs) Bool.false_ne_true
  | str i =>
    obtain ⟨t, rfl⟩ := rx
    cases y with
    | non => cases ry; exact PySem.EqNone.ne_str_none (fin_bl I q (by simp))
    | bl j => cases ry; exact PySem.EqMixed.ne_str_bool (fin_bl I q (by simp))
    | int j => obtain ⟨t', rfl⟩ := ry; exact PySem.EqMixed.ne_str_int (fin_bl I q (by simp))
    | str j => obtain ⟨t', rfl⟩ := ry; exact ne_str (fin_bl I q (congrArg not dec_str))
    | _ => exact absurd (show false = true from hs) Bool.false_ne_true
  | byt i =>
    obtain ⟨t, rfl⟩ := rx
    cases y with
    | byt j => obtain ⟨t', rfl⟩ := ry; exact PySem.W.ne_bytes (fin_bl I q (congrArg not dec_byt))
    | _ => exact absurd (show false = true from hs) Bool.false_ne_true
  | _ => cases y <;> exact absurd (show false = true from hs) Bool.false_ne_true

theorem op_le : OpR X (compareOp .LtE) (rI0 fun i j => .bl (decide (i ≤ j))) := opB0 fun _ _ _ _ _ _ _ q => le_int q
theorem op_ge : OpR X (compareOp .GtE) (rI0 fun i j => .bl (decide (j ≤ i))) := opB0 fun _ _ _ _ _ _ _ q => ge_int q
/-- is None, is not None: the right side a value none -/
theorem op_isN : OpR X (compareOp .Is) (fun x y H Q => y = .non ∧ Q (.bl (decide (x = .non))) H) := by
  intro pins s σ H x y v u Q I rx ry h
  obtain ⟨rfl, q⟩ := h
  cases ry
  refine is_none_gen (fin_bl I q ?_)
  cases x <;> first
    | (cases rx; rfl)
    | (obtain ⟨t, rfl⟩ := rx; rfl)
theorem op_notN : OpR X (compareOp .IsNot) (fun x y H Q => y = .non ∧ Q (.bl (!decide (x = .non))) H) := by
  intro pins s σ H x y v u Q I rx ry h
  obtain ⟨rfl, q⟩ := h
  cases ry
  refine isnot_none_gen (fin_bl I q ?_)
  cases x <;> first
    | (cases rx; rfl)
    | (obtain ⟨t, rfl⟩ := rx; rfl)

/-- two rules for one operation: by cases -/
theorem OpR.or {f : Value → Value → Sem Value} {r r' : R2} (h : OpR X f r) (h' : OpR X f r') : OpR X f (fun x y H Q => r x y H Q ∨ r' x y H Q) := by
  intro pins s σ H x y v u Q I rx ry q
  rcases q with q | q
  · exact h pins s σ H x y v u Q I rx ry q
  · exact h' pins s σ H x y v u Q I rx ry q

theorem nomark (b : Expr) {op : CmpOp} (h : op ≠ .In := by decide) (h2 : op ≠ .NotIn := by decide) : behindInMarks op b = false := by
  have e1 : (op == CmpOp.In) = false := by cases op <;> first | rfl | exact absurd rfl h
  have e2 : (op == CmpOp.NotIn) = false := by cases op <;> first | rfl | exact absurd rfl h2
  cases b <;> simp [behindInMarks, e1, e2]
/-- a comparison as a value; hm: nomark b, or (for in, not in) by with_unfolding_all rfl -/
theorem pe_cmpR {op : CmpOp} {r : R2} (ho : OpR X (compareOp op) r) (ha : PE X a ta) (hb : PE X b tb) (hm : behindInMarks op b = false) : PE X (.Compare a [op] [b] pos) (tOp r ta tb) := by
  intro pins s σ H Q I h
  exact wpAny_Compare1 (binT ha hb I h fun v u s2 x y H2 I2 rx ry q => ho pins s2 σ H2 x y v u Q I2 rx ry q) hm
/-- a reading of a value as a test -/
def tTest (t : TE) : TT := fun σ H Q => t σ H fun x H' => ∃ k, x = .bl k ∧ Q k H'
theorem pt_cmpR {op : CmpOp} {r : R2} (ho : OpR X (compareOp op) r) (ha : PE X a ta) (hb : PE X b tb) (hm : behindInMarks op b = false) : PT X (.Compare a [op] [b] pos) (tTest (tOp r ta tb)) := by
  intro pins s σ H Q I h
  refine wpAny_isTrue_Compare1 (thn (ha pins s σ H _ I h) fun v s1 ⟨x, H1, I1, r1, q1⟩ => thn (hb pins s1 σ H1 _ I1 q1) fun u s2 ⟨y, H2, I2, r2, q2⟩ =>
    thn (ho pins s2 σ H2 x y v u _ I2 r1 r2 q2) fun c s3 ⟨z, H3, I3, r3, k, e, q3⟩ => ?_) hm
  subst e
  cases r3
  exact wpAny_truthy_bool ⟨H3, I3, q3⟩
/-- a op1 b op2 c -/
def tChain (r r' : R2) (ta tb tc : TE) : TE := fun σ H Q => ta σ H fun x H1 => tb σ H1 fun y H2 => r x y H2 fun z H3 => ∃ k, z = .bl k ∧
  (if k = true then tc σ H3 fun w' H4 => r' y w' H4 Q else Q (.bl false) H3)
theorem pe_chain {op op' : CmpOp} {r r' : R2} (ho : OpR X (compareOp op) r) (ho' : OpR X (compareOp op') r') (ha : PE X a ta) (hb : PE X b tb) (hc : PE X c tc)
    (hm : lastMarks [op, op'] [b, c] = false := by with_unfolding_all rfl) : PE X (.Compare a [op, op'] [b, c] pos) (tChain r r' ta tb tc) := by
  intro pins s σ H Q I h
  refine Compare_chain (thn (ha pins s σ H _ I h) fun v s1 ⟨x, H1, I1, r1, q1⟩ => chain_link (thn (hb pins s1 σ H1 _ I1 q1) fun u s2 ⟨y, H2, I2, r2, q2⟩ =>
    thn (ho pins s2 σ H2 x y v u _ I2 r1 r2 q2) fun d s3 ⟨z, H3, I3, r3, k, e, q3⟩ => ?_)) hm
  subst e
  cases r3
  refine wpAny_truthy_bool ?_
  cases k with
  | false => exact ite_ff ⟨.bl false, H3, I3, rfl, q3⟩
  | true => exact ite_tt (chain_last (thn (hc pins s3 σ H3 _ I3 q3) fun w' s4 ⟨z', H4, I4, r4, q4⟩ => ho' pins s4 σ H4 y z' u w' Q I4 r2 r4 q4))
theorem pt_chain {op op' : CmpOp} {r r' : R2} (ho : OpR X (compareOp op) r) (ho' : OpR X (compareOp op') r') (ha : PE X a ta) (hb : PE X b tb) (hc : PE X c tc)
    (hm : lastMarks [op, op'] [b, c] = false := by with_unfolding_all rfl) : PT X (.Compare a [op, op'] [b, c] pos) (tTest (tChain r r' ta tb tc)) := by
  intro pins s σ H Q I h
  refine isTrue_chain (thn (ha pins s σ H _ I h) fun v s1 ⟨x, H1, I1, r1, q1⟩ => test_link (thn (hb pins s1 σ H1 _ I1 q1) fun u s2 ⟨y, H2, I2, r2, q2⟩ =>
    thn (ho pins s2 σ H2 x y v u _ I2 r1 r2 q2) fun d s3 ⟨z, H3, I3, r3, k, e, q3⟩ => ?_)) hm
  subst e
  cases r3
  refine wpAny_truthy_bool ?_
  cases k with
  | false =>
    obtain ⟨k', e', q'⟩ := q3
    cases e'
    exact ite_ff ⟨H3, I3, q'⟩
  | true =>
    refine ite_tt (test_last (thn (hc pins s3 σ H3 _ I3 q3) fun w' s4 ⟨z', H4, I4, r4, q4⟩ => thn (ho' pins s4 σ H4 y z' u w' _ I4 r2 r4 q4) fun d' s5 ⟨z2, H5, I5, r5, k2, e2, q5⟩ => ?_))
    subst e2
    cases r5
    exact wpAny_truthy_bool ⟨H5, I5, q5⟩

/-! ### truth -/
/-- a value's truth by the abstract heap -/
def TruV (K : PySem.W.Frag) (x : V) (H : Hp) (k : Bool) : Prop :=
  match x with
  | .non => k = false
  | .bl b => k = b
  | .int i => k = (i != 0)
  | .str y => y.length ≤ sizeLine ∧ k = ((y.length : Int) != 0)
  | .byt y => y.size ≤ sizeLine ∧ k = ((y.size : Int) != 0)
  | .ref p => (∃ xs, SqL K H p xs ∧ k = !xs.isEmpty) ∨ (∃ xs, SqT K H p xs ∧ k = !xs.isEmpty) ∨ ∃ kvs, H p = some (.dK kvs) ∧ k = !kvs.isEmpty
  | _ => False
theorem isEmpty_kv {κ : Type} {kvs : List (κ × V)} {vs : List (κ × Value)} (r : KV kvs vs) : (!vs.isEmpty) = !kvs.isEmpty := by
  cases r <;> rfl
theorem isEmpty_of {xs : List V} {its : List Value} (r : Vals xs its) : (!its.toArray.isEmpty) = !xs.isEmpty := by
  cases r <;> simp
theorem line63 : (sizeLine : Nat) < 2 ^ 63 := by rw [sizeLine_eq]; decide
theorem tru_ok : TruR X (fun x H Q => ∃ k, TruV X.K x H k ∧ Q k H) := by
  intro pins s σ H x v Q I rx h
  obtain ⟨k, e, q⟩ := h
  have hl := line63
  have hs : sizeLine = 16777216 := sizeLine_eq
  cases x with
  | non =>
    cases rx
    have e' : k = false := e
    subst e'
    exact truthy_none ⟨H, I, q⟩
  | bl b =>
    cases rx
    have e' : k = b := e
    subst e'
    exact wpAny_truthy_bool ⟨H, I, q⟩
  | int i =>
    obtain ⟨t, rfl⟩ := rx
    have e' : k = (i != 0) := e
    subst e'
    exact PySem.P.truthy_int ⟨H, I, q⟩
  | str y =>
    obtain ⟨t, rfl⟩ := rx
    obtain ⟨hy, e'⟩ : y.length ≤ sizeLine ∧ k = ((y.length : Int) != 0) := e
    subst e'
    exact PySem.P.truthy_str (by omega) ⟨H, I.tok _, q⟩
  | byt y =>
    obtain ⟨t, rfl⟩ := rx
    obtain ⟨hy, e'⟩ : y.size ≤ sizeLine ∧ k = ((y.size : Int) != 0) := e
    subst e'
    exact PySem.W.truthy_bytes (by omega) ⟨H, I.tok _, q⟩
  | ref p =>
    cases rx
    have e' : (∃ xs, SqL X.K H p xs ∧ k = !xs.isEmpty) ∨ (∃ xs, SqT X.K H p xs ∧ k = !xs.isEmpty) ∨ ∃ kvs, H p = some (.dK kvs) ∧ k = !kvs.isEmpty := e
    rcases e' with ⟨xs, hx, e'⟩ | ⟨xs, hx, e'⟩ | ⟨kvs, hx, e'⟩
    · subst e'
      obtain ⟨its, r, pl, hz⟩ := I.list hx
      have hlen := r.length
      exact wpAny_truthy_list pl.isList (by simp only [List.size_toArray]; omega) ⟨H, I.tok _, by rw [isEmpty_of r]; exact q⟩
    · subst e'
      obtain ⟨its, r, pl, hz⟩ := I.tuple hx
      have hlen := r.length
      exact truthy_tuple pl (by simp only [List.size_toArray]; omega) ⟨H, I.tok _, by rw [isEmpty_of r]; exact q⟩
    · subst e'
      obtain ⟨hz, hS, vs, r, m⟩ : kvs.length ≤ sizeLine ∧ (p == sysModules) = false ∧ ∃ vs, KV kvs vs ∧ s.heap.DictOf (mixKind X.prog X.w) p vs := I.hok p _ hx
      have hlen : kvs.length = vs.length := Paired.length r
      exact wpAny_truthy_dict hS m (by omega) ⟨H, I.tok _, by rw [isEmpty_kv r]; exact q⟩
  | _ => exact (show False from e).elim
/-- any expression whose test is its value's truth (a name, a call, a subscript, a field ..: he by fun _ => rfl) -/
theorem pt_truth (ha : PE X a ta) (he : ∀ whole, isTrue a X.env whole = (do let v ← whole; standAt a.pos; holding [v] (truthy v))) :
    PT X a (fun σ H Q => ta σ H fun x H' => ∃ k, TruV X.K x H' k ∧ Q k H') := by
  intro pins s σ H Q I h
  exact isTrue_plain (thn (ha pins s σ H _ I h) fun v s1 ⟨x, H1, I1, r1, q1⟩ => tru_ok pins s1 σ H1 x v Q I1 r1 q1) (he _)

/-! ### strs and bytes -/
/-! ### scalar builtins, by CallR -/
theorem vals1 {x : V} {us : List Value} (r : Vals [x] us) : ∃ u, us = [u] ∧ RelV x u := by
  cases r with
  | cons r1 r2 => cases r2; exact ⟨_, rfl, r1⟩
end
end L2

namespace L2
open PySem PySem.Spec PyProof.Rows

/-! ### an instance, its attributes a map -/
structure ObjM (h : Heap) (x dx C : Addr) (mA : Str → Option Value) : Prop where
  obj : h.get? x = some (PySem.W.instObj C dx)
  ns : h.Ns1 dx mA
  ne : dx ≠ x

theorem lookIn_ns {h : Heap} {dx : Addr} {mA : Str → Option Value} (n : h.Ns1 dx mA) : ∃ od, h.get? dx = some od ∧ ∀ name, PySem.W.lookIn name od = some (mA name) := by
  obtain ⟨o, es, ep, ho, hd, hk, _, hm⟩ := n
  refine ⟨o, ho, fun name => ?_⟩
  have e := hm name
  unfold nsFind findBy at e
  rw [← Array.find?_toList] at e
  unfold PySem.W.lookIn
  rw [hd]
  dsimp only
  split
  · rename_i y q
    rw [q] at e
    exact congrArg some e
  · rename_i q
    rw [q] at e
    have a : es.toList.any (·.refKey) = false := by
      rw [List.any_eq_false]
      intro y hy
      obtain ⟨z, t, hkey⟩ := hk y (Array.mem_toList_iff.mp hy)
      simp [DictEntry.refKey, hkey]
    have a' : ¬ es.toList.any (·.refKey) = true := by rw [a]; exact Bool.false_ne_true
    rw [if_neg a']
    exact congrArg some e

theorem ObjM.look {h : Heap} {x dx C : Addr} {mA : Str → Option Value} (I : ObjM h x dx C mA) : ∃ od, PySem.W.InstAt h x (PySem.W.instObj C dx) C (some od) ∧ ∀ name, PySem.W.lookIn name od = some (mA name) :=
  let ⟨od, ho, hl⟩ := lookIn_ns I.ns
  ⟨od, ⟨I.obj, rfl, rfl, ho⟩, hl⟩

section
variable {prog : Program} {w : World} {A : Around} {E : Value → Shared → Prop} {s : Shared} {K : PySem.W.Frag} {x dx C f : Addr} {mA : Str → Option Value} {name : Str} {v : Value}

theorem get_map {expr : Bool} {Q : Value → Shared → Prop} (X : K.In s.heap) (I : ObjM s.heap x dx C mA) (hg : PySem.W.plainGet K C name = true) (hh : PySem.W.hasDictIn K C = true)
    (ha : PySem.W.findIn K (.ref C) name = some none) (hv : mA name = some v) (hv' : PySem.W.handedIn v = true) (h : Q v { s with toks := s.toks + 1 }) :
    wpAny (model prog w) A (getAttr (.ref x) name expr) Q E s := by
  obtain ⟨od, J, hl⟩ := I.look
  exact PySem.W.get_value X J (PySem.W.plainGet_of hg).1 (PySem.W.findObj_own hh ha rfl (by rw [hl, hv])) hv' h

theorem get_meth {pl : Sem Bool} {Q : Value × List Value → Shared → Prop} (X : K.In s.heap) (I : ObjM s.heap x dx C mA) (hg : PySem.W.plainGet K C name = true)
    (hf : PySem.W.findIn K (.ref C) name = some (some (.ref f))) (ht : PySem.W.isFn K (.ref f) = true) (hv : mA name = none) (h : Q (.ref f, [.ref x]) s) :
    wpAny (model prog w) A (getMethod (.ref x) name pl) Q E s := by
  obtain ⟨od, J, hl⟩ := I.look
  exact PySem.W.method_fn X J (PySem.W.plainGet_of hg).1 (PySem.W.plainGet_of hg).2 hf (beq_iff_eq.mp ht) (by show (PySem.W.lookIn name od).map (·.isSome) = some false; rw [hl, hv]; rfl) h

theorem set_map {ns : List Str} {Q : Unit → Shared → Prop} (X : K.In s.heap) (I : ObjM s.heap x dx C mA)
    (hs : PySem.W.findIn K (.ref C) "__setattr__" = some (some (.builtin "object.__setattr__"))) (hp : PySem.W.plainOver K C = true) (ht : PySem.W.takerIn K C name = some none) (hh : PySem.W.hasDictIn K C = true)
    (hw : PySem.Within mA ns) (hsz : ns.length ≤ sizeLine)
    (h : ∀ h', ObjM h' x dx C (fun y => if y = name then some v else mA y) → Heap.SameBut dx s.heap h' → Q () { s with heap := h', toks := s.toks + 2 }) :
    wpAny (model prog w) A (setAttr (.ref x) name v) Q E s := by
  obtain ⟨od, J, hl⟩ := I.look
  refine PySem.W.set_plain X J hs (PySem.W.osa_open (s := { s with toks := s.toks + 1 }) (r := none) X J hp ht fun b => ?_)
  obtain ⟨cd, hc, hd'⟩ := PySem.W.any_some hh
  have hx : s.heap.get? x = some ⟨.ref C, some dx, .plain, #[]⟩ := I.obj
  refine wpAny_bind (wpAny_pure (wpAny_bind (wpAny_bind (wpAny_loadPart hx (wpAny_bind (PySem.W.Looks.here (s := { s with toks := s.toks + 1 }) (PySem.W.looks_clsIn X hc) ?_))))))
  rw [hd']
  refine wpAny_pure (a := some dx) (wpAny_bind (wpAny_pure (wpAny_bind ?_)))
  refine wpAny_nsSet1 (s := { s with toks := s.toks + 1 }) I.ns fun h' hn2 hs2 => ?_
  obtain ⟨oD, esD, epD, hoD, hdD, hcD⟩ := hn2.count (PySem.Within.cons name v hw)
  refine wpAny_bind (wpAny_lookBehind hoD (by rw [hdD]; exact pastItsLine_dict (Nat.le_trans hcD (by rw [List.length_cons]; omega))) ?_)
  exact wpAny_pure (h _ ⟨(hs2.2 _ (Ne.symm I.ne)).trans I.obj, hn2, I.ne⟩ hs2)

/-- C(..): the dict at the heap's end, the instance behind it; then its __init__ -/
theorem make_map {R : Result → Shared → Prop} {vs : List Value} {kw : List (Str × Value)} (X : K.In s.heap) (hm : PySem.W.makesIn K C = true)
    (hi : PySem.W.findIn K (.ref C) "__init__" = some (some (.ref f))) (hf : PySem.W.typeIn K (.ref f) = some (.type "function"))
    (h : codeAny (model prog w) (A.under (.builtin "type.__call__" ⟨.ref C :: vs, kw⟩)) (.call (.ref f) ⟨.ref (s.heap.objs.size + 1) :: vs, kw⟩) (PySem.W.InitBack (s.heap.objs.size + 1) R)
      { s with heap := (s.heap.push PySem.W.emptyDict).push (PySem.W.instObj C s.heap.objs.size) }) :
    codeAny (model prog w) A (.call (.ref C) ⟨vs, kw⟩) R s := by
  obtain ⟨hh, g, d, t, os⟩ := s
  exact PySem.W.make_core (PySem.W.makes_of X hm) (PySem.W.looks_findIn X hi) (fun self => PySem.W.bind_fn X self hf) (.inl rfl) h
end

/-! ### the attributes as a list of pairs -/
def putF (f : Str) (v : V) : List (Str × V) → List (Str × V)
  | [] => [(f, v)]
  | (g, x) :: r => if g = f then (g, v) :: r else (g, x) :: putF f v r
theorem lookup_putF (f g : Str) (v : V) : ∀ fs : List (Str × V), (putF f v fs).lookup g = if g = f then some v else fs.lookup g
  | [] => by
    show List.lookup g [(f, v)] = _
    by_cases h : g = f
    · have hb : (g == f) = true := beq_iff_eq.mpr h
      simp only [List.lookup, hb, if_pos h]
    · have hb : (g == f) = false := beq_eq_false_iff_ne.mpr h
      simp only [List.lookup, hb, if_neg h]
  | (k, x) :: r => by
    have ih := lookup_putF f g v r
    rw [show putF f v ((k, x) :: r) = (if k = f then (k, v) :: r else (k, x) :: putF f v r) from rfl]
    by_cases hk : k = f
    · rw [if_pos hk]
      by_cases h : g = k
      · have hb : (g == k) = true := beq_iff_eq.mpr h
        simp only [List.lookup, hb, if_pos (h.trans hk)]
      · have hb : (g == k) = false := beq_eq_false_iff_ne.mpr h
        simp only [List.lookup, hb, if_neg (fun e : g = f => h (e.trans hk.symm))]
    · rw [if_neg hk]
      by_cases h : g = k
      · have hb : (g == k) = true := beq_iff_eq.mpr h
        simp only [List.lookup, hb, if_neg (fun e : g = f => hk (h.symm.trans e))]
      · have hb : (g == k) = false := beq_eq_false_iff_ne.mpr h
        simp only [List.lookup, hb]
        exact ih
theorem keys_putF (f : Str) (v : V) : ∀ fs : List (Str × V), f ∈ (putF f v fs).map (·.1) ∧ ∀ g, g ∈ fs.map (·.1) → g ∈ (putF f v fs).map (·.1)
  | [] => ⟨by simp [putF], fun g h => by simp at h⟩
  | (k, x) :: r => by
    obtain ⟨i1, i2⟩ := keys_putF f v r
    rw [show putF f v ((k, x) :: r) = (if k = f then (k, v) :: r else (k, x) :: putF f v r) from rfl]
    by_cases hk : k = f
    · rw [if_pos hk]
      subst hk
      exact ⟨by simp, fun g h => by simpa using h⟩
    · rw [if_neg hk]
      refine ⟨?_, fun g h => ?_⟩
      · rw [List.map_cons]
        exact List.mem_cons_of_mem _ i1
      · rw [List.map_cons] at h ⊢
        rcases List.mem_cons.mp h with e | e
        · exact List.mem_cons.mpr (.inl e)
        · exact List.mem_cons_of_mem _ (i2 g e)
theorem length_putF (f : Str) (v : V) : ∀ fs : List (Str × V), (putF f v fs).length ≤ fs.length + 1
  | [] => by simp [putF]
  | (k, x) :: r => by
    have ih := length_putF f v r
    rw [show putF f v ((k, x) :: r) = (if k = f then (k, v) :: r else (k, x) :: putF f v r) from rfl]
    by_cases hk : k = f
    · rw [if_pos hk, List.length_cons, List.length_cons]; omega
    · rw [if_neg hk, List.length_cons, List.length_cons]; omega

theorem RelO.some_of {v : V} {o : Option Value} (r : RelO (some v) o) : ∃ u, o = some u ∧ RelV v u := by
  cases o with
  | none => exact (show False from r).elim
  | some u => exact ⟨u, rfl, r⟩
theorem RelO.none_of {o : Option Value} (r : RelO none o) : o = none := by
  cases o with
  | none => rfl
  | some u => exact (show False from r).elim
theorem handed_of {v : V} {u : Value} (r : RelV v u) : PySem.W.handedIn u = true := by
  cases v with
  | non => cases (show u = Value.none from r); rfl
  | bl b => cases (show u = Value.bool b from r); rfl
  | int i => obtain ⟨t, e⟩ := (show ∃ t, u = Value.int i t from r); cases e; rfl
  | str x => obtain ⟨t, e⟩ := (show ∃ t, u = Value.str x t from r); cases e; rfl
  | byt b => obtain ⟨t, e⟩ := (show ∃ t, u = Value.bytes b t from r); cases e; rfl
  | flt b => obtain ⟨t, e⟩ := (show ∃ t, u = Value.float b t from r); cases e; rfl
  | ref a => cases (show u = Value.ref a from r); rfl
  | ty n => cases (show u = Value.type n from r); rfl

section
variable {P : Program} {w : World} {H H' : Hp} {h h' : Heap} {a C dx : Addr} {fs fs' : List (Str × V)}
theorem ins_get (hok : HOk P w H h) (e : H a = some (.ins C dx fs)) : ∃ mA, ObjM h a dx C mA ∧ (∀ f, RelO (fs.lookup f) (mA f)) ∧ PySem.Within mA (fs.map (·.1)) ∧ fs.length ≤ 1000 ∧ H dx = some (.own a) := by
  obtain ⟨d, z, ne, ob, mA, n, r, q⟩ := (show ObjOk P w H h a (.ins C dx fs) from hok a _ e)
  exact ⟨mA, ⟨ob, n, ne⟩, r, q, z, d⟩
end

/-! ### what of the text a class must have -/
structure Cls (K : PySem.W.Frag) (C : Addr) : Prop where
  pg : PySem.W.plainGet K C Str.empty = true
  hd : PySem.W.hasDictIn K C = true
  po : PySem.W.plainOver K C = true
  sa : PySem.W.findIn K (.ref C) "__setattr__" = some (some (.builtin "object.__setattr__"))
theorem Cls.get {K : PySem.W.Frag} {C : Addr} (c : Cls K C) (f : Str) : PySem.W.plainGet K C f = true := c.pg
/-- no class of it has the name -/
def NoAttr (K : PySem.W.Frag) (C : Addr) (f : Str) : Prop := PySem.W.findIn K (.ref C) f = some none
theorem NoAttr.taker {K : PySem.W.Frag} {C : Addr} {f : Str} (n : NoAttr K C f) : PySem.W.takerIn K C f = some none := by
  unfold PySem.W.takerIn
  rw [show PySem.W.findIn K (.ref C) f = some none from n]
  rfl
/-- a constant of the class -/
structure Con (K : PySem.W.Frag) (C : Addr) (f : Str) (v : V) (u : Value) : Prop where
  at_ : PySem.W.findIn K (.ref C) f = some (some u)
  rel : RelV v u
  get : PySem.W.specialIn K u "__get__" = some none
  cp : PySem.W.copiedNames.contains f = false
/-- a method: a plain def of the class or of one above it -/
structure Meth (K : PySem.W.Frag) (C : Addr) (m : Str) (f : Addr) : Prop where
  at_ : PySem.W.findIn K (.ref C) m = some (some (.ref f))
  fn : PySem.W.isFn K (.ref f) = true
  kp : PySem.W.keepIn K (.ref f) = true

section
variable {X : Cx} {pins : List (Addr × Obj)} {σ : St} {H : Hp} {s : Shared} {a C dx : Addr} {fs : List (Str × V)} {f : Str} {v : V} {A : Around} {E : Value → Shared → Prop}

theorem getattr_ok {b : Bool} {Q : Value → Shared → Prop} (I : Inv X pins σ H s) (e : H a = some (.ins C dx fs)) (c : Cls X.K C) (n : NoAttr X.K C f) (l : fs.lookup f = some v)
    (h : ∀ u s', Inv X pins σ H s' → RelV v u → Q u s') : wpAny (model X.prog X.w) A (getAttr (.ref a) f b) Q E s := by
  obtain ⟨mA, O, r, _, _, _⟩ := ins_get I.hok e
  obtain ⟨u, hu, ru⟩ := RelO.some_of (v := v) (o := mA f) (by rw [← l]; exact r f)
  exact get_map I.kIn O (c.get f) c.hd n hu (handed_of ru) (h u _ (I.tok _) ru)

theorem getmeth_ok {m : Str} {g : Addr} {pl : Sem Bool} {Q : Value × List Value → Shared → Prop} (I : Inv X pins σ H s) (e : H a = some (.ins C dx fs)) (c : Cls X.K C) (k : Meth X.K C m g) (l : fs.lookup m = none)
    (h : Q (.ref g, [.ref a]) s) : wpAny (model X.prog X.w) A (getMethod (.ref a) m pl) Q E s := by
  obtain ⟨mA, O, r, _, _, _⟩ := ins_get I.hok e
  have hn : mA m = none := RelO.none_of (by rw [← l]; exact r m)
  exact get_meth I.kIn O (c.get m) k.at_ k.fn hn h

theorem setattr_ok {y : V} {u : Value} {Q : Unit → Shared → Prop} (I : Inv X pins σ H s) (e : H a = some (.ins C dx fs)) (c : Cls X.K C) (n : NoAttr X.K C f) (hl : fs.length < 1000) (ry : RelV y u)
    (h : ∀ s', Inv X pins σ (upd H a (.ins C dx (putF f y fs))) s' → Q () s') : wpAny (model X.prog X.w) A (setAttr (.ref a) f u) Q E s := by
  obtain ⟨mA, O, r, wi, _, ho⟩ := ins_get I.hok e
  have hz : (fs.map (·.1)).length ≤ sizeLine := by rw [List.length_map, sizeLine_eq]; omega
  refine set_map I.kIn O c.sa c.po n.taker c.hd wi hz fun h' O' sb => h _ ?_
  have hd : ∃ o, h'.get? dx = some o := let ⟨o, _, _, e', _⟩ := O'.ns; ⟨o, e'⟩
  refine I.write (x := a) (e := dx) (by rw [e]; exact True.intro) (.inr ho) (fun b q hb z => (sb.2 b hb).trans z) hd ?_
  refine ⟨by rw [upd_ne O.ne]; exact ho, ?_, O.ne, O'.obj, _, O'.ns, fun g => ?_, fun g hg => ?_⟩
  · have := length_putF f y fs; omega
  · show RelO ((putF f y fs).lookup g) (if g = f then some u else mA g)
    rw [lookup_putF]
    by_cases q : g = f
    · rw [if_pos q, if_pos q]; exact ry
    · rw [if_neg q, if_neg q]; exact r g
  · by_cases q : g = f
    · rw [q]; exact (keys_putF f y fs).1
    · refine (keys_putF f y fs).2 g (wi g fun z => hg ?_)
      show (if g = f then some u else mA g) = none
      rw [if_neg q]; exact z

/-- a new instance, tracked, without attributes -/
theorem Inv.made (I : Inv X pins σ H s) : Inv X pins σ (upd (upd H s.heap.objs.size (.own (s.heap.objs.size + 1))) (s.heap.objs.size + 1) (.ins C s.heap.objs.size []))
    { s with heap := (s.heap.push PySem.W.emptyDict).push (PySem.W.instObj C s.heap.objs.size) } := by
  have e1 : (s.heap.push PySem.W.emptyDict).get? s.heap.objs.size = some PySem.W.emptyDict := Heap.get?_push_size s.heap rfl
  have e2 : ((s.heap.push PySem.W.emptyDict).push (PySem.W.instObj C s.heap.objs.size)).get? (s.heap.objs.size + 1) = some (PySem.W.instObj C s.heap.objs.size) := by
    have := Heap.get?_push_size (s.heap.push PySem.W.emptyDict) (o := PySem.W.instObj C s.heap.objs.size) rfl
    rwa [Heap.size_push] at this
  have e3 : (s.heap.push PySem.W.emptyDict).Ns s.heap.objs.size (fun _ => none) := ⟨PySem.W.emptyDict, #[], _, e1, rfl, (fun e he => absurd he (by simp)), fun _ => rfl⟩
  have I1 := I.laid (a := s.heap.objs.size) (o := .own (s.heap.objs.size + 1)) (h' := s.heap.push PySem.W.emptyDict) (t' := s.toks) (fun b u q => Heap.get?_push_of_some _ q) (Nat.le_refl _) ⟨_, e1⟩
  refine I1.laid (a := s.heap.objs.size + 1) (o := .ins C s.heap.objs.size []) (t' := s.toks) (fun b u q => Heap.get?_push_of_some _ q) (Nat.le_of_eq (Heap.size_push _ _)) ?_
  have ne : s.heap.objs.size ≠ s.heap.objs.size + 1 := Nat.ne_of_lt (Nat.lt_succ_self _)
  refine ⟨by rw [upd_ne ne, upd_same], Nat.zero_le _, ne, e2, fun _ => none, (Heap.Ns1.of_empty e3).at fun o q => Heap.get?_push_of_some _ q, fun _ => True.intro, fun y hy => absurd rfl hy⟩

/-- e.f where nothing but the object is asked: through attributeBase (super) and the last hold -/
theorem attr_of {prog : Program} {w : World} {env : Env} {e : Expr} {f : Str} {pos : Pos} {s : Shared} {Q : Value → Shared → Prop} (hb : attributeBase e f env (eval e env) = eval e env)
    (h : wpAny (model prog w) A (eval e env) (fun o s₁ => wpAny (model prog w) A (getAttr o f true) Q E s₁) E s) : wpAny (model prog w) A (eval (.Attribute e f pos) env) Q E s :=
  Attribute_any_ h (by rw [arm_eval_Attribute, hb])
end

/-! ### readings and rules -/
/-- e.f, an attribute of the instance -/
def tFld (K : PySem.W.Frag) (ta : TE) (f : Str) : TE := fun σ H Q => ta σ H fun x H1 => ∃ a C dx fs v, x = .ref a ∧ H1 a = some (.ins C dx fs) ∧ Cls K C ∧ NoAttr K C f ∧ fs.lookup f = some v ∧ Q v H1
/-- e.f = value -/
def sFld (K : PySem.W.Frag) (ta tv : TE) (f : Str) : TS := fun D σ H => tv σ H fun y H1 => ta σ H1 fun x H2 => ∃ a C dx fs, x = .ref a ∧ H2 a = some (.ins C dx fs) ∧ Cls K C ∧ NoAttr K C f ∧ fs.length < 1000 ∧
  D.nx σ (upd H2 a (.ins C dx (putF f y fs)))
/-- an augmented operator on two values -/
def InOp (X : Cx) (op : Operator) (rd : V → V → Hp → VK → Prop) : Prop :=
  ∀ (pins : List (Addr × Obj)) (s : Shared) (σ : St) (H : Hp) (x y : V) (u v : Value) (Q : VK), Inv X pins σ H s → RelV x u → RelV y v → rd x y H Q → wpAny (model X.prog X.w) X.A (inplaceOp op u v) (EP X pins σ Q) X.xe s
/-- e.f op= value -/
def sFldAug (K : PySem.W.Frag) (ta tv : TE) (rd : V → V → Hp → VK → Prop) (f : Str) : TS := fun D σ H => ta σ H fun x H1 => ∃ a C dx fs v, x = .ref a ∧ H1 a = some (.ins C dx fs) ∧ Cls K C ∧ NoAttr K C f ∧ fs.lookup f = some v ∧
  tv σ H1 fun y H2 => rd v y H2 fun z H3 => ∃ dx' fs', H3 a = some (.ins C dx' fs') ∧ fs'.length < 1000 ∧ D.nx σ (upd H3 a (.ins C dx' (putF f z fs')))

section
variable {X : Cx} {o e value : Expr} {f : Str} {pos pos' tpos : Pos} {ta tv : TE}
theorem pe_fld (he : PE X e ta) (hb : attributeBase e f X.env (eval e X.env) = eval e X.env) : PE X (.Attribute e f pos) (tFld X.K ta f) := by
  intro pins s σ H Q I h
  refine attr_of hb (thn (he pins s σ H _ I h) fun u s1 ⟨x, H1, I1, rx, a, C, dx, fs, v, ex, ea, c, n, l, q⟩ => ?_)
  subst ex
  obtain rfl : u = Value.ref a := rx
  exact getattr_ok I1 ea c n l fun u' s2 I2 ru => ⟨v, H1, I2, ru, q⟩
theorem ps_fld (ha : PE X o ta) (hv : PE X value tv) (hs : swapsWith value (some (.Attribute o f pos')) pos.line X.env = pure false) : PS X (.Assign [.Attribute o f pos'] value pos) (sFld X.K ta tv f) := by
  intro pins s σ H D I h
  refine plainObj_wpAny_Assign_Attribute (thn (hv pins s σ H _ I h) fun u s1 ⟨y, H1, I1, ry, q⟩ => thn (ha pins s1 σ H1 _ I1 q) fun ov s2 ⟨x, H2, I2, rx, a, C, dx, fs, ex, ea, c, n, l, q2⟩ => ?_) hs
  subst ex
  obtain rfl : ov = Value.ref a := rx
  exact setattr_ok I2 ea c n l ry fun s3 I3 => ⟨σ, _, I3, q2⟩
theorem ps_fldaug {op : Operator} {rd : V → V → Hp → VK → Prop} (ha : PE X o ta) (hv : PE X value tv) (hop : InOp X op rd) : PS X (.AugAssign (.Attribute o f tpos) op value pos) (sFldAug X.K ta tv rd f) := by
  intro pins s σ H D I h
  refine wpAny_AugAssign_AttributeAny (thn (ha pins s σ H _ I h) fun ov s1 ⟨x, H1, I1, rx, a, C, dx, fs, v, ex, ea, c, n, l, q⟩ => ?_)
  subst ex
  obtain rfl : ov = Value.ref a := rx
  refine getattr_ok I1 ea c n l fun u s2 I2 ru => thn (hv pins s2 σ H1 _ I2 q) fun w3 s3 ⟨y, H2, I3, ry, q3⟩ => thn (hop pins s3 σ H2 v y u w3 _ I3 ru ry q3) fun w4 s4 ⟨z, H3, I4, rz, dx', fs', ea', l', q4⟩ => ?_
  exact setattr_ok I4 ea' c n l' rz fun s5 I5 => ⟨σ, _, I5, q4⟩
def rAdd : V → V → Hp → VK → Prop := fun x y H Q => ∃ i j, x = .int i ∧ y = .int j ∧ Q (.int (i + j)) H
theorem in_add : InOp X .Add rAdd := by
  rintro pins s σ H x y u v Q I rx ry ⟨i, j, rfl, rfl, q⟩
  obtain ⟨t, rfl⟩ := (show ∃ t, u = Value.int i t from rx)
  obtain ⟨t', rfl⟩ := (show ∃ t', v = Value.int j t' from ry)
  exact PyProof.Rows.iadd_int ⟨.int (i + j), H, I.tok _, ⟨_, rfl⟩, q⟩
end

/-! ### isinstance -/
section
variable {X : Cx} {pins : List (Addr × Obj)} {σ : St} {H : Hp} {s : Shared} {A : Around} {E : Value → Shared → Prop} {Q : Value → Shared → Prop} {c : Value} {b : Bool}
/-- the type of a value, as the fragment's deciders take it; for an instance its class -/
inductive TyOf (K : PySem.W.Frag) (H : Hp) : V → Value → Prop where
  | non : TyOf K H .non (.type "NoneType")
  | bl (x : Bool) : TyOf K H (.bl x) (.type "bool")
  | int (i : Int) : TyOf K H (.int i) (.type "int")
  | str (x : Str) : TyOf K H (.str x) (.type "str")
  | flt (x : UInt64) : TyOf K H (.flt x) (.type "float")
  | lst {a : Addr} {xs : List V} (e : H a = some (.lst xs)) : TyOf K H (.ref a) (.type "list")
  | frz {a : Addr} {o : Obj} {xs : List V} (e : H a = some (.frz o (.lst xs))) : TyOf K H (.ref a) (.type "list")
  | tup {a : Addr} {xs : List V} (e : H a = some (.tup xs)) : TyOf K H (.ref a) (.type "tuple")
  | dK {a : Addr} {kvs : List (Key × V)} (e : H a = some (.dK kvs)) : TyOf K H (.ref a) (.type "dict")
  | dT {a : Addr} {kvs : List (List Key × V)} (e : H a = some (.dT kvs)) : TyOf K H (.ref a) (.type "dict")
  | ins {a C dx : Addr} {fs : List (Str × V)} (e : H a = some (.ins C dx fs)) (cl : Cls K C) (ha : PySem.W.findIn K (.ref C) "__class__" = some (some (.builtin "object.__class__")))
      (hn : PySem.W.specialIn K (.builtin "object.__class__") "__get__" = some (some (.builtin "getset_descriptor.__get__"))) (htk : PySem.W.takesIn K (.builtin "object.__class__") = some true)
      (hm : PySem.W.mroIn K C (.type "object") = some true) : TyOf K H (.ref a) (.ref C)
/-- isinstance(x, c) for one class c, a built-in or an own one: kitOne's answer -/
theorem isinst_ok {x : V} {u t : Value} (I : Inv X pins σ H s) (rx : RelV x u) (ty : TyOf X.K H x t) (e : PySem.W.kitOne X.K t c = some b) (h : ∀ tk, Q (.bool b) { s with toks := tk }) :
    wpAny (model X.prog X.w) A (call (.builtin "isinstance") [u, c]) Q E s := by
  cases ty with
  | non => cases (show u = Value.none from rx); exact PySem.W.kia_one PySem.W.kitx_none I.kIn True.intro e (fun z => nomatch z) h
  | bl y => cases (show u = Value.bool y from rx); exact PySem.W.kia_one PySem.W.kitx_bool I.kIn True.intro e (fun z => nomatch z) h
  | int i => obtain ⟨t, q⟩ := (show ∃ t, u = Value.int i t from rx); cases q; exact PySem.W.kia_one PySem.W.kitx_int I.kIn True.intro e (fun z => nomatch z) h
  | str y => obtain ⟨t, q⟩ := (show ∃ t, u = Value.str y t from rx); cases q; exact PySem.W.kia_one PySem.W.kitx_str I.kIn True.intro e (fun z => nomatch z) h
  | flt y => obtain ⟨t, q⟩ := (show ∃ t, u = Value.float y t from rx); cases q; exact PySem.W.kia_one PySem.W.kitx_float I.kIn True.intro e (fun z => nomatch z) h
  | @lst a xs ea =>
    cases (show u = Value.ref a from rx)
    obtain ⟨_, _, n, _, h1⟩ := (show ObjOk X.prog X.w H s.heap a (.lst xs) from I.hok a _ ea)
    exact PySem.W.kia_one PySem.W.kitx_list I.kIn ⟨_, h1, rfl⟩ e (fun z => nomatch z) h
  | @frz a ob xs ea =>
    cases (show u = Value.ref a from rx)
    obtain ⟨_, _, _, n, _, h1⟩ := (show ObjOk X.prog X.w H s.heap a (.frz ob (.lst xs)) from I.hok a _ ea)
    exact PySem.W.kia_one PySem.W.kitx_list I.kIn ⟨_, h1, rfl⟩ e (fun z => nomatch z) h
  | @tup a xs ea =>
    cases (show u = Value.ref a from rx)
    obtain ⟨_, _, _, p⟩ := (show ObjOk X.prog X.w H s.heap a (.tup xs) from I.hok a _ ea)
    obtain ⟨o, h1, h2, _⟩ := p
    exact PySem.W.kia_one PySem.W.kitx_tuple I.kIn ⟨o, h1, h2⟩ e (fun z => nomatch z) h
  | @dK a kvs ea =>
    cases (show u = Value.ref a from rx)
    obtain ⟨_, _, vs, _, p⟩ := (show ObjOk X.prog X.w H s.heap a (.dK kvs) from I.hok a _ ea)
    obtain ⟨o, es, ep, h1, h2, _⟩ := p
    exact PySem.W.kia_one PySem.W.kitx_dict I.kIn ⟨o, h1, h2.1⟩ e (fun z => nomatch z) h
  | @dT a kvs ea =>
    cases (show u = Value.ref a from rx)
    obtain ⟨_, _, xs, _, o, es, ep, h1, h2, _⟩ := (show ObjOk X.prog X.w H s.heap a (.dT kvs) from I.hok a _ ea)
    exact PySem.W.kia_one PySem.W.kitx_dict I.kIn ⟨o, h1, h2.1⟩ e (fun z => nomatch z) h
  | @ins a C dx fs ea cl ha hn htk hm =>
    cases (show u = Value.ref a from rx)
    obtain ⟨mA, O, _⟩ := ins_get I.hok ea
    obtain ⟨od, J, _⟩ := O.look
    exact PySem.W.kia_one (PySem.W.kitx_own (cl.get _) cl.hd ha hn htk hm) I.kIn J e (fun z => nomatch z) h
end
end L2

namespace L2
open PySem PySem.Spec PyProof.Rows

/-! ### room -/
structure Room (k : Nat) (A : Around) : Prop where
  hd : A.handled = none
  dp : A.depth + 3 * k + 5 < recursionLimit
  un : A.units + 16 * k + 200 < cLine
theorem Room.mono {j k : Nat} {A : Around} (r : Room k A) (h : j ≤ k) : Room j A := ⟨r.hd, by have := r.dp; omega, by have := r.un; omega⟩
theorem Room.deeper {k : Nat} {A : Around} (r : Room (k + 1) A) (env : Env) : Room k (A.deeper env) :=
  ⟨r.hd, by have := r.dp; show A.depth + 1 + 3 * k + 5 < _; omega, by have := r.un; show A.units + 3 + 16 * k + 200 < _; omega⟩
theorem Room.in1 {k : Nat} {A : Around} (r : Room (k + 1) A) : Room k A.in1 :=
  ⟨r.hd, by have := r.dp; show A.depth + 3 * k + 5 < _; omega, by have := r.un; show A.units + 1 + 16 * k + 200 < _; omega⟩
theorem make_depth {A : Around} {C : Addr} {us : List Value} {kw : List (Str × Value)} : (A.under (.builtin "type.__call__" ⟨.ref C :: us, kw⟩)).depth = A.depth + 1 := by
  first | rfl | simp [Around.under, Code.weight, Code.isCreation, Code.isGuard, Code.isCaller, Code.frames, Code.isFrame, guardIds]
theorem make_units {A : Around} {C : Addr} {us : List Value} {kw : List (Str × Value)} : (A.under (.builtin "type.__call__" ⟨.ref C :: us, kw⟩)).units = A.units + 1 := by
  first | rfl | simp [Around.under, Code.cUnits, Code.frames, Code.isFrame]
theorem Room.make {k : Nat} {A : Around} (r : Room (k + 1) A) (C : Addr) (us : List Value) (kw : List (Str × Value)) : Room k (A.under (.builtin "type.__call__" ⟨.ref C :: us, kw⟩)) :=
  ⟨r.hd, by have := r.dp; rw [make_depth]; omega, by have := r.un; rw [make_units]; omega⟩
theorem Room.depth {k : Nat} {A : Around} (r : Room k A) : A.depth < recursionLimit := by have := r.dp; omega
theorem Room.units {k : Nat} {A : Around} (r : Room k A) : A.units + 64 < cLine := by have := r.un; omega
/-! ### argument lists and displays -/
def tNil : TA := fun _ H Q => Q [] H
def tCons (ta : TE) (tr : TA) : TA := fun σ H Q => ta σ H fun x H1 => tr σ H1 fun xs H2 => Q (x :: xs) H2
section
variable {X : Cx} {e : Expr} {es : List Expr} {te : TE} {t : TA} {pos : Pos}
theorem pa_nil : PA X [] tNil := fun _ _ _ _ H Q I h => Calls.spliced_nil ⟨[], H, I, .nil, h⟩
theorem pa_cons (ha : PE X e te) (hr : PA X es t) (hs : starEach (e :: es) X.env = (false, eval e X.env) :: starEach es X.env := by rfl) : PA X (e :: es) (tCons te t) := by
  intro pos pins s σ H Q I h
  rw [hs]
  show wpAny _ _ (spliced ((false, eval e X.env) :: backTo pos (starEach es X.env))) _ _ s
  refine Calls.spliced_cons (thn (ha pins s σ H _ I h) fun u s1 ⟨x, H1, I1, r1, q1⟩ => ?_)
  exact thn (hr pos pins s1 σ H1 _ I1 q1) fun us s2 ⟨xs, H2, I2, r2, q2⟩ => ⟨x :: xs, H2, I2, .cons r1 r2, q2⟩

/-- a tuple, a list of written items -/
def tTup (t : TA) : TE := fun σ H Q => t σ H fun xs H1 => xs.length ≤ sizeLine ∧ ∀ p, H1 p = none → Q (.ref p) (upd H1 p (.tup xs))
def tLst (t : TA) : TE := fun σ H Q => t σ H fun xs H1 => xs.length ≤ sizeLine ∧ ∀ p, H1 p = none → Q (.ref p) (upd H1 p (.lst xs))
theorem pe_tup {x1} (h : PA X es t) : PE X (.Tuple es x1 pos) (tTup t) := by
  intro pins s σ H Q I hq
  refine wpAny_Tuple_spliced (thn (h pos pins s σ H _ I hq) fun us s1 ⟨xs, H1, I1, r, z, q⟩ => ⟨by rw [← r.length]; exact z, ?_⟩)
  have hf : H1 s1.heap.objs.size = none := I1.hok.fresh (Nat.le_refl _)
  refine ⟨.ref s1.heap.objs.size, upd H1 s1.heap.objs.size (.tup xs), I1.laid (t' := s1.toks) (fun b u e => Heap.get?_push_of_some _ e) (Nat.le_refl _) ?_, rfl, q _ hf⟩
  exact ⟨z, us, r, ⟨_, Heap.get?_push_size _ rfl, rfl, _, rfl⟩⟩
theorem pe_lst (h : PA X es t) : PE X (.List es pos) (tLst t) := by
  intro pins s σ H Q I hq
  refine wpAny_List_spliced (thn (h pos pins s σ H _ I hq) fun us s1 ⟨xs, H1, I1, r, z, q⟩ => ⟨by rw [← r.length]; exact z, ?_⟩)
  have hf : H1 s1.heap.objs.size = none := I1.hok.fresh (Nat.le_refl _)
  refine ⟨.ref s1.heap.objs.size, upd H1 s1.heap.objs.size (.lst xs), I1.laid (t' := s1.toks) (fun b u e => Heap.get?_push_of_some _ e) (Nat.le_refl _) ?_, rfl, q _ hf⟩
  exact ⟨z, us, 0, r, Heap.get?_push_size _ rfl⟩
end

/-! ### what a def promises -/
/-- a def's promise: the bound arguments in the parameters' order, the heap, the wanted end, the wanted exception -/
abbrev Sp := List V → Hp → VK → XK → Prop
/-- how an exception lies behind a call (file 08 gives it): the callers' frames, abstract heap and state ahead of the call, the wish, the exception, the state -/
abbrev CXT := List Env → Hp → Shared → XK → Value → Shared → Prop

/-- the state at a call -/
structure Env0 (P : Program) (w : World) (K : PySem.W.Frag) (mg : Str → Option Value) (base : Heap) (A : Around) (outer : List Env) (s : Shared) (H : Hp) : Prop where
  frames : A.frames = some outer
  mod : Mod K mg base
  bs : ∀ b o, base.get? b = some o → s.heap.get? b = some o ∧ H b = none
  bsz : base.objs.size ≤ s.heap.objs.size
  funs : s.heap.FunFrames base outer
  frf : ∀ b ∈ frs outer, H b = none
  hok : HOk P w H s.heap
  bare : AllBare s.gens
/-- a call's end -/
def CE (outer : List Env) (P : Program) (w : World) (H : Hp) (s : Shared) (Q : VK) (u : Value) (s' : Shared) : Prop :=
  ∃ v H', s'.os = s.os ∧ AllBare s'.gens ∧ Un (frs outer) [] H H' s.heap s'.heap ∧ HOk P w H' s'.heap ∧ RelV v u ∧ Q v H'
def CR (CX : CXT) (outer : List Env) (P : Program) (w : World) (H : Hp) (s : Shared) (Q : VK) (E : XK) (r : Result) (s' : Shared) : Prop :=
  match r with
  | .ok (.ret u) => CE outer P w H s Q u s'
  | .ok _ => False
  | .error e => CX outer H s E e s'
structure FnOk (P : Program) (w : World) (K : PySem.W.Frag) (mg : Str → Option Value) (base : Heap) (CX : CXT) (k : Nat) (f : Addr) (fd : FuncData) (ps : List Str) (sp : Sp) : Prop where
  len : ∀ vs H Q E, sp vs H Q E → vs.length = ps.length
  run : ∀ (A : Around) (outer : List Env) (s : Shared) (H : Hp) (args : Args) (us : List Value) (vs : List V) (Q : VK) (E : XK), Room k A → Env0 P w K mg base A outer s H → BindsTo s fd args (ps.zip us) → Vals vs us → sp vs H Q E →
    codeAny (model P w) A (.call (.ref f) args) (CR CX outer P w H s Q E) s
theorem FnOk.mono {P : Program} {w : World} {K : PySem.W.Frag} {mg : Str → Option Value} {base : Heap} {CX : CXT} {j k : Nat} {f : Addr} {fd : FuncData} {ps : List Str} {sp : Sp} (F : FnOk P w K mg base CX j f fd ps sp) (h : j ≤ k) :
    FnOk P w K mg base CX k f fd ps sp := ⟨F.len, fun A outer s H args us vs Q E hr => F.run A outer s H args us vs Q E (hr.mono h)⟩
/-- a weaker promise -/
theorem FnOk.imp {P : Program} {w : World} {K : PySem.W.Frag} {mg : Str → Option Value} {base : Heap} {CX : CXT} {k : Nat} {f : Addr} {fd : FuncData} {ps : List Str} {sp sp' : Sp} (F : FnOk P w K mg base CX k f fd ps sp)
    (h : ∀ vs H Q E, sp' vs H Q E → sp vs H Q E) : FnOk P w K mg base CX k f fd ps sp' :=
  ⟨fun vs H Q E q => F.len vs H Q E (h _ _ _ _ q), fun A outer s H args us vs Q E hr he hb hv hs => F.run A outer s H args us vs Q E hr he hb hv (h _ _ _ _ hs)⟩

theorem Env0.make {P : Program} {w : World} {K : PySem.W.Frag} {mg : Str → Option Value} {base : Heap} {A : Around} {outer : List Env} {s : Shared} {H : Hp} (e : Env0 P w K mg base A outer s H) (C : Addr) (us : List Value) (kw : List (Str × Value)) :
    Env0 P w K mg base (A.under (.builtin "type.__call__" ⟨.ref C :: us, kw⟩)) outer s H := ⟨by first | exact e.frames | (simpa [Around.under, Code.envs, Code.isFrame, pushEnvs] using e.frames), e.mod, e.bs, e.bsz, e.funs, e.frf, e.hok, e.bare⟩
theorem Env0.in1 {P : Program} {w : World} {K : PySem.W.Frag} {mg : Str → Option Value} {base : Heap} {A : Around} {outer : List Env} {s : Shared} {H : Hp} (e : Env0 P w K mg base A outer s H) :
    Env0 P w K mg base A.in1 outer s H := ⟨e.frames, e.mod, e.bs, e.bsz, e.funs, e.frf, e.hok, e.bare⟩

section
variable {X : Cx} {pins : List (Addr × Obj)} {σ : St} {H : Hp} {s s' : Shared}
/-- from a body: what a callee wants -/
theorem Inv.env0 (I : Inv X pins σ H s) : Env0 X.prog X.w X.K X.mg X.base X.A X.stack s H :=
  ⟨I.ok.frames, I.ok.mod, I.bs, Nat.le_trans I.ok.bsz I.sz, I.stack, I.stkFree, I.hok, I.bare⟩
/-- behind a call -/
theorem Inv.after {Q : VK} {u : Value} (I : Inv X pins σ H s) (h : CE X.stack X.prog X.w H s Q u s') : EP X pins σ Q u s' := by
  obtain ⟨v, H', os, bare, un, hok, r, q⟩ := h
  obtain ⟨hh, g, d, t, os'⟩ := s'
  obtain rfl : os' = s.os := os
  exact ⟨v, H', I.call (h' := hh) (g' := g) (d' := d) (t' := t) (ch := []) un hok bare (fun b z => absurd z (by simp)), r, q⟩
end

/-! ### calls -/
/-- f(..): the written arguments, then the defaults dvs; E: what is wanted of an exception -/
def tCall (sp : Sp) (dvs : List V) (E : XK) (t : TA) : TE := fun σ H Q => t σ H fun vs H1 => sp (vs ++ dvs) H1 Q E
/-- o.m(..) of an instance of the class at C -/
def tMeth (C : Addr) (m : Str) (sp : Sp) (dvs : List V) (E : XK) (ta : TE) (t : TA) : TE := fun σ H Q => ta σ H fun x H1 => ∃ a dx fs, x = .ref a ∧ H1 a = some (.ins C dx fs) ∧ fs.lookup m = none ∧
  t σ H1 fun vs H2 => sp (x :: (vs ++ dvs)) H2 Q E
/-- C(..): a new instance and its dict, then __init__ -/
def tMake (C : Addr) (sp : Sp) (dvs : List V) (E : XK) (t : TA) : TE := fun σ H Q => t σ H fun vs H1 => ∀ x dx, H1 x = none → H1 dx = none → dx ≠ x →
  sp (.ref x :: (vs ++ dvs)) (upd (upd H1 dx (.own x)) x (.ins C dx [])) (fun v H2 => v = .non ∧ Q (.ref x) H2) E

/-- how the parameters are bound: us the positional arguments, kw the keywords' values by name, ds the defaults that fill up -/
def Binds (K : PySem.W.Frag) (fd : FuncData) (ps : List Str) (ds : List Value) : Prop :=
  ∀ (s : Shared) (us : List Value), K.In s.heap → (us ++ ds).length = ps.length → BindsTo s fd ⟨us, []⟩ (ps.zip (us ++ ds))
/-- every parameter is given -/
theorem Binds.all {K : PySem.W.Frag} {fd : FuncData} {ps : List Str} (h : ∀ us : List Value, us.length = ps.length → bindArgs fd ⟨us, []⟩ = pure (ps.zip us)) : Binds K fd ps [] := fun s us _ hl => by
  rw [List.append_nil] at hl ⊢
  exact .of_eq (h us hl)

/-- an exception of a callee reaches what this body wants of exceptions -/
def Passes (CX : CXT) (X : Cx) (E : XK) : Prop := ∀ (pins : List (Addr × Obj)) (σ : St) (H : Hp) (s : Shared) (e : Value) (s' : Shared), Inv X pins σ H s → CX X.stack H s E e s' → X.xe e s'

section
variable {X : Cx} {CX : CXT} {k : Nat} {f C : Addr} {fd : FuncData} {ps : List Str} {sp : Sp} {dvs : List V} {ds : List Value} {E : XK} {x m : Str} {p pos apos : Pos} {e o : Expr} {es : List Expr} {ta : TE} {t : TA}

/-- the callee runs -/
theorem run_fn {pins : List (Addr × Obj)} {σ : St} {H : Hp} {s : Shared} {Q : VK} {us : List Value} {vs : List V} (F : FnOk X.prog X.w X.K X.mg X.base CX k f fd ps sp) (hr : Room k X.A) (hb : Binds X.K fd ps ds) (hd : Vals dvs ds) (hx : Passes CX X E)
    (I : Inv X pins σ H s) (r : Vals vs us) (h : sp (vs ++ dvs) H Q E) : wpAny (model X.prog X.w) X.A (call (.ref f) us) (EP X pins σ Q) X.xe s := by
  have r2 : Vals (vs ++ dvs) (us ++ ds) := r.append hd
  have hl : (us ++ ds).length = ps.length := by rw [← r2.length]; exact F.len _ _ _ _ h
  refine wpAny_call (codeAny_mono (F.run X.A X.stack s H ⟨us, []⟩ (us ++ ds) (vs ++ dvs) Q E hr I.env0 (hb s us I.kIn hl) r2 h) fun r s' hq => ?_)
  cases r with
  | error e => exact hx pins σ H s e s' I hq
  | ok fl =>
    cases fl with
    | ret u => exact I.after hq
    | next => exact False.elim hq
    | brk => exact False.elim hq
    | cont => exact False.elim hq

theorem pe_call (F : FnOk X.prog X.w X.K X.mg X.base CX k f fd ps sp) (hr : Room k X.A) (hg : Gl X x) (hm : X.mg x = some (.ref f)) (hk : PySem.W.keepIn X.K (.ref f) = true) (hb : Binds X.K fd ps ds) (hd : Vals dvs ds) (hx : Passes CX X E)
    (ha : PA X (e :: es) t) (hdb : (x == ("__debug__" : Str)) = false := by decide) (he : starEach (e :: es) X.env = (false, eval e X.env) :: starEach es X.env := by rfl) (hpl : (backTo pos (starEach es X.env)).any (·.1) = false := by rfl) :
    PE X (.Call (.Name x p) (e :: es) [] pos) (tCall sp dvs E t) := by
  intro pins s σ H Q I h
  refine wpAny_Call_Name_kw (ld_glob I hg hm ?_ hdb)
  refine PySem.W.callWith_K (h₀ := X.base) I.ok.mod.kin hk (thn (ha pos pins s σ H _ I h) fun us s1 ⟨vs, H1, I1, r, q⟩ => ⟨I1.kIn, ?_⟩) he hpl
  exact run_fn F hr hb hd hx I1 r q
/-- o.m(e, ..) -/
theorem pe_meth {pl : Sem Bool} (he : PE X o ta) (c : Cls X.K C) (hm : Meth X.K C m f) (F : FnOk X.prog X.w X.K X.mg X.base CX k f fd ps sp) (hr : Room k X.A) (hb : Binds X.K fd ps ds) (hd : Vals dvs ds) (hx : Passes CX X E) (ha : PA X (e :: es) t)
    (hst : starEach (e :: es) X.env = (false, eval e X.env) :: starEach es X.env := by rfl) (hpl : (backTo pos (starEach es X.env)).any (·.1) = false := by rfl)
    (ht : eval (.Call (.Attribute o m apos) (e :: es) [] pos) X.env = (do
      let ov ← eval o X.env
      standAt apos.atName
      let (f, first) ← holding [ov] (getMethod ov m pl)
      callWith pos f first (backTo pos (starEach (e :: es) X.env)) (backToKw pos (keywordEach [] X.env))) := by rfl) :
    PE X (.Call (.Attribute o m apos) (e :: es) [] pos) (tMeth C m sp dvs E ta t) := by
  intro pins s σ H Q I h
  refine PySem.W.methodCall_KW (pl := pl) (thn (he pins s σ H _ I h) fun u s1 ⟨x, H1, I1, rx, a, dx, fs, ex, ea, l, q⟩ => ?_) ht
  subst ex
  obtain rfl : u = Value.ref a := rx
  refine getmeth_ok I1 ea c hm l ?_
  refine PySem.W.callWith_K (first := [.ref a]) (h₀ := X.base) I.ok.mod.kin hm.kp (thn (ha pos pins s1 σ H1 _ I1 q) fun us s2 ⟨vs, H2, I2, r, q2⟩ => ⟨I2.kIn, ?_⟩) hst hpl
  exact run_fn (us := .ref a :: us) (vs := .ref a :: vs) F hr hb hd hx I2 (.cons rfl r) q2
/-- o.m() -/
theorem pe_meth0 {pl : Sem Bool} (he : PE X o ta) (c : Cls X.K C) (hm : Meth X.K C m f) (F : FnOk X.prog X.w X.K X.mg X.base CX k f fd ps sp) (hr : Room k X.A) (hb : Binds X.K fd ps ds) (hd : Vals dvs ds) (hx : Passes CX X E)
    (ht : eval (.Call (.Attribute o m apos) [] [] pos) X.env = (do
      let ov ← eval o X.env
      standAt apos.atName
      let (f, first) ← holding [ov] (getMethod ov m pl)
      callWith pos f first (backTo pos (starEach [] X.env)) (backToKw pos (keywordEach [] X.env))) := by rfl) :
    PE X (.Call (.Attribute o m apos) [] [] pos) (tMeth C m sp dvs E ta tNil) := by
  intro pins s σ H Q I h
  refine PySem.W.methodCall_KW (pl := pl) (thn (he pins s σ H _ I h) fun u s1 ⟨x, H1, I1, rx, a, dx, fs, ex, ea, l, q⟩ => ?_) ht
  subst ex
  obtain rfl : u = Value.ref a := rx
  refine getmeth_ok I1 ea c hm l ?_
  exact PySem.W.callWith_K0 (first := [.ref a]) I1.kIn hm.kp (run_fn (us := [.ref a]) (vs := [.ref a]) F hr hb hd hx I1 (.cons rfl .nil) q)

/-- what a class must have to be made -/
structure Mk (K : PySem.W.Frag) (C f : Addr) : Prop where
  makes : PySem.W.makesIn K C = true
  init : PySem.W.findIn K (.ref C) "__init__" = some (some (.ref f))
  fn : PySem.W.isFn K (.ref f) = true
  kp : PySem.W.keepIn K (.ref C) = true

theorem run_make {pins : List (Addr × Obj)} {σ : St} {H : Hp} {s : Shared} {Q : VK} {us : List Value} {vs : List V} (M : Mk X.K C f) (F : FnOk X.prog X.w X.K X.mg X.base CX k f fd ps sp) (hr : Room (k + 1) X.A) (hb : Binds X.K fd ps ds) (hd : Vals dvs ds)
    (hx : Passes CX X E) (I : Inv X pins σ H s) (r : Vals vs us)
    (h : ∀ x dx, H x = none → H dx = none → dx ≠ x → sp (.ref x :: (vs ++ dvs)) (upd (upd H dx (.own x)) x (.ins C dx [])) (fun v H2 => v = .non ∧ Q (.ref x) H2) E) :
    wpAny (model X.prog X.w) X.A (call (.ref C) us) (EP X pins σ Q) X.xe s := by
  have hq := h (s.heap.objs.size + 1) s.heap.objs.size (I.hok.fresh (Nat.le_succ _)) (I.hok.fresh (Nat.le_refl _)) (Nat.ne_of_lt (Nat.lt_succ_self _))
  have I2 := Inv.made (C := C) I
  have r2 : Vals (V.ref (s.heap.objs.size + 1) :: (vs ++ dvs)) (Value.ref (s.heap.objs.size + 1) :: (us ++ ds)) := .cons rfl (r.append hd)
  have hl : (Value.ref (s.heap.objs.size + 1) :: us ++ ds).length = ps.length := by
    have e := r2.length
    rw [F.len _ _ _ _ hq] at e
    exact e.symm
  refine wpAny_call (make_map (f := f) I.kIn M.makes M.init (beq_iff_eq.mp M.fn) (codeAny_mono (F.run _ X.stack _ _ ⟨Value.ref (s.heap.objs.size + 1) :: us, []⟩ (Value.ref (s.heap.objs.size + 1) :: (us ++ ds)) _ _ E (hr.make C us [])
    (I2.env0.make C us []) (hb _ (Value.ref (s.heap.objs.size + 1) :: us) I2.kIn hl) r2 hq) fun r s' hq' => ?_))
  cases r with
  | error e => exact hx pins σ _ _ e s' I2 hq'
  | ok fl =>
    cases fl with
    | ret u =>
      obtain ⟨v, H', I3, rv, ev, q3⟩ := I2.after hq'
      subst ev
      exact ⟨rv, ⟨V.ref (s.heap.objs.size + 1), H', I3, rfl, q3⟩⟩
    | next => exact False.elim hq'
    | brk => exact False.elim hq'
    | cont => exact False.elim hq'
theorem pe_make (M : Mk X.K C f) (F : FnOk X.prog X.w X.K X.mg X.base CX k f fd ps sp) (hr : Room (k + 1) X.A) (hg : Gl X x) (hm : X.mg x = some (.ref C)) (hb : Binds X.K fd ps ds) (hd : Vals dvs ds) (hx : Passes CX X E)
    (ha : PA X (e :: es) t) (hdb : (x == ("__debug__" : Str)) = false := by decide) (he : starEach (e :: es) X.env = (false, eval e X.env) :: starEach es X.env := by rfl) (hpl : (backTo pos (starEach es X.env)).any (·.1) = false := by rfl) :
    PE X (.Call (.Name x p) (e :: es) [] pos) (tMake C sp dvs E t) := by
  intro pins s σ H Q I h
  refine wpAny_Call_Name_kw (ld_glob I hg hm ?_ hdb)
  refine PySem.W.callWith_K (h₀ := X.base) I.ok.mod.kin M.kp (thn (ha pos pins s σ H _ I h) fun us s1 ⟨vs, H1, I1, r, q⟩ => ⟨I1.kIn, ?_⟩) he hpl
  exact run_make M F hr hb hd hx I1 r q
end

/-! ### keywords -/
section
variable {X : Cx} {CX : CXT} {k : Nat} {f C : Addr} {fd : FuncData} {ps ks : List Str} {sp : Sp} {E : XK} {x m : Str} {p pos apos kpos : Pos} {e o : Expr} {es : List Expr} {kws : List Keyword} {te ta : TE} {t tk : TA} {nm : Option Str}
/-- how a call with keywords binds: g puts the positional values us and the keywords' values ws (names ks) in the parameters' order, defaults among them -/
structure KBinds (K : PySem.W.Frag) (fd : FuncData) (ps ks : List Str) (g : List Value → List Value → List Value) (gV : List V → List V → List V) : Prop where
  to : ∀ (s : Shared) (us ws : List Value), K.In s.heap → (g us ws).length = ps.length → BindsTo s fd ⟨us, ks.zip ws⟩ (ps.zip (g us ws))
  rel : ∀ {vs : List V} {us : List Value} {zs : List V} {ws : List Value}, Vals vs us → Vals zs ws → Vals (gV vs zs) (g us ws)
variable {g : List Value → List Value → List Value} {gV : List V → List V → List V}
end

/-! ### a def's body keeps its promise -/
/-- names: the parameters first -/
structure FnScope (N P : List Str) (sc : Scope) : Prop where
  kind : sc.kind = .function
  co : sc.isCoroutine = false
  gen : sc.isGenerator = false
  nd : N.Nodup
  pre : N.take P.length = P
  par : ∀ x ∈ P, sc.names.lookup x = some .local ∨ sc.names.lookup x = some .cell
  nofree : ∀ y ∈ sc.names, y.2 ≠ .free

theorem bindL_out {kindOf : Str → Option NameKind} {x : Str} : ∀ {binds : List (Str × Value)} {m : Str → Option Value}, (∀ v, (x, v) ∉ binds) → bindL kindOf binds m x = m x
  | [], _, _ => rfl
  | (n, v) :: r, m, h => by
    unfold bindL
    rw [bindL_out fun w hw => h w (List.mem_cons_of_mem _ hw)]
    split
    · have : x ≠ n := by rintro rfl; exact h v List.mem_cons_self
      simp [this]
    · rfl
theorem bindC_out {kindOf : Str → Option NameKind} {x : Str} : ∀ {binds : List (Str × Value)} {m : Str → Option Value}, (∀ v, (x, v) ∉ binds) → bindC kindOf binds m x = m x
  | [], _, _ => rfl
  | (n, v) :: r, m, h => by
    unfold bindC
    rw [bindC_out fun w hw => h w (List.mem_cons_of_mem _ hw)]
    split
    · rfl
    · have : x ≠ n := by rintro rfl; exact h v List.mem_cons_self
      simp [this]
theorem bindL_get {kindOf : Str → Option NameKind} {x : Str} {v : Value} : ∀ {P : List Str} {vs : List Value} {i : Nat} {m : Str → Option Value}, P.Nodup → P[i]? = some x → vs[i]? = some v → kindOf x = some .local →
    bindL kindOf (P.zip vs) m x = some v
  | [], _, _, _, _, h, _, _ => by simp at h
  | _ :: _, [], _, _, _, _, h, _ => by simp at h
  | p :: P, w :: vs, 0, m, nd, h1, h2, hk => by
    simp at h1 h2; subst h1; subst h2
    show bindL kindOf ((p, w) :: P.zip vs) m p = _
    unfold bindL
    rw [bindL_out fun v hv => (List.nodup_cons.mp nd).1 (List.of_mem_zip hv).1, if_pos hk]
    simp
  | p :: P, w :: vs, i + 1, m, nd, h1, h2, hk => by
    show bindL kindOf ((p, w) :: P.zip vs) m x = _
    unfold bindL
    exact bindL_get (i := i) (List.nodup_cons.mp nd).2 (by simpa using h1) (by simpa using h2) hk
theorem bindC_get {kindOf : Str → Option NameKind} {x : Str} {v : Value} : ∀ {P : List Str} {vs : List Value} {i : Nat} {m : Str → Option Value}, P.Nodup → P[i]? = some x → vs[i]? = some v → kindOf x ≠ some .local →
    bindC kindOf (P.zip vs) m x = some v
  | [], _, _, _, _, h, _, _ => by simp at h
  | _ :: _, [], _, _, _, _, h, _ => by simp at h
  | p :: P, w :: vs, 0, m, nd, h1, h2, hk => by
    simp at h1 h2; subst h1; subst h2
    show bindC kindOf ((p, w) :: P.zip vs) m p = _
    unfold bindC
    rw [bindC_out fun v hv => (List.nodup_cons.mp nd).1 (List.of_mem_zip hv).1, if_neg hk]
    simp
  | p :: P, w :: vs, i + 1, m, nd, h1, h2, hk => by
    show bindC kindOf ((p, w) :: P.zip vs) m x = _
    unfold bindC
    exact bindC_get (i := i) (List.nodup_cons.mp nd).2 (by simpa using h1) (by simpa using h2) hk

/-- the names' values at the entry -/
def start (N : List Str) (vs : List V) : St := vs.map some ++ List.replicate (N.length - vs.length) none

/-- the context of a def's body, at its entry; an exception leaves the frame, then lies as CX says -/
def cxOf (CX : CXT) (P : Program) (w : World) (K : PySem.W.Frag) (mg : Str → Option Value) (base : Heap) (N : List Str) (qual : Str) (scope : Scope) (f : Addr) (cd : Value) (A : Around) (outer : List Env) (s : Shared) (H : Hp) (E : XK) : Cx where
  prog := P
  w := w
  K := K
  mg := mg
  base := base
  A := A.deeper (envOfC qual scope s.heap.objs.size f cd)
  N := N
  s_0 := s
  H_0 := H
  env := envOfC qual scope s.heap.objs.size f cd
  outer := outer
  stack := envOfC qual scope s.heap.objs.size f cd :: outer
  ex := []
  calm := true
  fn := fun _ => true
  pn := []
  xe := fun e s' => wpAny (model P w) (A.deeper (envOfC qual scope s.heap.objs.size f cd)) (leaving (envOfC qual scope s.heap.objs.size f cd) e) (fun _ s'' => CX outer H s E e s'') (fun e' s'' => CX outer H s E e' s'') s'

theorem cell_has {sc : Scope} {n : Nat} {x : Str} (h : sc.names.lookup x = some .cell) : ∃ c, (cellsFrom n sc.names []).lookup x = some c := by
  have q := PySem.W.cellsFrom_some sc.names n [] (.inl h)
  exact Option.isSome_iff_exists.mp q

theorem inv_start {CX : CXT} {P : Program} {w : World} {K : PySem.W.Frag} {mg : Str → Option Value} {base : Heap} {N ps : List Str} {qual : Str} {scope : Scope} {f : Addr} {cd : Value} {A : Around} {outer : List Env} {s s1 : Shared} {H : Hp} {E : XK} {us : List Value} {vs : List V}
    (S : FnScope N ps scope) (hd : A.handled = none) (e0 : Env0 P w K mg base A outer s H) (hl : vs.length = ps.length) (r : Vals vs us)
    (x : InCallC s s.heap.objs.size (bindL (envOfC qual scope s.heap.objs.size f cd).kindOf (ps.zip us) fun _ => none) (cellsFrom (s.heap.objs.size + 1) scope.names []) (bindC (envOfC qual scope s.heap.objs.size f cd).kindOf (ps.zip us) fun _ => none) s1) :
    Inv (cxOf CX P w K mg base N qual scope f cd A outer s H E) [] (start N vs) H s1 := by
  have hpl : ps.length ≤ N.length := by have := congrArg List.length S.pre; rw [List.length_take] at this; omega
  obtain ⟨h1, tk, rfl, hk⟩ := x.done
  have noA : ∀ b : Addr, b ∉ (cxOf CX P w K mg base N qual scope f cd A outer s H E).ex := fun b z => absurd (show b ∈ ([] : List Addr) from z) (by simp)
  refine ⟨⟨e0.mod, S.kind, rfl, rfl, Nat.le_refl _, fun y z c h1 h2 => ?_, fun y hy => ?_, fun y c _ h => ?_, fun _ => hd, Around.frames_deeper e0.frames, .inr ⟨rfl, rfl⟩, fun b z => absurd z (noA b), e0.bs, e0.bsz, fun b _ _ => noA b, fun b z => absurd z (noA b), e0.funs, e0.frf⟩,
    rfl, e0.bare, Un.kept hk, ⟨_, x.toInCall.ns, fun i y v h1 h2 h3 => ?_⟩, fun y c h => ⟨_, x.cell y c h⟩, e0.hok.fresh (Nat.le_refl _), fun y c h => ?_, fun p hp => absurd (show p ∈ ([] : List (Addr × Obj)) from hp) (by simp), e0.hok.kept hk, ?_⟩
  · exact name_of_addr x.apart (PySem.mem_of_lookup h1) (PySem.mem_of_lookup h2)
  · have hy : scope.names.lookup y = some .cell ∨ scope.names.lookup y = some .free := hy
    rcases hy with hy | hy
    · exact cell_has hy
    · exact absurd rfl (S.nofree _ (PySem.mem_of_lookup hy))
  · exact Nat.le_of_lt (x.above y c (PySem.mem_of_lookup h))
  · have hi : i < vs.length := by
      unfold start at h2
      by_cases hi : i < vs.length
      · exact hi
      · rw [List.getElem?_append_right (by simpa using hi)] at h2
        rw [List.getElem?_replicate] at h2
        split at h2 <;> cases h2
    have ha : vs[i]? = some v := by
      unfold start at h2
      rw [List.getElem?_append_left (by simpa using hi), List.getElem?_map] at h2
      cases e : vs[i]? with
      | none => rw [e] at h2; cases h2
      | some a => rw [e] at h2; cases h2; rfl
    obtain ⟨u, hu, rv⟩ := r.get ha
    have hp : ps[i]? = some y := by
      rw [← S.pre, List.getElem?_take_of_lt (by omega)]; exact h1
    have ndP : ps.Nodup := by rw [← S.pre]; exact S.nd.sublist (List.take_sublist _ _)
    refine ⟨u, rv, ?_⟩
    rcases S.par y (List.mem_of_getElem? hp) with k | k
    · exact .inl ⟨k, bindL_get ndP hp hu k⟩
    · obtain ⟨c, e⟩ := cell_has (n := s.heap.objs.size + 1) k
      refine .inr ⟨.inl k, c, e, ?_⟩
      have q := x.cell y c e
      rw [bindC_get ndP hp hu (by show scope.names.lookup y ≠ _; rw [k]; decide)] at q
      exact q
  · exact e0.hok.fresh (Nat.le_of_lt (x.above y c (PySem.mem_of_lookup h)))
  · unfold start
    show _ = N.length
    rw [List.length_append, List.length_map, List.length_replicate]
    omega

/-- THE RULE: a def (or a method) of the text, by its body. The body's reading t is chosen for each entry; it is run at the parameters' values -/
theorem fn_of {CX : CXT} {P : Program} {w : World} {K : PySem.W.Frag} {mg : Str → Option Value} {base : Heap} {k : Nat} {f : Addr} {name qual : Str} {params : Arguments} {body : List Stmt} {scope : Scope} {dV kV doc pm cdv ct oc : Value} {an od : Option Addr}
    {osl : Array (Option Value)} {N ps : List Str} {sp : Sp} (lk : K.lookup f = some ⟨oc, od, .func (PySem.W.fnOf name qual params body scope dV kV doc pm an cdv ct), osl⟩) (hcd : PySem.W.codeIn K cdv qual = true) (S : FnScope N ps scope)
    (len : ∀ vs H Q E, sp vs H Q E → vs.length = ps.length)
    (hbody : ∀ (A : Around) (outer : List Env) (s : Shared) (H : Hp) (vs : List V) (Q : VK) (E : XK), Room k (A.deeper (envOfC qual scope s.heap.objs.size f cdv)) → sp vs H Q E →
      ∃ t, PSs (cxOf CX P w K mg base N qual scope f cdv A outer s H E) body t ∧ t { nx := fun _ H' => Q .non H', rt := Q } (start N vs) H) :
    FnOk P w K mg base CX (k + 1) f (PySem.W.fnOf name qual params body scope dV kV doc pm an cdv ct) ps sp := by
  refine ⟨len, fun A outer s H args us vs Q E hr e0 hb r hsp => ?_⟩
  have hl := len _ _ _ _ hsp
  have KX : K.In s.heap := e0.mod.kin.keeps fun b o e => (e0.bs b o e).1
  have lim : s.heap.NoLimit := e0.mod.nolimit.keeps fun b o e => (e0.bs b o e).1
  have hkind : ∀ y ∈ ps.zip us, scope.names.lookup y.1 = some .local ∨ (scope.names.lookup y.1 = some .cell ∧ ((cellsFrom (s.heap.objs.size + 1) scope.names []).lookup y.1).isSome = true) := fun ⟨n, v⟩ hy => by
    rcases S.par n (List.of_mem_zip hy).1 with q | q
    · exact .inl q
    · exact .inr ⟨q, PySem.W.cellsFrom_some _ _ _ (.inl q)⟩
  refine codeAny_call_function hr.depth (KX _ _ lk) rfl S.co S.gen rfl (PySem.W.codeRec_of KX hcd) (hb _ _ _ _ ?_)
  refine wpAny_newFunctionEnv_cells S.kind hkind fun env he s1 x => ?_
  subst he
  refine ⟨lim.keeps x.toInCall.keep, codeAny_func ?_⟩
  obtain ⟨t, ht, hq⟩ := hbody A outer s H vs Q E (hr.deeper _) hsp
  have I : Inv (cxOf CX P w K mg base N qual scope f cdv A outer s H E) [] (start N vs) H s1 := inv_start S hr.hd e0 hl r x
  refine wpAny_mono (ht [] s1 (start N vs) H _ I hq) (fun fl s' hs => ?_) fun e s' hs => hs
  have fin : ∀ {σ' : St} {H' : Hp} {v : V} {u : Value}, Inv (cxOf CX P w K mg base N qual scope f cdv A outer s H E) [] σ' H' s' → RelV v u → Q v H' → CE outer P w H s Q u s' :=
    fun {σ' H' v u} J rv q => ⟨v, H', J.os, J.bare, J.base, J.hok, rv, q⟩
  cases fl with
  | ret u =>
    obtain ⟨v, σ', H', J, rv, q⟩ := hs
    exact fin J rv q
  | next =>
    obtain ⟨σ', H', J, q⟩ := hs
    exact fin (v := V.non) (u := Value.none) J rfl q
  | brk =>
    obtain ⟨_, _, _, q⟩ := hs
    exact False.elim q
  | cont =>
    obtain ⟨_, _, _, q⟩ := hs
    exact False.elim q
end L2

namespace L2
open PySem PySem.Spec PyProof.Rows
section
variable {X : Cx} {x : Str} {p pos : Pos} {e : Expr} {es : List Expr} {t : TA} {id T : String} {r : List V → Hp → VK → Prop}

def tCB (r : List V → Hp → VK → Prop) (t : TA) : TE := fun σ H Q => t σ H fun vs H1 => r vs H1 Q
/-- f(e, ..), f a built-in function -/
theorem pe_callB (hc : CallR X (.builtin id) r) (hg : Gl X x) (hm : X.mg x = none) (hv : bootBuiltins x = some (.builtin id)) (ha : PA X (e :: es) t) (hn : x ≠ "__name__" := by decide) (hdb : (x == ("__debug__" : Str)) = false := by decide)
    (he : starEach (e :: es) X.env = (false, eval e X.env) :: starEach es X.env := by rfl) (hpl : (backTo pos (starEach es X.env)).any (·.1) = false := by rfl) : PE X (.Call (.Name x p) (e :: es) [] pos) (tCB r t) := by
  intro pins s σ H Q I h
  refine wpAny_Call_Name_kw (ld_blt I hg hm hv ?_ hn hdb)
  exact PyProof.Rows.callWith_builtin1 (thn (ha pos pins s σ H _ I h) fun us s1 ⟨vs, H1, I1, r1, q1⟩ => hc pins s1 σ H1 vs us Q I1 r1 q1) he hpl
/-- T(e, ..), T a built-in type -/
theorem pe_callTy (hc : CallR X (.type T) r) (hg : Gl X x) (hm : X.mg x = none) (hv : bootBuiltins x = some (.type T)) (ha : PA X (e :: es) t) (hn : x ≠ "__name__" := by decide) (hdb : (x == ("__debug__" : Str)) = false := by decide)
    (he : starEach (e :: es) X.env = (false, eval e X.env) :: starEach es X.env := by rfl) (hpl : (backTo pos (starEach es X.env)).any (·.1) = false := by rfl) : PE X (.Call (.Name x p) (e :: es) [] pos) (tCB r t) := by
  intro pins s σ H Q I h
  refine wpAny_Call_Name_kw (ld_blt I hg hm hv ?_ hn hdb)
  exact PyProof.Rows.callWith_type1 (thn (ha pos pins s σ H _ I h) fun us s1 ⟨vs, H1, I1, r1, q1⟩ => hc pins s1 σ H1 vs us Q I1 r1 q1) he hpl
end
end L2

namespace HT
open PySem PyProof.Rows

section
open PySem.SeqAt
open PySem.AutoSeq1 (wpAny_loadPart')
open PySem.MeetsSeq PySem.MeetsSeq2 PySem.MeetsSeq3

end

section
variable {prog : Program} {w : World} {A : Around} {E : Value → Shared → Prop} {s : Shared}

/-! ### t[a:b], not the whole -/
/-- a slice's bound as a place among n (d where it is left out) -/
def sIx (n d : Nat) : Option Int → Nat
  | none => d
  | some v => if v < 0 then (v + (n : Int)).toNat else min v.toNat n
theorem sIx_nat (n d k : Nat) : sIx n d (some (k : Int)) = min k n := by
  show (if (k : Int) < 0 then ((k : Int) + (n : Int)).toNat else min (k : Int).toNat n) = min k n
  rw [if_neg (by omega), Int.toNat_natCast]
end
end HT

namespace L2
open PySem PySem.Spec PyProof.Rows

/-! ### the parts of a slice -/
abbrev TO := St → Hp → (Option Int → Hp → Prop) → Prop
/-- a slice's part (left out, or an int) -/
def PO (X : Cx) (e : Option Expr) (t : TO) : Prop :=
  ∀ (pins : List (Addr × Obj)) (s : Shared) (σ : St) (H : Hp) (Q : Option Int → Hp → Prop), Inv X pins σ H s → t σ H Q →
    wpAny (model X.prog X.w) X.A (evalPart e X.env) (fun u s' => ∃ o H', Inv X pins σ H' s' ∧ IsPart u o ∧ Q o H') X.xe s
def tNoPart : TO := fun _ H Q => Q none H
def tPart (t : TE) : TO := fun σ H Q => t σ H fun x H1 => ∃ i, x = .int i ∧ Q (some i) H1

section
variable {X : Cx} {e : Expr} {te : TE} {lo hi : Option Expr} {tl th : TO} {pos p2 : Pos}

theorem po_none : PO X none tNoPart := by
  intro pins s σ H Q I h
  rw [evalPart_none]
  exact wpAny_pure ⟨none, H, I, .none, h⟩
theorem po_some (h : PE X e te) : PO X (some e) (tPart te) := by
  intro pins s σ H Q I hw
  rw [evalPart_some]
  refine thn (h pins s σ H _ I hw) fun u s1 ⟨x, H1, I1, r1, q1⟩ => ?_
  obtain ⟨i, rfl, q⟩ := q1
  obtain ⟨t, rfl⟩ := r1
  exact ⟨some i, H1, I1, .int i t, q⟩

/-- what a slice of a value is, by values: the slice object stands at sl -/
def SlR (X : Cx) (r : V → Option Int → Option Int → Hp → VK → Prop) : Prop :=
  ∀ (pins : List (Addr × Obj)) (s : Shared) (σ : St) (H : Hp) (x : V) (v vl vu : Value) (lo hi : Option Int) (sl : Addr) (Q : VK), Inv X pins σ H s → RelV x v → s.heap.IsSliceOf sl vl vu .none → IsPart vl lo → IsPart vu hi → r x lo hi H Q →
    ∃ T id, typeLookup (.type T) "__getitem__" = pure (some (.builtin id)) ∧ s.TypeIs v T ∧ wpAny (model X.prog X.w) X.A (getItem v (.ref sl)) (EP X pins σ Q) X.xe s
theorem SlR.or {r r' : V → Option Int → Option Int → Hp → VK → Prop} (h : SlR X r) (h' : SlR X r') : SlR X (fun x lo hi H Q => r x lo hi H Q ∨ r' x lo hi H Q) := by
  intro pins s σ H x v vl vu lo hi sl Q I rx hs pl pu q
  rcases q with q | q
  · exact h pins s σ H x v vl vu lo hi sl Q I rx hs pl pu q
  · exact h' pins s σ H x v vl vu lo hi sl Q I rx hs pl pu q
def tSl (r : V → Option Int → Option Int → Hp → VK → Prop) (te : TE) (tl th : TO) : TE := fun σ H Q => te σ H fun x H1 => tl σ H1 fun l H2 => th σ H2 fun u H3 => r x l u H3 Q
/-- a[lo:hi], any a -/
theorem pe_slice {r : V → Option Int → Option Int → Hp → VK → Prop} (hr : SlR X r) (he : PE X e te) (hl : PO X lo tl) (hu : PO X hi th) : PE X (.Subscript e (.Slice lo hi none p2) pos) (tSl r te tl th) := by
  intro pins s σ H Q I h
  refine Subscript_ (thn (he pins s σ H _ I h) fun v s1 ⟨x, H1, I1, r1, q1⟩ => ?_)
  refine wpAny_Slice (thn (hl pins s1 σ H1 _ I1 q1) fun vl s2 ⟨l, H2, I2, pl, q2⟩ => thn (hu pins s2 σ H2 _ I2 q2) fun vu s3 ⟨u, H3, I3, pu, q3⟩ => ?_)
  rw [evalPart_none]
  refine wpAny_pure ?_
  have I4 : Inv X pins σ H3 { s3 with heap := s3.heap.push { cls := .type "slice", data := .fields #[vl, vu, .none] } } := I3.kept (t' := s3.toks) fun b ob q => Heap.get?_push_of_some _ q
  obtain ⟨T, id, hT, ht, hg⟩ := hr pins { s3 with heap := s3.heap.push { cls := .type "slice", data := .fields #[vl, vu, .none] } } σ H3 x v vl vu l u s3.heap.objs.size Q I4 r1 (Heap.IsSliceOf.new ..) pl pu q3
  show wpAny (model X.prog X.w) X.A (subscriptTail e (.Slice lo hi none p2) v (.ref s3.heap.objs.size)) (EP X pins σ Q) X.xe { s3 with heap := s3.heap.push { cls := .type "slice", data := .fields #[vl, vu, .none] } }
  exact tail_any (ops := [.ref s3.heap.objs.size, v]) ht hT hg (by with_unfolding_all rfl)

/-- the items of xs[lo:hi] -/
def cutV (xs : List V) (lo hi : Option Int) : List V := (xs.drop (HT.sIx xs.length 0 lo)).take (HT.sIx xs.length xs.length hi - HT.sIx xs.length 0 lo)
theorem cutV_length (xs : List V) (lo hi : Option Int) : (cutV xs lo hi).length ≤ xs.length := by
  unfold cutV
  rw [List.length_take, List.length_drop]
  omega
/-! ### t < u, t + u -/
end
end L2

namespace L2
open PySem PySem.Spec PyProof.Rows

/-! ### places -/
/-- the place that an index of any sign means -/
def ixN (n : Nat) (i : Int) : Option Nat := if 0 ≤ i then (if i < n then some i.toNat else none) else if -(n : Int) ≤ i then some (i + n).toNat else none
def atI {α : Type} (xs : List α) (i : Int) : Option α := (ixN xs.length i).bind fun j => xs[j]?
theorem ixN_seq {n : Nat} {i : Int} {j : Nat} (h : ixN n i = some j) : seqIndex? i n = some j ∧ j < n ∧ -(n : Int) ≤ i ∧ i < n := by
  unfold ixN at h
  by_cases h0 : 0 ≤ i
  · rw [if_pos h0] at h
    by_cases h1 : i < n
    · rw [if_pos h1] at h
      have e : i.toNat = j := Option.some.inj h
      exact ⟨by rw [seqIndex_of h0 h1, e], by omega, by omega, h1⟩
    · rw [if_neg h1] at h; cases h
  · rw [if_neg h0] at h
    by_cases h1 : -(n : Int) ≤ i
    · rw [if_pos h1] at h
      have e : (i + n).toNat = j := Option.some.inj h
      exact ⟨by rw [seqIndex_neg (by omega) h1, e], by omega, h1, by omega⟩
    · rw [if_neg h1] at h; cases h
theorem atI_get {α : Type} {xs : List α} {i : Int} {v : α} (h : atI xs i = some v) : ∃ j, seqIndex? i xs.length = some j ∧ xs[j]? = some v ∧ j < xs.length ∧ -(xs.length : Int) ≤ i ∧ i < xs.length := by
  unfold atI at h
  cases e : ixN xs.length i with
  | none => rw [e] at h; cases h
  | some j =>
    rw [e] at h
    obtain ⟨h1, h2, h3, h4⟩ := ixN_seq e
    exact ⟨j, h1, h, h2, h3, h4⟩
theorem atI_nat {α : Type} {xs : List α} {j : Nat} {v : α} (h : xs[j]? = some v) : atI xs (j : Int) = some v := by
  have hj : j < xs.length := (List.getElem?_eq_some_iff.mp h).1
  have e : ixN xs.length (j : Int) = some j := by
    unfold ixN
    rw [if_pos (by omega), if_pos (by omega)]; simp
  unfold atI; rw [e]; exact h
theorem atI_last {α : Type} (xs : List α) (v : α) : atI (xs ++ [v]) (-1) = some v := by
  have hl : (xs ++ [v]).length = xs.length + 1 := by simp
  have e : ixN (xs ++ [v]).length (-1) = some xs.length := by
    unfold ixN
    rw [hl, if_neg (by decide), if_pos (by omega)]
    congr 1
    omega
  unfold atI
  rw [e]
  show (xs ++ [v])[xs.length]? = some v
  simp

/-! ### what may be subscripted -/
/-- what stands as an index of a plain subscript -/
def PlainIx (b : Expr) : Prop := ∀ o i, subscripted b false o i = operate [o, i] (getItem o i)
/-- a subscript by values -/
def IxR (X : Cx) (r : R2) : Prop :=
  ∀ (value slice : Expr) (pins : List (Addr × Obj)) (s : Shared) (σ : St) (H : Hp) (x y : V) (v u : Value) (Q : VK), Inv X pins σ H s → RelV x v → RelV y u → r x y H Q →
    subscripted slice false v u = operate [v, u] (getItem v u) → wpAny (model X.prog X.w) X.A (subscriptTail value slice v u) (EP X pins σ Q) X.xe s
/-- a call of a builtin's method by values: the receiver, the arguments -/
def MtR (X : Cx) (id : String) (r : V → List V → Hp → VK → Prop) : Prop :=
  ∀ (pins : List (Addr × Obj)) (s : Shared) (σ : St) (H : Hp) (x : V) (xs : List V) (v : Value) (us : List Value) (Q : VK), Inv X pins σ H s → RelV x v → Vals xs us → r x xs H Q →
    wpAny (model X.prog X.w) X.A (call (.builtin id) (v :: us)) (EP X pins σ Q) X.xe s
section
variable {X : Cx} {a b : Expr} {ta tb : TE} {pos : Pos}
theorem IxR.or {r r' : R2} (h : IxR X r) (h' : IxR X r') : IxR X (fun x y H Q => r x y H Q ∨ r' x y H Q) := by
  intro value slice pins s σ H x y v u Q I rx ry q hs
  rcases q with q | q
  · exact h value slice pins s σ H x y v u Q I rx ry q hs
  · exact h' value slice pins s σ H x y v u Q I rx ry q hs
theorem MtR.or {id : String} {r r' : V → List V → Hp → VK → Prop} (h : MtR X id r) (h' : MtR X id r') : MtR X id (fun x xs H Q => r x xs H Q ∨ r' x xs H Q) := by
  intro pins s σ H x xs v us Q I rx rs q
  rcases q with q | q
  · exact h pins s σ H x xs v us Q I rx rs q
  · exact h' pins s σ H x xs v us Q I rx rs q
/-- a[b] -/
theorem pe_ix {r : R2} (hr : IxR X r) (ha : PE X a ta) (hb : PE X b tb) (hs : PlainIx b) : PE X (.Subscript a b pos) (tOp r ta tb) := by
  intro pins s σ H Q I h
  exact Subscript_ (binT ha hb I h fun v u s2 x y H2 I2 rx ry q => hr a b pins s2 σ H2 x y v u Q I2 rx ry q (hs _ _))

def rIxL (K : PySem.W.Frag) : R2 := fun x y H Q => ∃ p xs i v, x = .ref p ∧ y = .int i ∧ SqL K H p xs ∧ atI xs i = some v ∧ Q v H
def rIxT (K : PySem.W.Frag) : R2 := fun x y H Q => ∃ p xs i v, x = .ref p ∧ y = .int i ∧ SqT K H p xs ∧ atI xs i = some v ∧ Q v H
theorem ix_list : IxR X (rIxL X.K) := by
  intro value slice pins s σ H x y v u Q I rx ry h hs
  obtain ⟨p, xs, i, z, rfl, rfl, hq, he, q⟩ := h
  cases rx
  obtain ⟨t, rfl⟩ := ry
  obtain ⟨its, r, pl, hz⟩ := I.list hq
  obtain ⟨j, h1, h2, h3, h4, h5⟩ := atI_get he
  obtain ⟨w, ew, rw'⟩ := r.get h2
  have hl := r.length
  have hn := line63
  have fin : EP X pins σ Q w s := ⟨z, H, I, rw', q⟩
  by_cases h0 : 0 ≤ i
  · have hj : i.toNat = j := by
      rw [seqIndex_of h0 h5] at h1
      exact Option.some.inj h1
    exact item_listR pl.isList h0 (by omega) (by rw [hj]; simpa using ew) fin hs
  · have hj : (i + (its.toArray.size : Int)).toNat = j := by
      rw [seqIndex_neg (by omega) h4] at h1
      rw [List.size_toArray, ← hl]
      exact Option.some.inj h1
    exact subscriptTail_builtinR (x := w) pl.isList.typeIs slot_list_getitem.lookup
      (wpAny_getItem_list_neg (Q := fun r s' => r = w ∧ EP X pins σ Q r s') pl.isList (by omega) (by rw [List.size_toArray] <;> omega) (by omega) (by rw [hj]; simpa using ew) ⟨rfl, fin⟩) hs
theorem ix_tup : IxR X (rIxT X.K) := by
  intro value slice pins s σ H x y v u Q I rx ry h hs
  obtain ⟨p, xs, i, z, rfl, rfl, hq, he, q⟩ := h
  cases rx
  obtain ⟨t, rfl⟩ := ry
  obtain ⟨its, r, pl, hz⟩ := I.tuple hq
  obtain ⟨j, h1, h2, h3, h4, h5⟩ := atI_get he
  obtain ⟨w, ew, rw'⟩ := r.get h2
  have hl := r.length
  have hn := line63
  have fin : EP X pins σ Q w s := ⟨z, H, I, rw', q⟩
  exact subscriptTail_builtinR (x := w) pl.typeIs slot_tuple_getitem.lookup
    (getItem_tuple (j := j) (Q := fun r s' => r = w ∧ EP X pins σ Q r s') pl (by omega) (by omega) (by rw [List.size_toArray, ← hl]; exact h1) (by simpa using ew) ⟨rfl, fin⟩) hs
/-! ### xs[i] = v, any sign -/
theorem Inv.lst {pins : List (Addr × Obj)} {σ : St} {H : Hp} {s : Shared} {p : Addr} {xs : List V} (I : Inv X pins σ H s) (h : H p = some (.lst xs)) :
    ∃ (its : List Value) (n : Nat), Vals xs its ∧ s.heap.get? p = some { cls := .type "list", data := .seq its.toArray n } ∧ xs.length ≤ sizeLine := by
  obtain ⟨z, its, n, r, e⟩ := I.hok p _ h
  exact ⟨its, n, r, e, z⟩
/-! ### slices -/
theorem slice_bounds (lo hi : Option Int) (n : Nat) : (sliceBounds lo hi none n).1 = ((HT.sIx n 0 lo : Nat) : Int) ∧ (sliceBounds lo hi none n).2.1 = ((HT.sIx n n hi : Nat) : Int) ∧ (sliceBounds lo hi none n).2.2 = 1 := by
  refine ⟨?_, ?_, rfl⟩
  · cases lo with
    | none => simp [sliceBounds, HT.sIx]
    | some i =>
      simp only [sliceBounds, HT.sIx, Option.getD_none, show (1 : Int) > 0 by decide, if_true]
      by_cases h : i < 0
      · simp only [h, if_true] <;> omega
      · simp only [h, if_false] <;> omega
  · cases hi with
    | none => simp [sliceBounds, HT.sIx]
    | some i =>
      simp only [sliceBounds, HT.sIx, Option.getD_none, show (1 : Int) > 0 by decide, if_true]
      by_cases h : i < 0
      · simp only [h, if_true] <;> omega
      · simp only [h, if_false] <;> omega
theorem slicePick_cut (its : List Value) (lo hi : Option Int) : slicePick its.toArray lo hi none = ((its.drop (HT.sIx its.length 0 lo)).take (HT.sIx its.length its.length hi - HT.sIx its.length 0 lo)).toArray := by
  obtain ⟨h1, h2, h3⟩ := slice_bounds lo hi its.toArray.size
  unfold slicePick
  rw [h1, h2, h3]
  simp only [sliceRange_one, pick_run, List.size_toArray] <;> rfl
/-- xs[lo:hi] of a list: a new list -/
def rSlL (K : PySem.W.Frag) : V → Option Int → Option Int → Hp → VK → Prop := fun x lo hi H Q => ∃ a xs, x = .ref a ∧ SqL K H a xs ∧ ∀ p, H p = none → Q (.ref p) (upd H p (.lst (cutV xs lo hi)))
theorem sl_list : SlR X (rSlL X.K) := by
  intro pins s σ H x v vl vu lo hi sl Q I rx hs pl pu h
  obtain ⟨a, xs, rfl, hx, q⟩ := h
  cases rx
  obtain ⟨its, r, ht, hz⟩ := I.list hx
  have hlen := r.length
  refine ⟨"list", _, slot_list_getitem.lookup, ht.isList.typeIs, ?_⟩
  refine wpAny_getItem_list_slice ht.isList hs pl pu .none (by simp) ?_ (by rw [List.size_toArray] <;> omega)
  rw [slicePick_cut, ← hlen]
  refine ⟨.ref s.heap.objs.size, _, I.laid (t' := s.toks) (o := .lst (cutV xs lo hi)) (fun b ob q => Heap.get?_push_of_some _ q) (Nat.le_refl _) ?_, rfl, q _ (I.hok.fresh (Nat.le_refl _))⟩
  exact ⟨Nat.le_trans (cutV_length xs lo hi) hz, _, 0, (r.drop (HT.sIx xs.length 0 lo)).take (HT.sIx xs.length xs.length hi - HT.sIx xs.length 0 lo), Heap.get?_push_size _ rfl⟩

/-! ### in, not in: flat items -/
def flatV : V → Bool
  | .non => true
  | .bl _ => true
  | .int _ => true
  | .str _ => true
  | _ => false
/-- == of flat values -/
def eqV : V → V → Bool
  | .non, .non => true
  | .bl a, .bl b => a == b
  | .bl a, .int b => (if a then 1 else 0) == b
  | .int a, .bl b => a == (if b then 1 else 0)
  | .int a, .int b => a == b
  | .str a, .str b => a == b
  | _, _ => false
theorem eqAt_V {A : Around} {s : Shared} {y x : V} {u v : Value} (ry : RelV y u) (rx : RelV x v) (fy : flatV y = true) (fx : flatV x = true) : SeqAt.EqAt A s u v (eqV y x) := by
  cases y with
  | non =>
    cases ry
    cases x with
    | non => cases rx; exact SeqAt.EqAt.same _
    | bl b => cases rx; exact SeqAt.EqAt.none_bool b
    | int b => obtain ⟨t, rfl⟩ := rx; exact SeqAt.EqAt.none_int b t
    | str b => obtain ⟨t, rfl⟩ := rx; exact SeqAt.EqAt.none_str b t
    | _ => exact absurd (show false = true from fx) Bool.false_ne_true
  | bl a =>
    cases ry
    cases x with
    | non => cases rx; exact SeqAt.EqAt.bool_none a
    | bl b => cases rx; exact SeqAt.EqAt.bool_bool a b
    | int b => obtain ⟨t, rfl⟩ := rx; exact SeqAt.EqAt.bool_int a b t
    | str b => obtain ⟨t, rfl⟩ := rx; exact SeqAt.EqAt.bool_str a b t
    | _ => exact absurd (show false = true from fx) Bool.false_ne_true
  | int a =>
    obtain ⟨t', rfl⟩ := ry
    cases x with
    | non => cases rx; exact SeqAt.EqAt.int_none a t'
    | bl b => cases rx; exact SeqAt.EqAt.int_bool a t' b
    | int b => obtain ⟨t, rfl⟩ := rx; exact SeqAt.EqAt.int_int a t' b t
    | str b => obtain ⟨t, rfl⟩ := rx; exact SeqAt.EqAt.int_str a t' b t
    | _ => exact absurd (show false = true from fx) Bool.false_ne_true
  | str a =>
    obtain ⟨t', rfl⟩ := ry
    cases x with
    | non => cases rx; exact SeqAt.EqAt.str_none a t'
    | bl b => cases rx; exact SeqAt.EqAt.str_bool a t' b
    | int b => obtain ⟨t, rfl⟩ := rx; exact SeqAt.EqAt.str_int a t' b t
    | str b => obtain ⟨t, rfl⟩ := rx; exact SeqAt.EqAt.str_str a t' b t
    | _ => exact absurd (show false = true from fx) Bool.false_ne_true
  | _ => exact absurd (show false = true from fy) Bool.false_ne_true
/-- the items' answers, read off the values (a value's own answer does not lean on its token) -/
def eqU (x : V) (u : Value) : Bool := match u with
  | .none => eqV .non x
  | .bool b => eqV (.bl b) x
  | .int i _ => eqV (.int i) x
  | .str z _ => eqV (.str z) x
  | _ => false
theorem eqU_of {x y : V} {u : Value} (r : RelV y u) (f : flatV y = true) : eqU x u = eqV y x := by
  cases y with
  | non => cases r; rfl
  | bl b => cases r; rfl
  | int i => obtain ⟨t, rfl⟩ := r; rfl
  | str z => obtain ⟨t, rfl⟩ := r; rfl
  | _ => exact absurd (show false = true from f) Bool.false_ne_true
theorem any_eqU {x : V} : ∀ {xs : List V} {us : List Value}, Vals xs us → xs.all flatV = true → us.any (eqU x) = xs.any fun y => eqV y x
  | _, _, .nil, _ => rfl
  | y :: xs, u :: us, .cons r t, f => by
    rw [List.all_cons, Bool.and_eq_true] at f
    rw [List.any_cons, List.any_cons, eqU_of r f.1, any_eqU t f.2]
theorem mem_eqAt {A : Around} {s : Shared} {x : V} {v : Value} (rx : RelV x v) (fx : flatV x = true) : ∀ {xs : List V} {us : List Value}, Vals xs us → xs.all flatV = true → ∀ u ∈ us, SeqAt.EqAt A s u v (eqU x u)
  | _, _, .nil, _ => fun u hu => by cases hu
  | y :: xs, u :: us, .cons r t, f => fun u' hu => by
    rw [List.all_cons, Bool.and_eq_true] at f
    rcases List.mem_cons.mp hu with rfl | hu
    · rw [eqU_of r f.1]; exact eqAt_V r rx f.1 fx
    · exact mem_eqAt rx fx t f.2 u' hu
def inV (x : V) (xs : List V) : Bool := xs.any fun y => eqV y x
/-- x in a list or tuple of flat items -/
def rIn (K : PySem.W.Frag) (neg : Bool) : R2 := fun x y H Q => ∃ p xs, y = .ref p ∧ (SqL K H p xs ∨ SqT K H p xs) ∧ flatV x = true ∧ xs.all flatV = true ∧ Q (.bl (if neg then !inV x xs else inV x xs)) H
theorem op_in_seq : OpR X (compareOp .In) (rIn X.K false) := by
  intro pins s σ H x y v u Q I rx ry h
  obtain ⟨p, xs, rfl, hq, fx, fs, q⟩ := h
  cases ry
  rcases hq with hq | hq
  · obtain ⟨its, r, pl, hz⟩ := I.list hq
    refine SeqAt.in_listAt (eqU x) pl.isList (fun w hw => mem_eqAt rx fx r fs w (by simpa using hw)) ⟨.bl _, H, I, rfl, ?_⟩
    rw [show its.toArray.any (eqU x) = its.any (eqU x) by simp, any_eqU r fs]
    exact q
  · obtain ⟨its, r, pl, hz⟩ := I.tuple hq
    refine SeqAt.in_tupleAt (eqU x) pl (fun w hw => mem_eqAt rx fx r fs w (by simpa using hw)) ⟨.bl _, H, I, rfl, ?_⟩
    rw [show its.toArray.any (eqU x) = its.any (eqU x) by simp, any_eqU r fs]
    exact q
theorem op_notIn_seq : OpR X (compareOp .NotIn) (rIn X.K true) := by
  intro pins s σ H x y v u Q I rx ry h
  obtain ⟨p, xs, rfl, hq, fx, fs, q⟩ := h
  cases ry
  rcases hq with hq | hq
  · obtain ⟨its, r, pl, hz⟩ := I.list hq
    refine SeqAt.notIn_listAt (eqU x) pl.isList (fun w hw => mem_eqAt rx fx r fs w (by simpa using hw)) ⟨.bl _, H, I, rfl, ?_⟩
    rw [show its.toArray.any (eqU x) = its.any (eqU x) by simp, any_eqU r fs]
    exact q
  · obtain ⟨its, r, pl, hz⟩ := I.tuple hq
    refine SeqAt.notIn_tupleAt (eqU x) pl (fun w hw => mem_eqAt rx fx r fs w (by simpa using hw)) ⟨.bl _, H, I, rfl, ?_⟩
    rw [show its.toArray.any (eqU x) = its.any (eqU x) by simp, any_eqU r fs]
    exact q
/-! ### len, list(x), tuple(x) of any list or tuple that is read -/
theorem call_len_seq : CallR X (.builtin "len") (fun xs H Q => ∃ p ys, xs = [.ref p] ∧ (SqL X.K H p ys ∨ SqT X.K H p ys) ∧ Q (.int ys.length) H) := by
  intro pins s σ H xs us Q I r h
  obtain ⟨p, ys, rfl, hq, q⟩ := h
  obtain ⟨u, rfl, rx⟩ := vals1 r
  cases rx
  have hn := line63
  rcases hq with hq | hq
  · obtain ⟨its, r', pl, hz⟩ := I.list hq
    have hlen := r'.length
    exact Calls.call_len_list pl.isList (by simp only [List.size_toArray] <;> omega) ⟨.int ys.length, H, I.tok _, ⟨s.toks + 1, by rw [List.size_toArray, hlen]⟩, q⟩
  · obtain ⟨its, r', pl, hz⟩ := I.tuple hq
    have hlen := r'.length
    exact len_tuple pl (by simp only [List.size_toArray] <;> omega) ⟨.int ys.length, H, I.tok _, ⟨s.toks + 1, by rw [List.size_toArray, hlen]⟩, q⟩
theorem call_len_str : CallR X (.builtin "len") (fun xs H Q => ∃ z, xs = [.str z] ∧ z.length ≤ sizeLine ∧ Q (.int z.length) H) := by
  intro pins s σ H xs us Q I r h
  obtain ⟨z, rfl, hz, q⟩ := h
  obtain ⟨u, rfl, t, rfl⟩ := vals1 r
  have hn := line63
  exact len_str (by omega) ⟨.int z.length, H, I.tok _, ⟨_, rfl⟩, q⟩
theorem CallR.or {f : Value} {r r' : List V → Hp → VK → Prop} (h : CallR X f r) (h' : CallR X f r') : CallR X f (fun xs H Q => r xs H Q ∨ r' xs H Q) := by
  intro pins s σ H xs us Q I rs q
  rcases q with q | q
  · exact h pins s σ H xs us Q I rs q
  · exact h' pins s σ H xs us Q I rs q
theorem call_list_of : CallR X (.type "list") (fun xs H Q => ∃ p ys, xs = [.ref p] ∧ (SqL X.K H p ys ∨ SqT X.K H p ys) ∧ ∀ l, H l = none → Q (.ref l) (upd H l (.lst ys))) := by
  intro pins s σ H xs us Q I r h
  obtain ⟨p, ys, rfl, hq, q⟩ := h
  obtain ⟨u, rfl, rx⟩ := vals1 r
  cases rx
  have fin : ∀ (its : List Value), Vals ys its → ys.length ≤ sizeLine → ∀ (h' : Heap) (c' : Nat), (∀ b o', s.heap.get? b = some o' → h'.get? b = some o') →
      h'.get? s.heap.objs.size = some { cls := .type "list", dict := none, data := .seq its.toArray c', slots := #[] } → EP X pins σ Q (.ref s.heap.objs.size) { s with heap := h' } := fun its r' hz h' c' kp e =>
    ⟨.ref s.heap.objs.size, _, I.laid (t' := s.toks) kp (Nat.le_refl _) (show ObjOk X.prog X.w _ h' _ (.lst ys) from ⟨hz, its, c', r', e⟩), rfl, q _ (I.hok.fresh (Nat.le_refl _))⟩
  rcases hq with hq | hq
  · obtain ⟨its, r', pl, hz⟩ := I.list hq
    have hlen := r'.length
    obtain ⟨o, ho, hc, n, hd⟩ := pl.isList
    exact call_list_seq p (.inl rfl) ho hc hd (fun h' c' kp e => fin its r' hz h' c' kp e) (by simp only [List.size_toArray] <;> omega)
  · obtain ⟨its, r', pl, hz⟩ := I.tuple hq
    have hlen := r'.length
    obtain ⟨o, ho, hc, n, hd⟩ := pl
    exact call_list_seq p (.inr rfl) ho hc hd (fun h' c' kp e => fin its r' hz h' c' kp e) (by simp only [List.size_toArray] <;> omega)
/-! ### the call of a builtin's method: o.m(..) -/
/-- the value is of that builtin type -/
def tyV (K : PySem.W.Frag) (T : String) (x : V) (H : Hp) : Prop := match x with
  | .str _ => T = "str"
  | .int _ => T = "int"
  | .ref p => (T = "list" ∧ ∃ xs, SqL K H p xs) ∨ (T = "tuple" ∧ ∃ o, K.lookup p = some o ∧ o.cls = .type "tuple" ∧ o.dict = none) ∨
      (T = "dict" ∧ ((∃ kvs, H p = some (.dK kvs)) ∨ ∃ kvs, H p = some (.dT kvs))) ∨ (T = "set" ∧ ∃ S n, H p = some (.set S n))
  | _ => False
theorem tyV_is {pins : List (Addr × Obj)} {σ : St} {H : Hp} {s : Shared} {T : String} {x : V} {v : Value} (I : Inv X pins σ H s) (r : RelV x v) (ty : tyV X.K T x H) :
    s.TypeIs v T ∧ ∀ a, v = .ref a → ∃ ob, s.heap.get? a = some ob ∧ ob.dict = none := by
  cases x with
  | str z =>
    obtain ⟨t, rfl⟩ := r
    cases (show T = "str" from ty)
    exact ⟨typeIs_str s z t, fun _ e => nomatch e⟩
  | int i =>
    obtain ⟨t, rfl⟩ := r
    cases (show T = "int" from ty)
    exact ⟨typeIs_int s i t, fun _ e => nomatch e⟩
  | ref p =>
    cases r
    rcases ty with ⟨rfl, xs, hq⟩ | ⟨rfl, o, hk, hc, hd⟩ | ⟨rfl, hk⟩ | ⟨rfl, S, n, hk⟩
    · obtain ⟨its, _, pl, _⟩ := I.list hq
      refine ⟨pl.isList.typeIs, fun a e => ?_⟩
      cases e
      obtain ⟨o, n, e, c, hd, _⟩ := pl
      exact ⟨o, e, hd⟩
    · refine ⟨⟨o, I.kIn p o hk, hc⟩, fun a e => ?_⟩
      cases e
      exact ⟨o, I.kIn _ o hk, hd⟩
    · have z : ∃ o, s.heap.get? p = some o ∧ o.ExactDict := by
        rcases hk with ⟨kvs, hk⟩ | ⟨kvs, hk⟩
        · obtain ⟨_, _, _, _, o, _, _, e, ex, _⟩ := I.hok p _ hk
          exact ⟨o, e, ex⟩
        · obtain ⟨_, _, _, _, o, _, _, e, ex, _⟩ := I.hok p _ hk
          exact ⟨o, e, ex⟩
      obtain ⟨o, e, ex⟩ := z
      refine ⟨⟨o, e, ex.1⟩, fun a e2 => ?_⟩
      cases e2
      exact ⟨o, e, ex.2.1⟩
    · obtain ⟨o, _, _, _, e, ex, _⟩ := I.hok p _ hk
      refine ⟨⟨o, e, ex.1⟩, fun a e2 => ?_⟩
      cases e2
      exact ⟨o, e, ex.2.1⟩
  | _ => exact False.elim ty
def tBM0 (K : PySem.W.Frag) (T : String) (r : V → List V → Hp → VK → Prop) (to : TE) : TE := fun σ H Q => to σ H fun x H1 => tyV K T x H1 ∧ r x [] H1 Q
def tBM (K : PySem.W.Frag) (T : String) (r : V → List V → Hp → VK → Prop) (to : TE) (t : TA) : TE := fun σ H Q => to σ H fun x H1 => tyV K T x H1 ∧ t σ H1 fun xs H2 => r x xs H2 Q
variable {o e : Expr} {es : List Expr} {to : TE} {t : TA} {name : Str} {apos cpos : Pos} {T id : String} {r : V → List V → Hp → VK → Prop}
theorem pe_bm0 (pa : PlainAttrs T) (slot : Slot T name id) (hty : typeOf (.builtin id) = pure (.type "method_descriptor")) (hm : MtR X id r) (ho : PE X o to)
    (hbase : attributeBase o name X.env (eval o X.env) = eval o X.env := by rfl) (hline : (apos.endLine == cpos.line) = true := by rfl) : PE X (.Call (.Attribute o name apos) [] [] cpos) (tBM0 X.K T r to) := by
  intro pins s σ H Q I h
  refine wpAny_Call_method0_late hbase hline (thn (ho pins s σ H _ I h) fun v s1 ⟨x, H1, I1, r1, ty, q1⟩ => ?_)
  obtain ⟨h1, h2⟩ := tyV_is I1 r1 ty
  exact ⟨T, id, pa, slot, hty, h1, h2, Calls.callWith_builtin rfl (PySem.evalArgs_none (hm pins s1 σ H1 x [] v [] Q I1 r1 .nil q1))⟩
theorem pe_bm (pa : PlainAttrs T) (slot : Slot T name id) (hty : typeOf (.builtin id) = pure (.type "method_descriptor")) (hm : MtR X id r) (ho : PE X o to) (ha : PA X (e :: es) t)
    (hbase : attributeBase o name X.env (eval o X.env) = eval o X.env := by rfl)
    (hfew : ((backTo cpos (starEach (e :: es) X.env)).all (fun x => !x.1) && (backToKw cpos (keywordEach [] X.env)).all (fun x => x.1.isSome)
      && decide ((e :: es).length + ([] : List Keyword).length + (if ([] : List Keyword).isEmpty then 0 else 1) < 30)) = true := by rfl)
    (hline : (apos.endLine == cpos.line) = true := by rfl) (hs : starEach (e :: es) X.env = (false, eval e X.env) :: starEach es X.env := by rfl) (hplain : (backTo cpos (starEach es X.env)).any (·.1) = false := by rfl) :
    PE X (.Call (.Attribute o name apos) (e :: es) [] cpos) (tBM X.K T r to t) := by
  intro pins s σ H Q I h
  refine wpAny_Call_method_late hbase hfew hline rfl (thn (ho pins s σ H _ I h) fun v s1 ⟨x, H1, I1, r1, ty, q1⟩ => ?_)
  obtain ⟨h1, h2⟩ := tyV_is I1 r1 ty
  refine ⟨T, id, pa, slot, hty, h1, h2, ?_⟩
  have hA := ha cpos pins s1 σ H1 _ I1 q1
  rw [hs] at hA ⊢
  refine Calls.callWith_builtin (by show (false || (backTo cpos (starEach es X.env)).any (·.1)) = false; rw [hplain] <;> rfl) (Calls.evalArgs_plain ?_)
  exact thn hA fun us s2 ⟨vs, H2, I2, r2, q2⟩ => hm pins s2 σ H2 x vs v us Q I2 r1 r2 q2
/- xs.append(e), list.index on a module's tuple .. are MtR facts of 06m -/
end
end L2

namespace L2
open PySem PySem.Spec PyProof.Rows

def MtM (X : Cx) (id : String) (r : V → List V → Hp → VK → Prop) : Prop :=
  ∀ (pins : List (Addr × Obj)) (s : Shared) (σ : St) (H : Hp) (x : V) (xs : List V) (v : Value) (us : List Value) (Q : VK), Inv X pins σ H s → RelV x v → Vals xs us → r x xs H Q →
    wpAny (model X.prog X.w) X.A (call (.builtin id) (v :: us)) (EP X pins σ Q) X.xe s

/-! ### lists of values -/
theorem Vals.one : ∀ {x : V} {us : List Value}, Vals [x] us → ∃ u, us = [u] ∧ RelV x u
  | _, _, .cons r .nil => ⟨_, rfl, r⟩
theorem Vals.two : ∀ {x y : V} {us : List Value}, Vals [x, y] us → ∃ u v, us = [u, v] ∧ RelV x u ∧ RelV y v
  | _, _, _, .cons r (.cons q .nil) => ⟨_, _, rfl, r, q⟩
theorem Vals.zero : ∀ {us : List Value}, Vals [] us → us = []
  | _, .nil => rfl
theorem Vals.dropLast {xs : List V} {us : List Value} (h : Vals xs us) : Vals xs.dropLast us.dropLast := by
  induction h with
  | nil => exact .nil
  | cons r t ih =>
    cases t with
    | nil => exact .nil
    | cons q t' => exact .cons r ih
theorem Vals.eraseIdx : ∀ {xs : List V} {us : List Value} (i : Nat), Vals xs us → Vals (xs.eraseIdx i) (us.eraseIdx i)
  | _, _, _, .nil => .nil
  | _, _, 0, .cons _ t => t
  | _, _, i + 1, .cons r t => .cons r (Vals.eraseIdx i t)
theorem Vals.reverse {xs : List V} {us : List Value} (h : Vals xs us) : Vals xs.reverse us.reverse := by
  induction h with
  | nil => exact .nil
  | cons r t ih => rw [List.reverse_cons, List.reverse_cons]; exact Vals.append ih (.cons r .nil)
theorem Vals.rep {xs : List V} {us : List Value} (h : Vals xs us) : ∀ k : Nat, Vals (List.replicate k xs).flatten (List.replicate k us).flatten
  | 0 => .nil
  | k + 1 => by
    rw [List.replicate_succ, List.replicate_succ, List.flatten_cons, List.flatten_cons]
    exact Vals.append h (Vals.rep h k)
theorem erase_last {α : Type} (l : List α) : l.eraseIdx (l.length - 1) = l.dropLast := by
  induction l with
  | nil => rfl
  | cons a r ih =>
    cases r with
    | nil => rfl
    | cons b r =>
      have e : (a :: b :: r).length - 1 = ((b :: r).length - 1) + 1 := by
        have h1 : (a :: b :: r).length = r.length + 2 := rfl
        have h2 : (b :: r).length = r.length + 1 := rfl
        omega
      rw [e, List.eraseIdx_cons_succ, ih]
      all_goals rfl
theorem len_erase {α : Type} : ∀ (l : List α) (i : Nat), (l.eraseIdx i).length ≤ l.length
  | [], _ => Nat.le_refl _
  | _ :: _, 0 => Nat.le_succ _
  | _ :: r, i + 1 => Nat.succ_le_succ (len_erase r i)
theorem foldl_rep (its : List Value) : ∀ (k : Nat) (acc : List Value),
    List.foldl (fun x1 x2 => x1 ++ x2) acc.toArray (List.replicate k its.toArray) = (acc ++ (List.replicate k its).flatten).toArray
  | 0, acc => by simp
  | k + 1, acc => by
    have e : acc.toArray ++ its.toArray = (acc ++ its).toArray := by simp
    have e2 : (acc ++ its) ++ (List.replicate k its).flatten = acc ++ (List.replicate (k + 1) its).flatten := by
      rw [List.replicate_succ, List.flatten_cons, List.append_assoc]
    rw [← e2, ← foldl_rep its k (acc ++ its), ← e, List.replicate_succ, List.foldl_cons]

section
variable {X : Cx} {pins : List (Addr × Obj)} {σ : St} {H : Hp} {s : Shared} {l b : Addr} {xs ys zs : List V}

/-! ### the two steps: a tracked list is rewritten, a new list is laid -/
theorem Inv.lset {its its' : List Value} {n : Nat} {f : Array Value → Array Value} {t' : Nat} (I : Inv X pins σ H s) (hH : H l = some (.lst xs))
    (e : s.heap.get? l = some { cls := .type "list", data := .seq its.toArray n }) (hf : f its.toArray = its'.toArray) (hv : Vals ys its') (hz : ys.length ≤ sizeLine) :
    Inv X pins σ (upd H l (.lst ys)) { s with heap := s.heap.update l (Obj.mapSeq f), toks := t' } := by
  have q := PySem.IsL.update e f
  rw [hf] at q
  refine I.write (x := l) (e := l) (by rw [hH]; exact trivial) (.inl rfl) (fun b' u hb hu => (Heap.get?_update_other s.heap (Obj.mapSeq f) (Ne.symm hb)).trans hu) ⟨_, q⟩ ?_
  exact ⟨hz, its', _, hv, q⟩
theorem Inv.lnew {its : List Value} {t' : Nat} (I : Inv X pins σ H s) (hv : Vals ys its) (hz : ys.length ≤ sizeLine) :
    Inv X pins σ (upd H s.heap.objs.size (.lst ys)) { s with heap := s.heap.push { cls := .type "list", data := .seq its.toArray }, toks := t' } :=
  I.laid (fun _ _ q => Heap.get?_push_of_some _ q) (Nat.le_refl _) ⟨hz, its, 0, hv, Heap.get?_push_size _ rfl⟩
theorem Inv.fresh (I : Inv X pins σ H s) : H s.heap.objs.size = none := I.hok.fresh (Nat.le_refl _)
theorem Inv.lstM (I : Inv X pins σ H s) (hH : H l = some (.lst xs)) : xs.length ≤ sizeLine ∧ ∃ (its : List Value) (n : Nat), Vals xs its ∧ xs.length = its.length ∧ s.heap.get? l = some { cls := .type "list", data := .seq its.toArray n } := by
  obtain ⟨z, its, n, r, e⟩ := I.hok l _ hH
  exact ⟨z, its, n, r, r.length, e⟩

theorem notLongL {n : Nat} (h : n ≤ sizeLine) : Builtin.List.listTooLong n = false := by
  unfold Builtin.List.listTooLong
  exact decide_eq_false (by omega)
end

section
variable {X : Cx}

/-! ### methods -/
def rAppend : V → List V → Hp → VK → Prop := fun x vs H Q => ∃ l xs y, x = .ref l ∧ vs = [y] ∧ H l = some (.lst xs) ∧ xs.length < sizeLine ∧ Q .non (upd H l (.lst (xs ++ [y])))
theorem mt_append : MtM X "list.append" rAppend := by
  intro pins s σ H x vs v us Q I rx rv h
  obtain ⟨l, xs, y, rfl, rfl, hH, hz, q⟩ := h
  cases rx
  obtain ⟨u, rfl, ru⟩ := rv.one
  obtain ⟨z, its, n, r, hl, e⟩ := I.lstM hH
  refine call_meets F.slot_list_append ⟨_, e, rfl⟩ F.entry_list_append (F.args_list_append_2 _ _) (PySem.list_append l its.toArray n u (by rw [List.size_toArray]; omega)) ⟨e, ?_⟩
  refine ⟨.non, _, I.lset (its' := its ++ [u]) hH e (by simp) (r.append (.cons ru .nil)) ?_, rfl, q⟩
  rw [List.length_append, List.length_singleton]
  omega

def rPop : V → List V → Hp → VK → Prop := fun x vs H Q => ∃ l xs y, x = .ref l ∧ vs = [] ∧ H l = some (.lst xs) ∧ xs[xs.length - 1]? = some y ∧ Q y (upd H l (.lst xs.dropLast))
theorem mt_pop : MtM X "list.pop" rPop := by
  intro pins s σ H x vs v us Q I rx rv h
  obtain ⟨l, xs, y, rfl, rfl, hH, hy, q⟩ := h
  cases rx
  have hus := rv.zero
  subst hus
  obtain ⟨z, its, n, r, hl, e⟩ := I.lstM hH
  obtain ⟨u, hu, ru⟩ := r.get hy
  have hy' : its.toArray[its.toArray.size - 1]? = some u := by
    show its.toArray[its.length - 1]? = some u
    rw [← Array.getElem?_toList, ← hl]
    exact hu
  refine call_meets F.slot_list_pop ⟨_, e, rfl⟩ F.entry_list_pop (F.args_list_pop_1 _) (MeetsSeq.list_pop_last l its.toArray n u hy' (by rw [List.size_toArray]; omega)) ⟨e, ?_⟩
  refine ⟨y, _, I.lset (its' := its.dropLast) hH e ?_ r.dropLast ?_, ru, q⟩
  · show its.toArray.eraseIdxIfInBounds (its.toArray.size - 1) = its.dropLast.toArray
    rw [List.size_toArray, List.eraseIdxIfInBounds_toArray, erase_last]
  · rw [List.length_dropLast]
    omega

def rPopAt : V → List V → Hp → VK → Prop := fun x vs H Q => ∃ l xs i k y, x = .ref l ∧ vs = [.int i] ∧ H l = some (.lst xs) ∧ -(2 ^ 63) ≤ i ∧ i < 2 ^ 63 ∧ seqIndex? i xs.length = some k ∧ xs[k]? = some y ∧ Q y (upd H l (.lst (xs.eraseIdx k)))
theorem mt_popAt : MtM X "list.pop" rPopAt := by
  intro pins s σ H x vs v us Q I rx rv h
  obtain ⟨l, xs, i, k, y, rfl, rfl, hH, h1, h2, hk, hy, q⟩ := h
  cases rx
  obtain ⟨u, rfl, ru⟩ := rv.one
  obtain ⟨t, rfl⟩ := ru
  obtain ⟨z, its, n, r, hl, e⟩ := I.lstM hH
  obtain ⟨w, hw, rw'⟩ := r.get hy
  refine call_meets F.slot_list_pop ⟨_, e, rfl⟩ F.entry_list_pop (F.args_list_pop_2 _ _)
    (MeetsSeq.list_pop_at l its.toArray n i t k w (fitsIndex_both h1 h2) (by rw [List.size_toArray, ← hl]; exact hk) (by rw [← Array.getElem?_toList]; exact hw) (by rw [List.size_toArray]; omega)) ⟨e, ?_⟩
  refine ⟨y, _, I.lset (its' := its.eraseIdx k) hH e ?_ (r.eraseIdx k) ?_, rw', q⟩
  · show its.toArray.eraseIdxIfInBounds k = (its.eraseIdx k).toArray
    rw [List.eraseIdxIfInBounds_toArray]
  · have := len_erase xs k
    omega

def rClear : V → List V → Hp → VK → Prop := fun x vs H Q => ∃ l xs, x = .ref l ∧ vs = [] ∧ H l = some (.lst xs) ∧ Q .non (upd H l (.lst []))
theorem mt_clear : MtM X "list.clear" rClear := by
  intro pins s σ H x vs v us Q I rx rv h
  obtain ⟨l, xs, rfl, rfl, hH, q⟩ := h
  cases rx
  have hus := rv.zero
  subst hus
  obtain ⟨z, its, n, r, hl, e⟩ := I.lstM hH
  refine call_meets F.slot_list_clear ⟨_, e, rfl⟩ F.entry_list_clear (F.args_list_clear_1 _) (AutoSeq1.list_clear_list_0 l its.toArray n (by rw [List.size_toArray]; omega)) ⟨e, ?_⟩
  exact ⟨.non, _, I.lset (its' := []) (ys := []) hH e rfl .nil (Nat.zero_le _), rfl, q⟩

/-! ### list + list, list += list, list * int -/
def rCat : R2 := fun x y H Q => ∃ l b xs zs, x = .ref l ∧ y = .ref b ∧ H l = some (.lst xs) ∧ H b = some (.lst zs) ∧ xs.length + zs.length ≤ sizeLine ∧ ∀ p, H p = none → Q (.ref p) (upd H p (.lst (xs ++ zs)))
theorem op_cat : OpR X (binaryOp .Add) rCat := by
  intro pins s σ H x y v u Q I rx ry h
  obtain ⟨l, b, xs, zs, rfl, rfl, hH, hB, hz, q⟩ := h
  cases rx
  cases ry
  obtain ⟨z, its, n, r, hl, e⟩ := I.lstM hH
  obtain ⟨z2, its2, n2, r2, hl2, e2⟩ := I.lstM hB
  refine PySem.P.add_list e e2 ?_ (by rw [List.size_toArray, List.size_toArray]; omega)
  have ea : its.toArray ++ its2.toArray = (its ++ its2).toArray := by simp
  rw [ea]
  exact ⟨.ref _, _, I.lnew (t' := s.toks) (r.append r2) (by rw [List.length_append]; omega), rfl, q _ I.fresh⟩
/-- a list times an int (a negative one is nothing) -/
def rRep : R2 := fun x y H Q => ∃ l k xs, x = .ref l ∧ y = .int k ∧ H l = some (.lst xs) ∧ -(2 ^ 63) ≤ k ∧ k < 2 ^ 63 ∧ xs.length * k.toNat ≤ sizeLine ∧
  ∀ p, H p = none → Q (.ref p) (upd H p (.lst (List.replicate k.toNat xs).flatten))
theorem len_rep {α : Type} (xs : List α) (k : Nat) : (List.replicate k xs).flatten.length = k * xs.length := by
  induction k with
  | zero => simp
  | succ k ih => rw [List.replicate_succ, List.flatten_cons, List.length_append, ih, Nat.succ_mul, Nat.add_comm]
theorem op_rep : OpR X (binaryOp .Mult) rRep := by
  intro pins s σ H x y v u Q I rx ry h
  obtain ⟨l, k, xs, rfl, rfl, hH, h1, h2, hz, q⟩ := h
  cases rx
  obtain ⟨t, rfl⟩ := ry
  obtain ⟨z, its, n, r, hl, e⟩ := I.lstM hH
  have hlen : its.toArray.size * k.toNat ≤ sizeLine := by rw [List.size_toArray, ← hl]; exact hz
  have hcap : ¬ its.toArray.size * k.toNat > (2 ^ 63 - 1) / 8 := by
    have : (sizeLine : Nat) ≤ (2 ^ 63 - 1) / 8 := by decide
    omega
  have hfit : ¬ (!Builtin.List.listFitsIndex k) = true := by
    rw [fitsIndex_both h1 h2]
    exact Bool.false_ne_true
  have hlong : ¬ Builtin.List.listTooLong (its.toArray.size * k.toNat) = true := by
    rw [notLongL hlen]
    exact Bool.false_ne_true
  have hnew : List.foldl (fun x1 x2 => x1 ++ x2) #[] (List.replicate (if its.toArray.isEmpty = true then 0 else k.toNat) its.toArray) = (List.replicate k.toNat its).flatten.toArray := by
    have f0 : ∀ m : Nat, List.foldl (fun x1 x2 => x1 ++ x2) #[] (List.replicate m its.toArray) = (List.replicate m its).flatten.toArray := fun m => by
      have := foldl_rep its m []
      rw [List.nil_append] at this
      exact this
    rw [f0]
    cases its with
    | nil => simp
    | cons a r' => rw [if_neg (by simp)]
  refine wpAny_binaryOp_repeat_ref (T := "list") (U := "int") (by decide) ⟨_, e, rfl⟩ (fun s' => typeIs_int s' k t) noFill_list_mul F.fills_int_mul F.slot_int_rmul repeat_list F.slot_int_index.lookup
    (call_meets F.slot_int_rmul (typeIs_int s k t) F.entry_int_rmul (F.args_int_rmul_2 _ _) (int___rmul___int_list k t l its.toArray n)
      ⟨e, rfl, ⟨_, e, rfl⟩, call_meets F.slot_list_mul ⟨_, e, rfl⟩ F.entry_list_mul (F.args_list_mul_2 _ _) (AutoListH.list___mul___list_int_3 l its.toArray n k t hfit hcap hlong) ⟨e, ?_⟩⟩)
  rw [hnew]
  exact ⟨.ref _, _, I.lnew (t' := s.toks) (r.rep k.toNat) (by rw [len_rep, Nat.mul_comm]; exact hz), rfl, q _ I.fresh⟩

/-! ### del xs[i] -/
end

/-! ### xs[a:b] = ys -/
section
variable {prog : Program} {w : World} {A : Around} {E : Value → Shared → Prop} {s : Shared}
set_option maxRecDepth 100000 in
end

section
variable {X : Cx}
end
end L2

namespace L2
open PySem PySem.Spec PyProof.Rows

theorem Vals.ints : ∀ {ns : List Int} {us : List Value}, Vals (ns.map V.int) us → IntsAre us ns
  | [], us, h => by
    rw [List.map_nil] at h
    cases h
    exact IntsAre.nil
  | n :: ns, us, h => by
    rw [List.map_cons] at h
    cases h with
    | cons r t =>
      obtain ⟨k, rfl⟩ := r
      exact IntsAre.cons n k (Vals.ints t)
theorem Vals.strs : ∀ {xs : List Str} {us : List Value}, Vals (xs.map V.str) us → StrsAre us xs
  | [], us, h => by
    rw [List.map_nil] at h
    cases h
    exact StrsAre.nil
  | x :: xs, us, h => by
    rw [List.map_cons] at h
    cases h with
    | cons r t =>
      obtain ⟨k, rfl⟩ := r
      exact StrsAre.cons x k (Vals.strs t)
theorem vals_of_strs : ∀ {us : List Value} {xs : List Str}, StrsAre us xs → Vals (xs.map V.str) us
  | _, _, .nil => by rw [List.map_nil]; exact Paired.nil
  | _, _, .cons x t h => by rw [List.map_cons]; exact Paired.cons (show RelV (V.str x) (Value.str x t) from ⟨t, rfl⟩) (vals_of_strs h)
theorem Vals.bls : ∀ {bs : List Bool} {us : List Value}, Vals (bs.map V.bl) us → us = bs.map Value.bool
  | [], us, h => by
    rw [List.map_nil] at h
    cases h
    rfl
  | b :: bs, us, h => by
    rw [List.map_cons] at h
    cases h with
    | cons r t =>
      cases r
      rw [Vals.bls t, List.map_cons]
theorem Vals.ref1 {a : Addr} {us : List Value} (r : Vals [V.ref a] us) : us = [Value.ref a] := by
  cases r with
  | cons r t =>
    cases t
    cases r
    rfl
/-! ### the library's walks over a list of ints, kept objects alone -/
section
variable {prog : Program} {w : World} {A : Around} {E : Value → Shared → Prop} {s : Shared} {l : Addr} {its : List Value} {ns : List Int} {Q : Value → Shared → Prop}
end

/-! ### the calls, by values (CallR of 03t; MtR of 06l) -/
section
variable {X : Cx}
/-! sorted, sort (fewer than 64 items: the library's own bound) -/
theorem small64 {n : Nat} (h : n < 64) : n ≤ sizeLine := by rw [sizeLine_eq]; omega
end

/-! ### list.index, flat items -/
section
variable {X : Cx}
end

/-! ### type(x) of an own instance; is, is not of a module's class -/
section
variable {X : Cx}
end

/-! ### any(xs), all(xs) of a list of bools -/
theorem iter_any {prog : Program} {w : World} {A : Around} {E : Value → Shared → Prop} {s : Shared} {l : Addr} {items : Array Value} {Q : Value → Shared → Prop} (hl : s.heap.IsList l items)
    (h : ∀ s₂ : Shared, s₂ = { s with heap := s.heap.push { cls := .type "list_iterator", data := .fields #[.ref l, .int 0 0] } } →
      (s₂.heap.IsListIter s.heap.objs.size l 0 ∧ s₂.heap.IsList l items) → l ≠ s.heap.objs.size → Q (.ref s.heap.objs.size) s₂) : wpAny (model prog w) A (pyIter (.ref l)) Q E s := by
  have hlt : l < s.heap.objs.size := by obtain ⟨_, e, _⟩ := hl; exact Heap.lt_size e
  exact wpAny_pyIter_list hl (h _ rfl ⟨⟨_, Heap.get?_push_size _ rfl, rfl, rfl⟩, hl.push _⟩ (Nat.ne_of_lt hlt))
theorem truth_bools {prog : Program} {w : World} {A : Around} {bs : List Bool} {its : List Value} (e : its = bs.map Value.bool) :
    TruthOf prog w A (fun i v => its.toArray[i]? = some v) (fun i => bs.getD i false) := fun i v s Q E hv hq => by
  have hv' : its[i]? = some v := by simpa using hv
  rw [e, List.getElem?_map] at hv'
  obtain ⟨b, hb, rfl⟩ := Option.map_eq_some_iff.mp hv'
  have hg : bs.getD i false = b := by rw [List.getD_eq_getElem?_getD, hb] <;> rfl
  have hq' : Q (bs.getD i false) s := hq
  rw [hg] at hq'
  exact wpAny_truthy_bool hq'
theorem all_range : ∀ bs : List Bool, (List.range bs.length).all (fun i => bs.getD i false) = bs.all id
  | [] => rfl
  | b :: bs => by
    rw [List.length_cons, List.range_succ_eq_map, List.all_cons, List.all_map, List.all_cons, ← all_range bs]
    all_goals rfl
section
variable {X : Cx}
def rAll (K : PySem.W.Frag) : List V → Hp → VK → Prop := fun vs H Q => ∃ (a : Addr) (bs : List Bool), vs = [V.ref a] ∧ SqL K H a (bs.map V.bl) ∧ Q (.bl (bs.all id)) H
theorem cr_all (hc : X.calm = true) : CallR X (.builtin "all") (rAll X.K) := by
  intro pins s σ H vs us Q I r h
  obtain ⟨a, bs, rfl, hs, q⟩ := h
  obtain ⟨its, rv, hl, _⟩ := I.list hs
  rw [Vals.ref1 r]
  have hb := rv.bls
  refine call_all_walk (iter_any hl.isList fun s₂ e2 st hne => ?_)
  subst e2
  refine ⟨_, _, _, _, _, _, _, rfl, Walks.list (A := X.A.in1) (I.ok.hd hc) _ a hne its.toArray, st, truth_bools hb, fun h' tk hk => ?_⟩
  refine ⟨.bl _, H, I.kept fun b o eo => hk b o (fun hmem => ?_) (Heap.get?_push_of_some _ eo), ?_, q⟩
  · rcases List.mem_cons.mp hmem with e1 | hmem
    · exact absurd (e1 ▸ Heap.lt_size eo) (Nat.lt_irrefl _)
    · cases hmem
  · show Value.bool _ = Value.bool _
    rw [← all_range, hb, List.size_toArray, List.length_map]
end

/-! ### == and != of data at any depth: none, bools, ints, texts, lists, tuples -/
mutual
inductive Dp (K : PySem.W.Frag) (H : Hp) : V → PyData → Prop
  | non : Dp K H .non .none
  | bl (b : Bool) : Dp K H (.bl b) (.bool b)
  | int (i : Int) : Dp K H (.int i) (.int i)
  | str (x : Str) : Dp K H (.str x) (.str x)
  | lst {a : Addr} {xs : List V} {ds : List PyData} : SqL K H a xs → DpAll K H xs ds → Dp K H (.ref a) (.list ds)
  | tup {a : Addr} {xs : List V} {ds : List PyData} : SqT K H a xs → DpAll K H xs ds → Dp K H (.ref a) (.tuple ds)
inductive DpAll (K : PySem.W.Frag) (H : Hp) : List V → List PyData → Prop
  | nil : DpAll K H [] []
  | cons {v : V} {vs : List V} {d : PyData} {ds : List PyData} : Dp K H v d → DpAll K H vs ds → DpAll K H (v :: vs) (d :: ds)
end
section
variable {X : Cx} {pins : List (Addr × Obj)} {σ : St} {H : Hp} {s : Shared}
mutual
theorem Dp.reads (I : Inv X pins σ H s) : ∀ (d : PyData) (v : V) (u : Value), Dp X.K H v d → RelV v u → ∃ as, Reads s.heap u d as
  | .none, _, _, h, r => by
    cases h
    cases r
    exact ⟨_, Reads.none⟩
  | .bool b, _, _, h, r => by
    cases h
    cases r
    exact ⟨_, Reads.bool b⟩
  | .int i, _, _, h, r => by
    cases h
    obtain ⟨t, rfl⟩ := r
    exact ⟨_, Reads.int i t⟩
  | .str x, _, _, h, r => by
    cases h
    obtain ⟨t, rfl⟩ := r
    exact ⟨_, Reads.str x t⟩
  | .list ds, _, _, h, r => by
    cases h with
    | lst hs ha =>
      cases r
      obtain ⟨its, rv, ⟨o, n, ho, hc, _, hd⟩, _⟩ := I.list hs
      obtain ⟨as, hr⟩ := Dp.readsAll I ds _ its ha rv
      exact ⟨_, Reads.list ho hc hd hr⟩
  | .tuple ds, _, _, h, r => by
    cases h with
    | tup hs ha =>
      cases r
      obtain ⟨its, rv, ⟨o, ho, hc, n, hd⟩, _⟩ := I.tuple hs
      obtain ⟨as, hr⟩ := Dp.readsAll I ds _ its ha rv
      exact ⟨_, Reads.tuple ho hc hd hr⟩
  | .dict _, _, _, h, _ => by cases h
theorem Dp.readsAll (I : Inv X pins σ H s) : ∀ (ds : List PyData) (vs : List V) (us : List Value), DpAll X.K H vs ds → Vals vs us → ∃ as, ReadsAll s.heap us ds as
  | [], _, _, h, r => by
    cases h
    cases r
    exact ⟨_, ReadsAll.nil⟩
  | d :: ds, _, _, h, r => by
    cases h with
    | cons h1 h2 =>
      cases r with
      | cons r1 r2 =>
        obtain ⟨as, q1⟩ := Dp.reads I d _ _ h1 r1
        obtain ⟨bs, q2⟩ := Dp.readsAll I ds _ _ h2 r2
        exact ⟨_, ReadsAll.cons q1 q2⟩
end
end
section
variable {X : Cx}
def rEqD (K : PySem.W.Frag) : R2 := fun x y H Q => ∃ d e, Dp K H x d ∧ Dp K H y e ∧ SeqAt.shaped d = true ∧ SeqAt.shaped e = true ∧ Q (.bl (PyData.eqv d e)) H
theorem op_eqD (hu : X.A.units + 64 < cLine) : OpR X (compareOp .Eq) (rEqD X.K) := by
  intro pins s σ H x y v u Q I rx ry h
  obtain ⟨d, e, hd, he, sd, se, q⟩ := h
  obtain ⟨as, r1⟩ := Dp.reads I d x v hd rx
  obtain ⟨bs, r2⟩ := Dp.reads I e y u he ry
  exact SeqAt.compareEq_shaped r1 r2 sd se hu ⟨.bl _, H, I, rfl, q⟩
end
end L2

namespace L2
open PySem PySem.Spec PyProof.Rows
abbrev CellAt (h : Heap) (c : Addr) (v : Option Value) : Prop := h.IsCell c v
def relS (scope sc : Scope) : Scope :=
  { scope with names := scope.names.map fun (n, k) => if (k == .free && sc.kind == .function && sc.names.lookup n == some .cell) then (n, .cell) else (n, k) }

def cloFrom (cells : List (Str × Addr)) : List (Str × NameKind) → List (Str × Addr) → List (Str × Addr)
  | [], acc => acc
  | (n, k) :: r, acc => if k == .free then cloFrom cells r ((n, (cells.lookup n).getD 0) :: acc) else cloFrom cells r acc

theorem closure_loop (env : Env) (f : Str × NameKind → List (Str × Addr) → Sem (ForInStep (List (Str × Addr))))
    (hf : ∀ n k c, f (n, k) c = if k == .free then (do let a ← cellOf env n; pure (.yield ((n, a) :: c))) else pure (.yield c)) :
    ∀ (names : List (Str × NameKind)) (acc : List (Str × Addr)), (∀ y ∈ names, y.2 = .free → ∃ c, env.cells.lookup y.1 = some c) → forIn names acc f = pure (cloFrom env.cells names acc)
  | [], acc, _ => by rw [List.forIn_nil]; rfl
  | (n, k) :: r, acc, h => by
    rw [List.forIn_cons, hf]
    have ih := fun acc => closure_loop env f hf r acc fun y hy => h y (List.mem_cons_of_mem _ hy)
    unfold cloFrom
    by_cases hk : (k == NameKind.free) = true
    · rw [if_pos hk, if_pos hk]
      obtain ⟨c, hc⟩ := h (n, k) List.mem_cons_self (by simpa using hk)
      have e : cellOf env n = pure c := by unfold cellOf; rw [hc]
      rw [e]
      have e2 : (env.cells.lookup n).getD 0 = c := by rw [hc]; rfl
      rw [e2]
      exact ih _
    · rw [if_neg hk, if_neg hk]
      exact ih _
theorem closure_ok {scope : Scope} {env : Env} (h : ∀ y ∈ scope.names, y.2 = .free → ∃ c, env.cells.lookup y.1 = some c) : closureFor scope env = pure (cloFrom env.cells scope.names []) := by
  simp only [closureFor]
  rw [closure_loop env _ (fun n k c => rfl) scope.names [] h]
  rfl

theorem mem_lookup {α : Type} : ∀ {l : List (Str × α)} {n : Str} {c : α}, (n, c) ∈ l → ∃ c', l.lookup n = some c'
  | (k, v) :: r, n, c, h => by
    rw [List.lookup_cons]
    cases hb : n == k with
    | true => exact ⟨_, rfl⟩
    | false =>
      rcases List.mem_cons.mp h with e | h
      · cases e; simp at hb
      · exact mem_lookup h

theorem cloFrom_mem {cells : List (Str × Addr)} : ∀ {names : List (Str × NameKind)} {acc : List (Str × Addr)} {n : Str} {c : Addr}, (n, c) ∈ cloFrom cells names acc → (n, c) ∈ acc ∨ ((n, .free) ∈ names ∧ c = (cells.lookup n).getD 0)
  | [], _, _, _, h => .inl h
  | (m, k) :: r, acc, n, c, h => by
    unfold cloFrom at h
    split at h
    · rename_i hk
      have hk : k = .free := by simpa using hk
      rcases cloFrom_mem h with h | ⟨h1, h2⟩
      · rcases List.mem_cons.mp h with e | h
        · cases e; exact .inr ⟨hk ▸ List.mem_cons_self, rfl⟩
        · exact .inl h
      · exact .inr ⟨List.mem_cons_of_mem _ h1, h2⟩
    · rcases cloFrom_mem h with h | ⟨h1, h2⟩
      · exact .inl h
      · exact .inr ⟨List.mem_cons_of_mem _ h1, h2⟩
theorem cloFrom_acc {cells : List (Str × Addr)} : ∀ {names : List (Str × NameKind)} {acc : List (Str × Addr)} {p : Str × Addr}, p ∈ acc → p ∈ cloFrom cells names acc
  | [], _, _, h => h
  | (m, k) :: r, acc, p, h => by
    unfold cloFrom
    split
    · exact cloFrom_acc (List.mem_cons_of_mem _ h)
    · exact cloFrom_acc h
theorem cloFrom_has {cells : List (Str × Addr)} : ∀ {names : List (Str × NameKind)} {acc : List (Str × Addr)} {n : Str}, (n, .free) ∈ names → (n, (cells.lookup n).getD 0) ∈ cloFrom cells names acc
  | (m, k) :: r, acc, n, h => by
    unfold cloFrom
    rcases List.mem_cons.mp h with e | h
    · cases e
      exact cloFrom_acc List.mem_cons_self
    · split
      · exact cloFrom_has h
      · exact cloFrom_has h

theorem cells_mem : ∀ {names : List (Str × NameKind)} {h : Heap} {acc : List (Str × Addr)} {x : Str} {c : Addr}, (x, c) ∈ cellsFrom h.objs.size names acc →
    (x, c) ∈ acc ∨ ((x, .cell) ∈ names ∧ h.objs.size ≤ c ∧ CellAt (pushCells h names) c none)
  | [], _, _, _, _, h => .inl h
  | (n, k) :: r, h, acc, x, c, hm => by
    unfold cellsFrom at hm
    unfold pushCells
    split at hm
    · rename_i hk
      rw [if_pos hk]
      have hk : k = .cell := by simpa using hk
      rw [← Heap.size_push h { cls := .type "cell", data := .cell none }] at hm
      rcases cells_mem hm with hm | ⟨h1, h2, h3⟩
      · rcases List.mem_cons.mp hm with e | hm
        · cases e
          exact .inr ⟨hk ▸ List.mem_cons_self, Nat.le_refl _, _, pushCells_keeps r _ _ _ (Heap.get?_push_size _ rfl), rfl⟩
        · exact .inl hm
      · rw [Heap.size_push] at h2
        exact .inr ⟨List.mem_cons_of_mem _ h1, Nat.le_of_succ_le h2, h3⟩
    · rename_i hk
      rw [if_neg hk]
      rcases cells_mem hm with hm | ⟨h1, h2, h3⟩
      · exact .inl hm
      · exact .inr ⟨List.mem_cons_of_mem _ h1, h2, h3⟩
theorem cells_acc : ∀ {names : List (Str × NameKind)} {n : Nat} {acc : List (Str × Addr)} {p : Str × Addr}, p ∈ acc → p ∈ cellsFrom n names acc
  | [], _, _, _, h => h
  | (m, k) :: r, n, acc, p, h => by
    unfold cellsFrom
    split
    · exact cells_acc (List.mem_cons_of_mem _ h)
    · exact cells_acc h
theorem cells_has : ∀ {names : List (Str × NameKind)} {n : Nat} {acc : List (Str × Addr)} {x : Str}, (x, .cell) ∈ names → ∃ c, (x, c) ∈ cellsFrom n names acc
  | (m, k) :: r, n, acc, x, h => by
    unfold cellsFrom
    rcases List.mem_cons.mp h with e | h
    · cases e
      exact ⟨n, cells_acc List.mem_cons_self⟩
    · split
      · exact cells_has h
      · exact cells_has h
theorem cells_inj : ∀ {names : List (Str × NameKind)} {h : Heap} {acc : List (Str × Addr)} {x y : Str} {c : Addr}, (∀ p ∈ acc, p.2 < h.objs.size) → (∀ x y c, (x, c) ∈ acc → (y, c) ∈ acc → x = y) →
    (x, c) ∈ cellsFrom h.objs.size names acc → (y, c) ∈ cellsFrom h.objs.size names acc → x = y
  | [], _, _, _, _, _, _, hi, h1, h2 => hi _ _ _ h1 h2
  | (n, k) :: r, h, acc, x, y, c, hl, hi, h1, h2 => by
    unfold cellsFrom at h1 h2
    split at h1
    · rename_i hk
      rw [if_pos hk] at h2
      rw [← Heap.size_push h { cls := .type "cell", data := .cell none }] at h1 h2
      refine cells_inj (h := h.push _) (fun p hp => ?_) (fun x y c a b => ?_) h1 h2
      · rw [Heap.size_push]
        rcases List.mem_cons.mp hp with rfl | hp
        · exact Nat.lt_succ_self _
        · exact Nat.lt_succ_of_lt (hl p hp)
      · rcases List.mem_cons.mp a with e | a <;> rcases List.mem_cons.mp b with e' | b
        · cases e; cases e'; rfl
        · cases e; exact absurd (hl _ b) (Nat.lt_irrefl _)
        · cases e'; exact absurd (hl _ a) (Nat.lt_irrefl _)
        · exact hi _ _ _ a b
    · rename_i hk
      rw [if_neg hk] at h2
      exact cells_inj hl hi h1 h2

theorem newEnv_comp {M : Model} {A : Around} {E : Value → Shared → Prop} {s : Shared} {scope : Scope} {globals : Addr} {closure : List (Str × Addr)} {qual : Str} {func : Option Addr} {code : Value} {around : Env} {builtins : Addr} {Q : Env → Shared → Prop}
    (h : Q (newEnv scope s.heap.objs.size globals (cellsFrom (s.heap.objs.size + 1) scope.names closure) qual func code (some around) builtins)
      { s with heap := pushCells (s.heap.push { cls := .type "dict", data := .dict #[] }) scope.names }) :
    wpAny M A (newFunctionEnv scope globals closure [] qual func code (some around) builtins) Q E s := by
  simp only [newFunctionEnv, Option.isSome_some, if_true]
  refine wpAny_bind (wpAny_alloc ?_)
  refine wpAny_bind (wpAny_layCells _ (fun n k c => rfl) scope.names closure _ _ ?_)
  rw [show ({ s with heap := s.heap.push { cls := .type "dict", data := .dict #[] } } : Shared).heap.objs.size = s.heap.objs.size + 1 from Heap.size_push ..]
  rw [List.forIn_nil]
  exact wpAny_bind (wpAny_pure (wpAny_pure h))

/-- every name of the written scope, in the scope that runs -/
theorem lookup_relS {sc : Scope} : ∀ {names : List (Str × NameKind)} {x : Str} {k : NameKind},
    (names.map fun (n, k) => if (k == NameKind.free && sc.kind == .function && sc.names.lookup n == some .cell) then (n, NameKind.cell) else (n, k)).lookup x = some k →
    ∃ k', names.lookup x = some k' ∧ (k = k' ∨ (k' = .free ∧ k = .cell))
  | [], _, _, h => by simp at h
  | (n, k₀) :: r, x, k, h => by
    have ih := @lookup_relS sc r x k
    have h' : List.lookup x ((if (k₀ == NameKind.free && sc.kind == .function && sc.names.lookup n == some .cell) = true then (n, NameKind.cell) else (n, k₀)) :: (r.map _)) = some k := h
    cases hx : x == n with
    | true =>
      simp only [List.lookup_cons, hx]
      by_cases hc : (k₀ == NameKind.free && sc.kind == .function && sc.names.lookup n == some .cell) = true
      · rw [if_pos hc] at h'
        simp only [List.lookup_cons, hx] at h'
        cases h'
        simp only [Bool.and_eq_true, beq_iff_eq] at hc
        exact ⟨k₀, rfl, .inr ⟨hc.1.1, rfl⟩⟩
      · rw [if_neg hc] at h'
        simp only [List.lookup_cons, hx] at h'
        cases h'
        exact ⟨_, rfl, .inl rfl⟩
    | false =>
      simp only [List.lookup_cons, hx]
      by_cases hc : (k₀ == NameKind.free && sc.kind == .function && sc.names.lookup n == some .cell) = true
      · rw [if_pos hc] at h'
        simp only [List.lookup_cons, hx] at h'
        exact ih h'
      · rw [if_neg hc] at h'
        simp only [List.lookup_cons, hx] at h'
        exact ih h'
/-- the names of a comprehension's block: its own (with their places in N), or captured -/
structure BlkOk (N : List Str) (sc scope : Scope) (own : List (Str × Nat)) : Prop where
  kind : scope.kind = .function
  uniq : ∀ y ∈ scope.names, scope.names.lookup y.1 = some y.2
  ix : ∀ p ∈ own, N[p.2]? = some p.1
  free : ∀ y ∈ scope.names, y.2 = .free → sc.names.lookup y.1 = some .cell ∨ sc.names.lookup y.1 = some .free
  own : ∀ y ∈ scope.names, y.2 = .local ∨ y.2 = .cell → y.1 ∈ own.map (·.1) ∨ y.1 ∉ N
/-- the slots of the block's own names forgotten -/
def wipe (σ : St) : List Nat → St
  | [] => σ
  | v :: vs => (wipe σ vs).set v none
theorem wipe_length (σ : St) : ∀ vs : List Nat, (wipe σ vs).length = σ.length
  | [] => rfl
  | v :: vs => by unfold wipe; rw [List.length_set, wipe_length σ vs]
theorem wipe_some {σ : St} {i : Nat} {x : V} : ∀ {vs : List Nat}, (wipe σ vs)[i]? = some (some x) → σ[i]? = some (some x) ∧ i ∉ vs
  | [], h => ⟨h, by simp⟩
  | v :: vs, h => by
    unfold wipe at h
    by_cases hi : v = i
    · subst hi
      by_cases hv : v < (wipe σ vs).length
      · rw [List.getElem?_set_self hv] at h; cases h
      · rw [List.getElem?_eq_none (by simpa using hv)] at h; cases h
    · rw [List.getElem?_set_ne hi] at h
      obtain ⟨h1, h2⟩ := wipe_some h
      exact ⟨h1, by simp only [List.mem_cons, not_or]; exact ⟨fun e => hi e.symm, h2⟩⟩

/-- the context of a block that starts at s, its iterator's objects at fp -/
abbrev Cx.blk (X : Cx) (s : Shared) (H : Hp) (scope : Scope) (cenv : Env) (fp : List Addr) : Cx := { X with s_0 := s, H_0 := H, env := cenv, outer := X.stack, ex := fp, fn := fun x => scope.names.lookup x == some .cell, pn := [], xe := fun _ _ => False }
section
variable {X : Cx} {pins : List (Addr × Obj)} {σ : St} {H : Hp} {s : Shared}
theorem block_start {scope : Scope} {own : List (Str × Nat)} {fp : List Addr} (I : Inv X pins σ H s) (ok : BlkOk X.N X.env.scope scope own) (hN : X.N.Nodup) (hfp : ∀ b ∈ fp, FpOk X pins H b ∧ b < s.heap.objs.size) :
    Inv (X.blk s H scope (compEnvC scope (cellsFrom (s.heap.objs.size + 1) scope.names (cloFrom X.env.cells scope.names [])) s.heap.objs.size X.env) fp) [] (wipe σ (own.map (·.2))) H { s with heap := pushCells (s.heap.push { cls := .type "dict", data := .dict #[] }) scope.names } := by
  have hfree : ∀ y ∈ scope.names, y.2 = .free → ∃ c, X.env.cells.lookup y.1 = some c := fun y hy e => by
    rcases ok.free y hy e with k | k
    · exact I.ok.has _ (.inl k)
    · exact I.ok.has _ (.inr k)
  generalize hcenv : compEnvC scope (cellsFrom (s.heap.objs.size + 1) scope.names (cloFrom X.env.cells scope.names [])) s.heap.objs.size X.env = cenv
  have kp : ∀ b o, s.heap.get? b = some o → (pushCells (s.heap.push { cls := .type "dict", data := .dict #[] }) scope.names).get? b = some o := fun b o e => pushCells_keeps _ _ _ _ (Heap.get?_push_of_some _ e)
  have hL : cenv.locals = s.heap.objs.size := by rw [← hcenv]; rfl
  have hcl : cenv.cells = cellsFrom (s.heap.objs.size + 1) scope.names (cloFrom X.env.cells scope.names []) := by rw [← hcenv]; rfl
  have hsc : cenv.scope = relS scope X.env.scope := by rw [← hcenv]; rfl
  rw [← Heap.size_push s.heap { cls := .type "dict", data := .dict #[] }] at hcl
  have cm : ∀ {y c}, (y, c) ∈ cloFrom X.env.cells scope.names [] → X.env.cells.lookup y = some c ∧ c < s.heap.objs.size := fun {y c} hm => by
    rcases cloFrom_mem hm with hm | ⟨h1, rfl⟩
    · cases hm
    · obtain ⟨c, hc⟩ := hfree _ h1 rfl
      rw [hc]
      obtain ⟨w, z⟩ := I.cell _ _ hc
      exact ⟨rfl, z.lt⟩
  have mem : ∀ {y c}, cenv.cells.lookup y = some c → (X.env.cells.lookup y = some c ∧ c < s.heap.objs.size) ∨ (s.heap.objs.size + 1 ≤ c ∧ CellAt (pushCells (s.heap.push { cls := .type "dict", data := .dict #[] }) scope.names) c none) := fun {y c} e => by
    rw [hcl] at e
    rcases cells_mem (PySem.mem_of_lookup e) with hm | ⟨_, h2, h3⟩
    · exact .inl (cm hm)
    · rw [Heap.size_push] at h2; exact .inr ⟨h2, h3⟩
  have look : ∀ {y}, scope.names.lookup y = some .free → ∃ c, cenv.cells.lookup y = some c ∧ X.env.cells.lookup y = some c := fun {y} hl => by
    have hy : (y, NameKind.free) ∈ scope.names := PySem.mem_of_lookup hl
    obtain ⟨c', e'⟩ := mem_lookup (cells_acc (names := scope.names) (n := (s.heap.push { cls := .type "dict", data := .dict #[] }).objs.size) (cloFrom_has (cells := X.env.cells) (acc := []) hy))
    rw [← hcl] at e'
    refine ⟨c', e', ?_⟩
    rw [hcl] at e'
    rcases cells_mem (PySem.mem_of_lookup e') with hm | ⟨h1, _, _⟩
    · exact (cm hm).1
    · have := ok.uniq _ h1
      rw [hl] at this; cases this
  have okB : (X.blk s H scope cenv fp).Ok := by
    refine ⟨I.ok.mod, by show cenv.scope.kind = _; rw [hsc]; exact ok.kind, by show cenv.globals = _; rw [← hcenv]; exact I.ok.glob, by show cenv.builtins = _; rw [← hcenv]; exact I.ok.blt, by show s.heap.objs.size ≤ cenv.locals; rw [hL]; exact Nat.le_refl _,
      fun y z c e1 e2 => ?_, fun y hy => ?_, fun y c z e => ?_, I.ok.hd, I.ok.frames, .inl rfl, fun b hb => ⟨?_, fun y c e z => ?_⟩, I.bs, Nat.le_trans I.ok.bsz I.sz, fun b o e hb => ?_, fun b hb z => ?_, I.stack, I.stkFree⟩
    · have e1 : cenv.cells.lookup y = some c := e1
      have e2 : cenv.cells.lookup z = some c := e2
      rw [hcl] at e1 e2
      refine cells_inj (fun p hp => ?_) (fun y z c a b => I.ok.inj y z c (cm a).1 (cm b).1) (PySem.mem_of_lookup e1) (PySem.mem_of_lookup e2)
      rw [Heap.size_push]
      exact Nat.lt_succ_of_lt (cm (y := p.1) (c := p.2) hp).2
    · show ∃ c, cenv.cells.lookup y = some c
      have key : ∀ k, cenv.kindOf y = some k → (k = .cell ∨ k = .free) → ∃ c, cenv.cells.lookup y = some c := fun k hk hk' => by
        unfold Env.kindOf at hk
        rw [hsc] at hk
        obtain ⟨k', e, r⟩ := lookup_relS hk
        have : k' = .cell ∨ k' = .free := by
          rcases r with rfl | ⟨rfl, _⟩
          · exact hk'
          · exact .inr rfl
        rcases this with rfl | rfl
        · obtain ⟨c, hm⟩ := cells_has (n := (s.heap.push { cls := .type "dict", data := .dict #[] }).objs.size) (acc := cloFrom X.env.cells scope.names []) (PySem.mem_of_lookup e)
          obtain ⟨c', e'⟩ := mem_lookup hm
          exact ⟨c', by rw [hcl]; exact e'⟩
        · obtain ⟨c, h1, _⟩ := look e
          exact ⟨c, h1⟩
      rcases hy with hy | hy
      · exact key _ hy (.inl rfl)
      · exact key _ hy (.inr rfl)
    · have z : (scope.names.lookup y == some NameKind.cell) = true := z
      have z : scope.names.lookup y = some .cell := by simpa using z
      have e : cenv.cells.lookup y = some c := e
      rw [hcl] at e
      rcases cells_mem (PySem.mem_of_lookup e) with hm | ⟨_, h2, _⟩
      · rcases cloFrom_mem hm with hm | ⟨h1, _⟩
        · cases hm
        · have q := ok.uniq _ h1
          rw [z] at q; cases q
      · rw [Heap.size_push] at h2
        exact Nat.le_of_succ_le h2
    · show b ≠ cenv.locals
      rw [hL]; exact Nat.ne_of_lt (hfp b hb).2
    · have e : cenv.cells.lookup y = some c := e
      rcases mem e with ⟨h1, _⟩ | ⟨h1, _⟩
      · exact (hfp b hb).1.2.2.2.2.1 y c h1 z
      · have h2 : s.heap.objs.size + 1 ≤ b := by rw [← z]; exact h1
        exact absurd (Nat.lt_of_lt_of_le (hfp b hb).2 (Nat.le_of_succ_le h2)) (Nat.lt_irrefl _)
    · rcases (hfp b hb).1.2.2.2.1 with z | z
      · exact I.ok.noex b o e z
      · exact absurd (Nat.lt_of_lt_of_le (Heap.lt_size e) (Nat.le_trans I.ok.bsz z)) (Nat.lt_irrefl _)
    · rcases List.mem_cons.mp (I.stkSub b z) with z | z
      · exact (hfp b hb).1.2.1 z
      · exact (hfp b hb).1.2.2.1 z
  refine ⟨okB, rfl, I.bare, Un.kept kp, ⟨fun _ => none, ?_, fun i y av e1 e2 e3 => ?_⟩, fun y c e => ?_, ?_, fun y c e => ?_, fun p hp => ?_, I.hok.kept kp, by rw [wipe_length]; exact I.len⟩
  · show Heap.Ns _ cenv.locals _
    rw [hL]
    exact Heap.Ns.keeps (Heap.Ns.new ..) fun b o e => pushCells_keeps _ _ _ _ e
  · obtain ⟨e2, hne⟩ := wipe_some e2
    have hfr : scope.names.lookup y = some .free ∧ (cenv.kindOf y = some .cell ∨ cenv.kindOf y = some .free) := by
      have key : ∀ k, cenv.scope.names.lookup y = some k → k = .local ∨ k = .cell ∨ k = .free → scope.names.lookup y = some .free ∧ (cenv.kindOf y = some .cell ∨ cenv.kindOf y = some .free) := fun k hk hk' => by
        have hk0 := hk
        rw [hsc] at hk
        obtain ⟨k', e, r⟩ := lookup_relS hk
        have no : ¬ (k' = .local ∨ k' = .cell) := fun hh => by
          rcases ok.own _ (PySem.mem_of_lookup e) hh with e' | e'
          · obtain ⟨p, hp, hpy⟩ := List.mem_map.mp e'
            have e3 := ok.ix p hp
            have : p.1 = y := hpy
            rw [this] at e3
            exact hne (List.mem_map.mpr ⟨p, hp, nodup_ix hN e3 e1⟩)
          · exact e' (List.mem_of_getElem? e1)
        rcases r with rfl | ⟨rfl, rfl⟩
        · rcases hk' with rfl | rfl | rfl
          · exact absurd (.inl rfl) no
          · exact absurd (.inr rfl) no
          · exact ⟨e, .inr hk0⟩
        · exact ⟨e, .inl hk0⟩
      have e3 : Vis cenv.scope y := e3
      rcases e3 with e3 | e3 | e3
      · exact key _ e3 (.inl rfl)
      · exact key _ e3 (.inr (.inl rfl))
      · exact key _ e3 (.inr (.inr rfl))
    obtain ⟨m, hn, hl⟩ := I.loc
    have hvis : Vis X.env.scope y := (ok.free _ (PySem.mem_of_lookup hfr.1) rfl).elim (fun k => .inr (.inl k)) (fun k => .inr (.inr k))
    obtain ⟨w, r, q⟩ := hl i y av e1 e2 hvis
    refine ⟨w, r, .inr ⟨hfr.2, ?_⟩⟩
    obtain ⟨c, h1, h2⟩ := look hfr.1
    rcases q with ⟨k, _⟩ | ⟨_, c', e', z⟩
    · have k : X.env.scope.names.lookup y = some .local := k
      rcases ok.free _ (PySem.mem_of_lookup hfr.1) rfl with k' | k' <;> rw [show X.env.scope.names.lookup y = _ from k'] at k <;> cases k
    · rw [h2] at e'; cases e'
      exact ⟨c, h1, z.keeps kp⟩
  · have e : cenv.cells.lookup y = some c := e
    rcases mem e with ⟨h1, _⟩ | ⟨_, z⟩
    · obtain ⟨w, z⟩ := I.cell y c h1
      exact ⟨w, z.keeps kp⟩
    · exact ⟨_, z⟩
  · show H cenv.locals = none
    rw [hL]; exact I.hok.fresh (Nat.le_refl _)
  · have e : cenv.cells.lookup y = some c := e
    rcases mem e with ⟨h1, _⟩ | ⟨h1, _⟩
    · exact I.freeC y c h1
    · exact I.hok.fresh (Nat.le_of_succ_le h1)
  · exact absurd (show p ∈ ([] : List (Addr × Obj)) ++ [] from hp) (by simp)

/-- an item appended to a tracked list -/
theorem app_ok {E : Value → Shared → Prop} {D : Addr} {xs : List V} {y : V} {v : Value} {Q : Value → Shared → Prop} (I : Inv X pins σ H s) (hD : H D = some (.lst xs)) (hz : xs.length < sizeLine) (r : RelV y v)
    (h : ∀ s', Inv X pins σ (upd H D (.lst (xs ++ [y]))) s' → Q .none s') : wpAny (model X.prog X.w) X.A (call (.builtin "list.append") [.ref D, v]) Q E s := by
  obtain ⟨hz', its, n, ri, e⟩ := I.hok D _ hD
  have hl := ri.length
  refine append_at (hsz := by rw [List.size_toArray]; omega) e fun h' sb ho' => ?_
  refine h { s with heap := h' } (I.write (t' := s.toks) (by rw [hD]; trivial) (.inl rfl) (fun b u hb q => (sb.2 b hb).trans q) ⟨_, ho'⟩ ⟨by rw [List.length_append]; exact hz, its ++ [v], n + 1, ri.append (.cons r .nil), ?_⟩)
  rw [ho']
  simp

/-- a clause's tests -/
def PTs (X : Cx) (ifs : List Expr) (t : TT) : Prop :=
  ∀ (pins : List (Addr × Obj)) (s : Shared) (σ : St) (H : Hp) (Q : Bool → Hp → Prop), Inv X pins σ H s → t σ H Q →
    wpAny (model X.prog X.w) X.A (forIn ifs true fun c r => if r = true then do let ok ← isTrue c X.env (eval c X.env); pure (ForInStep.yield ok) else pure (ForInStep.yield r)) (TP X pins σ Q) X.xe s
def tYes : TT := fun _ H Q => Q true H
theorem pts_nil : PTs X [] tYes := fun _ _ _ H _ I h => wpAny_tests_nil ⟨H, I, h⟩
theorem pts_one {c : Expr} {t : TT} (h : PT X c t) : PTs X [c] t := fun pins s σ H Q I hw => wpAny_tests_one (h pins s σ H Q I hw)
end

theorem thnF {α : Type} {t : Sem α} {Q Q' : α → Shared → Prop} {M : Model} {A : Around} {E : Value → Shared → Prop} {s : Shared} (h : wpAny M A t Q (fun _ _ => False) s) (hQ : ∀ a s, Q a s → Q' a s) : wpAny M A t Q' E s := wpAny_mono h hQ fun _ _ z => False.elim z

/-- the loop of a list comprehension's block, the target of any form (codeAny_compLoop_tests asks a target that no tuple goes to; statement and proof follow it, PyProof/CompMap.lean:41-61, with the step letOwnedTupleGo kept) -/
theorem compLoop_any {prog : Program} {w : World} {A : Around} {R : Result → Shared → Prop} {s : Shared} {elt target iter : Expr} {ifs : List Expr} {scope : Scope} {pos : Pos} {it acc : Value} {env : Env} (I : Nat → Shared → Prop)
    (turn : ∀ n s, I n s → wpAny (model prog w) A (pyNext it) (fun r s₁ => match r with
      | none => R (.ok .next) s₁
      | some v => wpAny (model prog w) A (letOwnedTupleGo target it v) (fun _ s₁' => wpAny (model prog w) A (assign target env v) (fun _ s₂ =>
          wpAny (model prog w) A (forIn ifs true fun c r => if r = true then do let ok ← isTrue c env (eval c env); pure (ForInStep.yield ok) else pure (ForInStep.yield r)) (fun ok s₃ =>
            if ok = true then wpAny (model prog w) A (eval elt env) (fun x s₄ =>
              wpAny (model prog w) A (call (.builtin "list.append") [acc, x]) (fun _ s₅ => ∃ m, m < n ∧ I m s₅) (notedBy (model prog w) A env fun e s' => R (.error e) s') s₄) (notedBy (model prog w) A env fun e s' => R (.error e) s') s₃
            else ∃ m, m < n ∧ I m s₃) (notedBy (model prog w) A env fun e s' => R (.error e) s') s₂) (notedBy (model prog w) A env fun e s' => R (.error e) s') s₁') (notedBy (model prog w) A env fun e s' => R (.error e) s') s₁) (notedBy (model prog w) A env fun e s' => R (.error e) s') s)
    (n : Nat) (h : I n s) :
    codeAny (model prog w) A (.compLoop (.ListComp elt [⟨target, iter, ifs, 0⟩] scope pos) 0 it acc env) R s := by
  refine codeAny_loop rfl I (fun n s hI => ?_) n h
  show wpAny _ A ((compTurn (.ListComp elt [⟨target, iter, ifs, 0⟩] scope pos) 0 it acc env).onRaise (fun x => do noteFrame x env; theTreesLotGoes x)) _ _ s
  refine wpAny_noted ?_
  rw [compTurn_list]
  refine wpAny_bind (wpAny_standAt (wpAny_bind (wpAny_mono (turn n s hI) (fun r s₁ h₁ => ?_) fun _ _ h' => h')))
  cases r with
  | none => exact wpAny_pure h₁
  | some v =>
    refine wpAny_bind (wpAny_mono h₁ (fun _ s₁' h₁' => ?_) fun _ _ h' => h')
    refine wpAny_bind (wpAny_mono h₁' (fun _ s₂ h₂ => wpAny_bind (wpAny_mono h₂ (fun ok s₃ h₃ => ?_) fun _ _ h' => h')) fun _ _ h' => h')
    cases ok with
    | false => exact wpAny_pure ⟨rfl, h₃⟩
    | true =>
      exact wpAny_bind (wpAny_bind (wpAny_mono h₃ (fun x s₄ h₄ => wpAny_bind (wpAny_mono h₄ (fun _ s₅ h₅ => wpAny_pure (wpAny_pure ⟨rfl, h₅⟩)) fun _ _ h' => h')) fun _ _ h' => h'))

section
variable {X : Cx}
/-- [elt for target in iter if ..]: D the new list; W by the turn and a measure, Nx what a turn is to reach -/
def tLc (wi : TI) (g : TG) (tt : TT) (te : TE) (vs : List Nat) : TE := fun σ H Q => wi σ H fun J H1 => ∀ D, H1 D = none → ∃ W : Nat → Nat → Hp → Prop, (∃ m, W 0 m (upd H1 D (.lst []))) ∧ ∀ i m H, W i m H →
  (J.stop i H ∧ Q (.ref D) H) ∨ (J.go i H ∧ ∃ Nx : Hp → Prop, (∀ H', Nx H' → ∃ m', m' < m ∧ W (i + 1) m' H') ∧ ∀ x H', J.yld i H x H' → g x (wipe σ vs) H' fun σ2 H2 => wipe σ2 vs = wipe σ vs ∧ tt σ2 H2 fun b H3 =>
    if b = true then te σ2 H3 fun y H4 => ∃ acc, H4 D = some (.lst acc) ∧ acc.length < sizeLine ∧ Nx (upd H4 D (.lst (acc ++ [y]))) else Nx H3)
theorem lc_core {pins : List (Addr × Obj)} {s : Shared} {σ : St} {H : Hp} {Q : VK} {elt tg iter : Expr} {ifs : List Expr} {scope : Scope} {own : List (Str × Nat)} {pos pos' : Pos} {wi : TI} {g : TG} {tt : TT} {te : TE} {use : Option (Value → Sem Unit)} {Qf : Value → Shared → Prop}
    (hc : X.calm = true) (hN : X.N.Nodup) (I : Inv X pins σ H s) (hi : PI X tg iter wi) (ok : BlkOk X.N X.env.scope scope own)
    (hg : ∀ (s : Shared) (H : Hp) (C : Addr) (cl : List (Str × Addr)) (fp : List Addr), PG (X.blk s H scope (compEnvC scope cl C X.env) fp) tg g) (ht : ∀ (s : Shared) (H : Hp) (C : Addr) (cl : List (Str × Addr)) (fp : List Addr), PTs (X.blk s H scope (compEnvC scope cl C X.env) fp) ifs tt)
    (he : ∀ (s : Shared) (H : Hp) (C : Addr) (cl : List (Str × Addr)) (fp : List Addr), PE (X.blk s H scope (compEnvC scope cl C X.env) fp) elt te) (hs : ∀ x, foldedSetIterable iter X.env x = pure x)
    (h : tLc wi g tt te (own.map (·.2)) σ H Q)
    (hRR : ∀ D C s' m H', Inv X pins σ H' s' → Q (.ref D) H' → s'.heap.Ns C m → FpOk X pins H' C → compPost (model X.prog X.w) X.A X.xe use Qf (.ref D) C (.ok .next) s') :
    wpAny (model X.prog X.w) X.A (comprehension (.ListComp elt [⟨tg, iter, ifs, 0⟩] scope pos) scope X.env pos' (newList []) false (eval iter X.env) use) Qf X.xe s := by
  have hfree : ∀ y ∈ scope.names, y.2 = .free → ∃ c, X.env.cells.lookup y.1 = some c := fun y hy e => by
    rcases ok.free y hy e with k | k
    · exact I.ok.has _ (.inl k)
    · exact I.ok.has _ (.inr k)
  refine wpAny_comprehension_free (use := use) rfl hs (closure_ok hfree) ok.kind (fun y hy e => by rw [ok.uniq y hy, e])
    (thn (hi pins s σ H _ I h) fun xv s1 hx => thn hx fun itv s2 h2 => ?_)
  obtain ⟨it, fp, tn, J, H2, e, I2, T, st2, f2, q⟩ := h2
  subst e
  refine wpAny_newObj_type (newEnv_comp ?_) (by show 0 ≤ sizeLine; decide)
  generalize hD : s2.heap.objs.size = D
  have hDn : H2 D = none := I2.hok.fresh (Nat.le_of_eq hD)
  obtain ⟨W, ⟨m0, w0⟩, turn⟩ := q D hDn
  -- the new list
  generalize hs3 : ({ s2 with heap := s2.heap.push { cls := .type "list", data := .seq ([] : List Value).toArray } } : Shared) = s3
  have I3 : Inv X pins σ (upd H2 D (.lst [])) s3 := by
    rw [← hs3]
    refine I2.laid (t' := s2.toks) (fun b o e => Heap.get?_push_of_some _ e) (Nat.le_of_eq hD) ⟨Nat.zero_le _, [], 0, .nil, ?_⟩
    rw [← hD]
    exact Heap.get?_push_size _ rfl
  have h3 : s3.heap = s2.heap.push { cls := .type "list", data := .seq ([] : List Value).toArray } := by rw [← hs3]
  have sz : ∀ b ∈ fp, b < s2.heap.objs.size := fun b hb => by
    obtain ⟨o, e, _⟩ := T.obj _ _ st2 b hb
    exact Heap.lt_size e
  have f3 : ∀ b ∈ fp, FpOk X pins (upd H2 D (.lst [])) b ∧ b < s3.heap.objs.size := fun b hb => by
    have hlt := sz b hb
    refine ⟨⟨?_, (f2 b hb).2⟩, by rw [h3, Heap.size_push]; exact Nat.lt_succ_of_lt hlt⟩
    rw [upd_ne (by rw [← hD]; exact Nat.ne_of_lt hlt)]
    exact (f2 b hb).1
  have st3 : tn 0 s3.heap := T.keep _ _ _ st2 fun b _ o e => by rw [h3]; exact Heap.get?_push_of_some _ e
  have I4 := block_start I3 ok hN f3
  have pg := hg s3 (upd H2 D (.lst [])) s3.heap.objs.size (cellsFrom (s3.heap.objs.size + 1) scope.names (cloFrom X.env.cells scope.names [])) fp
  have pt := ht s3 (upd H2 D (.lst [])) s3.heap.objs.size (cellsFrom (s3.heap.objs.size + 1) scope.names (cloFrom X.env.cells scope.names [])) fp
  have pe := he s3 (upd H2 D (.lst [])) s3.heap.objs.size (cellsFrom (s3.heap.objs.size + 1) scope.names (cloFrom X.env.cells scope.names [])) fp
  show codeAny _ _ (.compStart (.ListComp elt [⟨tg, iter, ifs, 0⟩] scope pos) 0 (.ref it) (.ref D) (compEnvC scope (cellsFrom (s3.heap.objs.size + 1) scope.names (cloFrom X.env.cells scope.names [])) s3.heap.objs.size X.env)) (compPost (model X.prog X.w) X.A X.xe use Qf (.ref D) s3.heap.objs.size) { s3 with heap := pushCells (s3.heap.push { cls := .type "dict", data := .dict #[] }) scope.names }
  have nfp : ∀ b ∈ fp, (upd H2 D (.lst [])) b = none := fun b hb => (f3 b hb).1.1
  generalize hce : compEnvC scope (cellsFrom (s3.heap.objs.size + 1) scope.names (cloFrom X.env.cells scope.names [])) s3.heap.objs.size X.env = ce at I4 pg pt pe ⊢
  have cL : ce.locals = s3.heap.objs.size := by subst hce; rfl
  generalize hH3 : upd H2 D (.lst []) = H3 at I3 I4 pg pt pe w0 nfp f3
  generalize hs4 : ({ s3 with heap := pushCells (s3.heap.push { cls := .type "dict", data := .dict #[] }) scope.names } : Shared) = s4 at I4 ⊢
  have st4 : tn 0 s4.heap := T.keep _ _ _ st3 fun b _ o e => by rw [← hs4]; exact pushCells_keeps _ _ _ _ (Heap.get?_push_of_some _ e)
  have stat : ∀ {σ' : St} {H' : Hp} {s' : Shared}, Inv (X.blk s3 H3 scope ce fp) [] σ' H' s' → (∀ b ∈ fp, H' b = none) → ∀ b ∈ fp, FpOk (X.blk s3 H3 scope ce fp) [] H' b := fun {σ' H' s'} I' hn b hb =>
    ⟨hn b hb, (I'.ok.exf b hb).1, I'.ok.exfs b hb, .inl hb, fun x c e => (I'.ok.exf b hb).2 x c e, fun p hp => absurd (show p ∈ ([] : List (Addr × Obj)) ++ [] from hp) (by simp)⟩
  have loop : codeAny (model X.prog X.w) X.A (.compLoop (.ListComp elt [⟨tg, iter, ifs, 0⟩] scope pos) 0 (.ref it) (.ref D) ce) (compPost (model X.prog X.w) X.A X.xe use Qf (.ref D) s3.heap.objs.size) s4 := by
    refine compLoop_any (fun n s' => ∃ i H', Inv (X.blk s3 H3 scope ce fp) [] (wipe σ (own.map (·.2))) H' s' ∧ tn i s'.heap ∧ (∀ b ∈ fp, H' b = none) ∧ W i n H') ?_ m0 ⟨0, H3, I4, st4, nfp, w0⟩
    rintro n s5 ⟨i, H5, I5, st5, n5, w5⟩
    rcases turn i n H5 w5 with ⟨stop, qq⟩ | ⟨go, Nx, hNx, step⟩
    · have td := T.done (X.blk s3 H3 scope ce fp) rfl rfl rfl hc i [] s5 _ H5 (fun _ _ => False) I5 (stat I5 n5) st5 stop
      refine thnF td fun r s6 ⟨hr, I6⟩ => ?_
      subst hr
      -- back in the def's context
      have I7 : Inv X pins σ H5 s6 := I3.call' (ch := fp) I6.os I6.base I6.hok I6.bare fun b hb => ⟨(f3 b hb).1.2.2.2.1, (f3 b hb).1.2.1, (f3 b hb).1.2.2.2.2.1, (f3 b hb).1.2.2.2.2.2⟩
      have nC : H5 s3.heap.objs.size = none := by
        have z : H5 ce.locals = none := I6.free
        rw [cL] at z
        exact z
      obtain ⟨m, hn, _⟩ := I6.loc
      have hn : s6.heap.Ns ce.locals m := hn
      rw [cL] at hn
      exact hRR D s3.heap.objs.size s6 m H5 I7 qq hn (I3.fpOk (Nat.le_refl _) nC)
    · have ti := T.item (X.blk s3 H3 scope ce fp) rfl rfl rfl hc i [] s5 _ H5 (fun _ _ => False) I5 (stat I5 n5) st5 go
      refine thnF ti fun r s6 ⟨u, hr, h6⟩ => ?_
      subst hr
      refine thnF h6 fun _ s7 ⟨x, H7, I7, r7, y7, st7, n7⟩ => ?_
      have I7' := I7.pinned (stat I7 n7) (T.obj _ _ st7)
      refine thnF (pg _ s7 _ H7 x u _ I7' r7 (step x H7 y7)) fun _ s8 ⟨σ8, H8, I8, hw8, q8⟩ => ?_
      refine thnF (pt _ s8 σ8 H8 _ I8 q8) fun b s9 ⟨H9, I9, q9⟩ => ?_
      -- the turn's end
      have fin : ∀ {s' : Shared} {H' : Hp}, Inv (X.blk s3 H3 scope ce fp) ([] ++ pinsAt fp s7.heap) σ8 H' s' → Nx H' → ∃ m, m < n ∧ ∃ i H', Inv (X.blk s3 H3 scope ce fp) [] (wipe σ (own.map (·.2))) H' s' ∧ tn i s'.heap ∧ (∀ b ∈ fp, H' b = none) ∧ W i m H' := fun {s' H'} I' nx => by
        obtain ⟨m', hm, w'⟩ := hNx H' nx
        have pin' : ∀ b ∈ fp, ∀ o, s7.heap.get? b = some o → s'.heap.get? b = some o ∧ H' b = none := fun b hb o e =>
          let z := I'.pin (b, o) (List.mem_append_right _ (List.mem_append_right _ (mem_pinsAt hb e)))
          ⟨z.1, z.2.1⟩
        have hl : (wipe σ (own.map (·.2))).length = σ8.length := by rw [← hw8, wipe_length]
        refine ⟨m', hm, i + 1, H', (I'.unpinned (pins := [])).weak hl (fun j v e => ?_), T.keep _ _ _ st7 fun b hb o e => (pin' b hb o e).1, fun b hb => ?_, w'⟩
        · rw [← hw8] at e
          exact (wipe_some e).1
        · obtain ⟨o, e, _⟩ := T.obj _ _ st7 b hb
          exact (pin' b hb o e).2
      cases b with
      | false =>
        simp only [Bool.false_eq_true, if_false] at q9 ⊢
        exact fin I9 q9
      | true =>
        simp only [if_true] at q9 ⊢
        refine thnF (pe _ s9 σ8 H9 _ I9 q9) fun z s10 ⟨yv, H10, I10, r10, acc, hD10, hz10, nx⟩ => ?_
        exact app_ok (X := X.blk s3 H3 scope ce fp) I10 hD10 hz10 r10 fun s11 I11 => fin I11 nx
  exact codeAny_compStart_list loop (T.self X.A 0 _ _ _ st4 loop)
/-- as a value -/
theorem pe_lc {elt tg iter : Expr} {ifs : List Expr} {scope : Scope} {own : List (Str × Nat)} {pos : Pos} {wi : TI} {g : TG} {tt : TT} {te : TE} (hc : X.calm = true) (hN : X.N.Nodup) (hi : PI X tg iter wi) (ok : BlkOk X.N X.env.scope scope own)
    (hg : ∀ (s : Shared) (H : Hp) (C : Addr) (cl : List (Str × Addr)) (fp : List Addr), PG (X.blk s H scope (compEnvC scope cl C X.env) fp) tg g) (ht : ∀ (s : Shared) (H : Hp) (C : Addr) (cl : List (Str × Addr)) (fp : List Addr), PTs (X.blk s H scope (compEnvC scope cl C X.env) fp) ifs tt)
    (he : ∀ (s : Shared) (H : Hp) (C : Addr) (cl : List (Str × Addr)) (fp : List Addr), PE (X.blk s H scope (compEnvC scope cl C X.env) fp) elt te) (hs : ∀ x, foldedSetIterable iter X.env x = pure x := by intro _; rfl) :
    PE X (.ListComp elt [⟨tg, iter, ifs, 0⟩] scope pos) (tLc wi g tt te (own.map (·.2))) := by
  intro pins s σ H Q I h
  rw [eval_ListComp]
  refine lc_core hc hN I hi ok hg ht he hs h fun D C s' m H' I' q hn f => ⟨m, hn, fun h'' sb => ?_⟩
  obtain ⟨f0, f1, f2, f3, f4, f5⟩ := f
  exact ⟨.ref D, H', I'.turned (t' := s'.toks) (fun b o hb e => (sb.2 b hb).trans e) f0 f1 f3 f4 f5, rfl, q⟩
/-- name = [..] on one line, the name a local -/
theorem ps_setLc {i : Nat} {y : Str} {py : Pos} {elt tg iter : Expr} {ifs : List Expr} {scope : Scope} {own : List (Str × Nat)} {pos spos : Pos} {wi : TI} {g : TG} {tt : TT} {te : TE} (hc : X.calm = true) (hN : X.N.Nodup) (hy : X.N[i]? = some y) (hyl : X.env.scope.names.lookup y = some .local)
    (hsw : swapsWith (.ListComp elt [⟨tg, iter, ifs, 0⟩] scope pos) (some (.Name y py)) spos.line X.env = pure true) (hi : PI X tg iter wi) (ok : BlkOk X.N X.env.scope scope own)
    (hg : ∀ (s : Shared) (H : Hp) (C : Addr) (cl : List (Str × Addr)) (fp : List Addr), PG (X.blk s H scope (compEnvC scope cl C X.env) fp) tg g) (ht : ∀ (s : Shared) (H : Hp) (C : Addr) (cl : List (Str × Addr)) (fp : List Addr), PTs (X.blk s H scope (compEnvC scope cl C X.env) fp) ifs tt)
    (he : ∀ (s : Shared) (H : Hp) (C : Addr) (cl : List (Str × Addr)) (fp : List Addr), PE (X.blk s H scope (compEnvC scope cl C X.env) fp) elt te) (hs : ∀ x, foldedSetIterable iter X.env x = pure x := by intro _; rfl) :
    PS X (.Assign [.Name y py] (.ListComp elt [⟨tg, iter, ifs, 0⟩] scope pos) spos) (tAsg (tLc wi g tt te (own.map (·.2))) (gName i)) := by
  intro pins s σ H D I h
  rw [exec_Assign_Name_used _ _ _ _ hsw]
  refine wpAny_bind (wpAny_standAt (wpAny_bind ?_))
  show wpAny _ X.A (do let _ ← comprehension (.ListComp elt [⟨tg, iter, ifs, 0⟩] scope pos) scope X.env (firstIterPos [⟨tg, iter, ifs, 0⟩] pos) (newList []) false (eval iter X.env) (some (assign (.Name y py) X.env))) _ _ s
  have h : tLc wi g tt te (own.map (·.2)) σ H (fun x H1 => gName i x σ H1 D.nx) := h
  refine wpAny_bind (thn (lc_core (Qf := fun _ s' => SP X pins D .next s') hc hN I hi ok hg ht he hs h fun L C s' m H' I' q hn f => ?_) fun _ s' hq => wpAny_pure (wpAny_pure hq))
  show wpAny _ _ (assign (.Name y py) X.env (.ref L)) _ _ _
  refine wpAny_assign_Name (store_ok2 (v := V.ref L) I' hN hy (.inl hyl) rfl (fun s2 I2 ⟨a, sb, ha⟩ => ?_) (.inr hyl))
  obtain ⟨f0, f1, f2, f3, f4, f5⟩ := f
  have haC : C ≠ a := by
    rcases ha with z | z
    · rw [z]; exact f1
    · exact fun e => f4 y a z e.symm
  refine ⟨m, hn.sameBut sb haC, fun h3 sb3 => ?_⟩
  exact ⟨_, H', I2.turned (t' := s2.toks) (fun b o hb e => (sb3.2 b hb).trans e) f0 f1 f3 f4 f5, q⟩
theorem sw_true {elt : Expr} {gs : List Comprehension} {scope : Scope} {pos py : Pos} {y : Str} {l : Nat} {env : Env} (hk : env.scope.kind = .function) (hy : env.scope.names.lookup y = some .local) (hl : (py.line == pos.line) = true)
    (ha : (scope.names.any fun (n, k) => n == y && (k == .local || k == .cell)) = false) : swapsWith (.ListComp elt gs scope pos) (some (.Name y py)) l env = pure true := by
  have ky : env.kindOf y = some .local := hy
  have hb : env.blockKind = .function := by unfold Env.blockKind; rw [hk]; rfl
  unfold swapsWith
  simp only [hb, ky, ha, Expr.pos, hl]
  rfl
end

/-! ### the forms one uses -/
/-- over a range: Pv by the turn and the heap (the new list at D within) -/
theorem lc_range {lo : Int} {n : Nat} {g : TG} {tt : TT} {te : TE} {vs : List Nat} {σ : St} {H1 : Hp} {D : Addr} {Qd : Hp → Prop} (Pv : Nat → Hp → Prop) (h0 : Pv 0 (upd H1 D (.lst [])))
    (hs : ∀ i H, i < n → Pv i H → g (.int (lo + i)) (wipe σ vs) H fun σ2 H2 => wipe σ2 vs = wipe σ vs ∧ tt σ2 H2 fun b H3 =>
      if b = true then te σ2 H3 fun y H4 => ∃ acc, H4 D = some (.lst acc) ∧ acc.length < sizeLine ∧ Pv (i + 1) (upd H4 D (.lst (acc ++ [y]))) else Pv (i + 1) H3) (hd : ∀ H, Pv n H → Qd H) :
    ∃ W : Nat → Nat → Hp → Prop, (∃ m, W 0 m (upd H1 D (.lst []))) ∧ ∀ i m H, W i m H →
      ((Itr lo n).stop i H ∧ Qd H) ∨ ((Itr lo n).go i H ∧ ∃ Nx : Hp → Prop, (∀ H', Nx H' → ∃ m', m' < m ∧ W (i + 1) m' H') ∧ ∀ x H', (Itr lo n).yld i H x H' → g x (wipe σ vs) H' fun σ2 H2 => wipe σ2 vs = wipe σ vs ∧ tt σ2 H2 fun b H3 =>
        if b = true then te σ2 H3 fun y H4 => ∃ acc, H4 D = some (.lst acc) ∧ acc.length < sizeLine ∧ Nx (upd H4 D (.lst (acc ++ [y]))) else Nx H3) := by
  refine ⟨fun i m H => m = n - i ∧ i ≤ n ∧ Pv i H, ⟨n, by simp, Nat.zero_le _, h0⟩, ?_⟩
  rintro i m H ⟨rfl, hi, p⟩
  by_cases hlt : i < n
  · refine .inr ⟨hlt, Pv (i + 1), fun H' p' => ⟨n - (i + 1), by omega, rfl, hlt, p'⟩, fun x H' y => ?_⟩
    obtain ⟨e, y⟩ := y
    subst e y
    exact hs i _ hlt p
  · have e : i = n := by omega
    subst e
    exact .inl ⟨Nat.le_refl _, hd H p⟩
/-- over a list that the block leaves as it is -/
theorem lc_list {K : PySem.W.Frag} {a : Addr} {xs : List V} {g : TG} {tt : TT} {te : TE} {vs : List Nat} {σ : St} {H1 : Hp} {D : Addr} {Qd : Hp → Prop} (Pv : Nat → Hp → Prop) (h0 : Pv 0 (upd H1 D (.lst []))) (hl : ∀ i H, i ≤ xs.length → Pv i H → SqL K H a xs)
    (hs : ∀ i x H, xs[i]? = some x → Pv i H → g x (wipe σ vs) H fun σ2 H2 => wipe σ2 vs = wipe σ vs ∧ tt σ2 H2 fun b H3 =>
      if b = true then te σ2 H3 fun y H4 => ∃ acc, H4 D = some (.lst acc) ∧ acc.length < sizeLine ∧ Pv (i + 1) (upd H4 D (.lst (acc ++ [y]))) else Pv (i + 1) H3) (hd : ∀ H, Pv xs.length H → Qd H) :
    ∃ W : Nat → Nat → Hp → Prop, (∃ m, W 0 m (upd H1 D (.lst []))) ∧ ∀ i m H, W i m H →
      ((Itl K a).stop i H ∧ Qd H) ∨ ((Itl K a).go i H ∧ ∃ Nx : Hp → Prop, (∀ H', Nx H' → ∃ m', m' < m ∧ W (i + 1) m' H') ∧ ∀ x H', (Itl K a).yld i H x H' → g x (wipe σ vs) H' fun σ2 H2 => wipe σ2 vs = wipe σ vs ∧ tt σ2 H2 fun b H3 =>
        if b = true then te σ2 H3 fun y H4 => ∃ acc, H4 D = some (.lst acc) ∧ acc.length < sizeLine ∧ Nx (upd H4 D (.lst (acc ++ [y]))) else Nx H3) := by
  refine ⟨fun i m H => m = xs.length - i ∧ i ≤ xs.length ∧ Pv i H, ⟨xs.length, by simp, Nat.zero_le _, h0⟩, ?_⟩
  rintro i m H ⟨rfl, hi, p⟩
  have q := hl i H hi p
  by_cases hlt : i < xs.length
  · refine .inr ⟨⟨xs, xs[i], q, by simp [hlt]⟩, Pv (i + 1), fun H' p' => ⟨xs.length - (i + 1), by omega, rfl, hlt, p'⟩, fun x H' y => ?_⟩
    obtain ⟨e, y⟩ := y
    subst e
    exact hs i x _ (y xs q) p
  · have e : i = xs.length := by omega
    subst e
    exact .inl ⟨⟨xs, q, Nat.le_refl _⟩, hd H p⟩
/-- over a tuple -/
theorem lc_tup {K : PySem.W.Frag} {a : Addr} {xs : List V} {g : TG} {tt : TT} {te : TE} {vs : List Nat} {σ : St} {H1 : Hp} {D : Addr} {Qd : Hp → Prop} (Pv : Nat → Hp → Prop) (h0 : Pv 0 (upd H1 D (.lst []))) (hl : ∀ i H, i ≤ xs.length → Pv i H → SqT K H a xs)
    (hs : ∀ i x H, xs[i]? = some x → Pv i H → g x (wipe σ vs) H fun σ2 H2 => wipe σ2 vs = wipe σ vs ∧ tt σ2 H2 fun b H3 =>
      if b = true then te σ2 H3 fun y H4 => ∃ acc, H4 D = some (.lst acc) ∧ acc.length < sizeLine ∧ Pv (i + 1) (upd H4 D (.lst (acc ++ [y]))) else Pv (i + 1) H3) (hd : ∀ H, Pv xs.length H → Qd H) :
    ∃ W : Nat → Nat → Hp → Prop, (∃ m, W 0 m (upd H1 D (.lst []))) ∧ ∀ i m H, W i m H →
      ((Itt K a).stop i H ∧ Qd H) ∨ ((Itt K a).go i H ∧ ∃ Nx : Hp → Prop, (∀ H', Nx H' → ∃ m', m' < m ∧ W (i + 1) m' H') ∧ ∀ x H', (Itt K a).yld i H x H' → g x (wipe σ vs) H' fun σ2 H2 => wipe σ2 vs = wipe σ vs ∧ tt σ2 H2 fun b H3 =>
        if b = true then te σ2 H3 fun y H4 => ∃ acc, H4 D = some (.lst acc) ∧ acc.length < sizeLine ∧ Nx (upd H4 D (.lst (acc ++ [y]))) else Nx H3) := by
  refine ⟨fun i m H => m = xs.length - i ∧ i ≤ xs.length ∧ Pv i H, ⟨xs.length, by simp, Nat.zero_le _, h0⟩, ?_⟩
  rintro i m H ⟨rfl, hi, p⟩
  have q := hl i H hi p
  by_cases hlt : i < xs.length
  · refine .inr ⟨⟨xs, xs[i], q, by simp [hlt]⟩, Pv (i + 1), fun H' p' => ⟨xs.length - (i + 1), by omega, rfl, hlt, p'⟩, fun x H' y => ?_⟩
    obtain ⟨e, y⟩ := y
    subst e
    exact hs i x _ (y xs q) p
  · have e : i = xs.length := by omega
    subst e
    exact .inl ⟨⟨xs, q, Nat.le_refl _⟩, hd H p⟩
def blkC (N : List Str) (sc scope : Scope) (own : List (Str × Nat)) : Bool :=
  (match scope.kind with | .function => true | _ => false) && (scope.names.all fun y => decide (scope.names.lookup y.1 = some y.2)) && (own.all fun p => decide (N[p.2]? = some p.1)) &&
    (scope.names.all fun y => match y.2 with
      | .free => (match sc.names.lookup y.1 with | some .cell => true | some .free => true | _ => false)
      | .local => decide (y.1 ∈ own.map (·.1)) || decide (y.1 ∉ N)
      | .cell => decide (y.1 ∈ own.map (·.1)) || decide (y.1 ∉ N)
      | _ => true)
theorem blkOk_by {N : List Str} {sc scope : Scope} {own : List (Str × Nat)} (h : blkC N sc scope own = true) : BlkOk N sc scope own := by
  unfold blkC at h
  simp only [Bool.and_eq_true, List.all_eq_true, decide_eq_true_eq] at h
  obtain ⟨⟨⟨h1, h2⟩, h3⟩, h4⟩ := h
  refine ⟨?_, h2, h3, fun y hy e => ?_, fun y hy e => ?_⟩
  · split at h1
    · assumption
    · cases h1
  · have q := h4 y hy
    simp only [e] at q
    split at q <;> first | exact .inl (by assumption) | exact .inr (by assumption) | cases q
  · have q := h4 y hy
    rcases e with e | e <;> (simp only [e, Bool.or_eq_true, decide_eq_true_eq] at q; exact q)
end L2

namespace L2
open PySem PySem.Spec PyProof.Rows

section
variable {prog : Program} {w : World} {A : Around} {R : Result → Shared → Prop} {s : Shared} {elt t0 i0 t1 i1 : Expr} {ifs0 ifs1 : List Expr} {scope : Scope} {pos : Pos} {it acc : Value} {env : Env}
end

section
variable {X : Cx}
end
end L2

namespace L2
open PySem PySem.Spec PyProof.Rows

/-! ### lists of pairs as tables -/
section
variable {κ : Type} [DecidableEq κ]
def valV (kvs : List (κ × V)) (k : κ) : Option V := (kvs.find? fun kv => decide (kv.1 = k)).map (·.2)
/-- in its place, or at the end -/
def putK (kvs : List (κ × V)) (k : κ) (v : V) : List (κ × V) :=
  if (kvs.any fun kv => decide (kv.1 = k)) = true then kvs.map (fun kv => if kv.1 = k then (kv.1, v) else kv) else kvs ++ [(k, v)]
def dropK (kvs : List (κ × V)) (k : κ) : List (κ × V) := kvs.filter fun kv => decide (kv.1 ≠ k)

theorem valV_pos {p : κ × V} {r : List (κ × V)} {k : κ} (e : p.1 = k) : valV (p :: r) k = some p.2 := by simp [valV, List.find?_cons, e]
theorem valV_neg {p : κ × V} {r : List (κ × V)} {k : κ} (e : ¬ p.1 = k) : valV (p :: r) k = valV r k := by simp [valV, List.find?_cons, e]
theorem valV_any (k : κ) : ∀ kvs : List (κ × V), (kvs.any fun kv => decide (kv.1 = k)) = (valV kvs k).isSome
  | [] => rfl
  | p :: r => by
    rw [List.any_cons]
    by_cases e : p.1 = k
    · simp only [valV_pos e, decide_eq_true e, Bool.true_or, Option.isSome_some]
    · rw [valV_neg e, decide_eq_false e, Bool.false_or]; exact valV_any k r
theorem valV_map (k j : κ) (y : V) : ∀ kvs : List (κ × V), valV (kvs.map fun kv => if kv.1 = k then (kv.1, y) else kv) j = (valV kvs j).map fun x => if j = k then y else x
  | [] => rfl
  | p :: r => by
    have ih := valV_map k j y r
    rw [List.map_cons]
    by_cases h : p.1 = k
    · rw [if_pos h]
      by_cases e : p.1 = j
      · rw [valV_pos (p := (p.1, y)) e, valV_pos e, Option.map_some, if_pos (e.symm.trans h)]
      · rw [valV_neg (p := (p.1, y)) e, valV_neg e, ih]
    · rw [if_neg h]
      by_cases e : p.1 = j
      · rw [valV_pos (p := p) e, valV_pos e, Option.map_some, if_neg (fun z => h (e.trans z))]
      · rw [valV_neg (p := p) e, valV_neg e, ih]
theorem valV_snoc (k j : κ) (y : V) : ∀ kvs : List (κ × V), valV kvs k = none → valV (kvs ++ [(k, y)]) j = if j = k then some y else valV kvs j
  | [], _ => by
    by_cases e : k = j
    · rw [if_pos e.symm]; exact valV_pos (p := (k, y)) e
    · rw [if_neg (fun z => e z.symm)]; exact valV_neg (p := (k, y)) e
  | p :: r, hn => by
    rw [List.cons_append]
    have hk : ¬ p.1 = k := fun z => by rw [valV_pos z] at hn; cases hn
    rw [valV_neg hk] at hn
    have ih := valV_snoc k j y r hn
    by_cases e : p.1 = j
    · rw [valV_pos e, valV_pos e, if_neg (fun z => hk (e.trans z))]
    · rw [valV_neg e, valV_neg e, ih]
theorem valV_put (kvs : List (κ × V)) (k j : κ) (y : V) : valV (putK kvs k y) j = if j = k then some y else valV kvs j := by
  unfold putK
  by_cases a : (kvs.any fun kv => decide (kv.1 = k)) = true
  · rw [if_pos a, valV_map]
    rw [valV_any] at a
    by_cases e : j = k
    · obtain ⟨x, hx⟩ := Option.isSome_iff_exists.mp a
      rw [if_pos e, e, hx, Option.map_some, if_pos rfl]
    · rw [if_neg e]
      cases valV kvs j with
      | none => rfl
      | some x => rw [Option.map_some, if_neg e]
  · rw [if_neg a]
    refine valV_snoc k j y kvs ?_
    rw [valV_any] at a
    cases q : valV kvs k with
    | none => rfl
    | some x => rw [q] at a; exact (a rfl).elim
theorem length_putK (kvs : List (κ × V)) (k : κ) (v : V) : (putK kvs k v).length ≤ kvs.length + 1 := by
  unfold putK
  split
  · rw [List.length_map]; omega
  · rw [List.length_append, List.length_cons, List.length_nil]; omega
theorem putK_new {kvs : List (κ × V)} {k : κ} (v : V) (h : valV kvs k = none) : putK kvs k v = kvs ++ [(k, v)] := by
  unfold putK
  rw [valV_any, h]
  exact if_neg (by decide)

theorem RelO.isSome_eq {o : Option V} {u : Option Value} (r : RelO o u) : o.isSome = u.isSome := by
  cases o with
  | none => cases u with
    | none => rfl
    | some _ => exact (show False from r).elim
  | some _ => cases u with
    | none => exact (show False from r).elim
    | some _ => rfl
theorem RelO.getD {o : Option V} {u : Option Value} {d : V} {d' : Value} (r : RelO o u) (rd : RelV d d') : RelV (o.getD d) (u.getD d') := by
  cases o with
  | none => cases u with
    | none => exact rd
    | some _ => exact (show False from r).elim
  | some _ => cases u with
    | none => exact (show False from r).elim
    | some _ => exact r

/-- raw tables of the same keys -/
theorem KV.val {kvs : List (κ × V)} {vs : List (κ × Value)} (r : KV kvs vs) (k : κ) : RelO (valV kvs k) (valueAt vs k) := by
  unfold KV at r
  induction r with
  | nil => exact True.intro
  | @cons p q ps qs h t ih =>
    obtain ⟨h1, h2⟩ := h
    by_cases e : p.1 = k
    · have e' : q.1 = k := h1.symm.trans e
      have b : valueAt (q :: qs) k = some q.2 := by simp [valueAt, List.find?_cons, e']
      rw [valV_pos e, b]; exact h2
    · have e' : ¬ q.1 = k := fun z => e (h1.trans z)
      have b : valueAt (q :: qs) k = valueAt qs k := by simp [valueAt, List.find?_cons, e']
      rw [valV_neg e, b]; exact ih
theorem KV.any {kvs : List (κ × V)} {vs : List (κ × Value)} (r : KV kvs vs) (k : κ) : (kvs.any fun kv => decide (kv.1 = k)) = vs.any fun kv => decide (kv.1 = k) := by
  unfold KV at r
  induction r with
  | nil => rfl
  | cons h t ih => rw [List.any_cons, List.any_cons, ih, h.1]
theorem KV.repl {kvs : List (κ × V)} {vs : List (κ × Value)} (r : KV kvs vs) (k : κ) {y : V} {u : Value} (ry : RelV y u) :
    KV (kvs.map fun kv => if kv.1 = k then (kv.1, y) else kv) (vs.map fun kv => if kv.1 = k then (kv.1, u) else kv) := by
  unfold KV at r ⊢
  induction r with
  | nil => exact .nil
  | @cons p q ps qs h t ih =>
    rw [List.map_cons, List.map_cons]
    refine .cons ?_ ih
    obtain ⟨h1, h2⟩ := h
    by_cases e : p.1 = k
    · rw [if_pos e, if_pos (h1.symm.trans e)]; exact ⟨h1, ry⟩
    · rw [if_neg e, if_neg (fun z => e (h1.trans z))]; exact ⟨h1, h2⟩
theorem KV.put {kvs : List (κ × V)} {vs : List (κ × Value)} (r : KV kvs vs) (k : κ) {y : V} {u : Value} (ry : RelV y u) : KV (putK kvs k y) (stored vs k u) := by
  unfold putK stored
  rw [r.any k]
  by_cases e : (vs.any fun kv => decide (kv.1 = k)) = true
  · rw [if_pos e, if_pos e]; exact r.repl k ry
  · rw [if_neg e, if_neg e]; exact Paired.snoc r ⟨rfl, ry⟩
theorem KV.drop {kvs : List (κ × V)} {vs : List (κ × Value)} (r : KV kvs vs) (k : κ) : KV (dropK kvs k) (without vs k) := by
  unfold KV at r ⊢
  unfold dropK without
  induction r with
  | nil => exact .nil
  | @cons p q ps qs h t ih =>
    obtain ⟨h1, h2⟩ := h
    rw [List.filter_cons, List.filter_cons]
    by_cases e : p.1 = k
    · have a : ¬ decide (p.1 ≠ k) = true := by simp [e]
      have b : ¬ decide (q.1 ≠ k) = true := by simp [h1.symm.trans e]
      rw [if_neg a, if_neg b]; exact ih
    · have e' : ¬ q.1 = k := fun z => e (h1.trans z)
      have a : decide (p.1 ≠ k) = true := by simp [e]
      have b : decide (q.1 ≠ k) = true := by simp [e']
      rw [if_pos a, if_pos b]; exact .cons ⟨h1, h2⟩ ih
theorem KV.keys {kvs : List (κ × V)} {vs : List (κ × Value)} (r : KV kvs vs) : kvs.map (·.1) = vs.map (·.1) := by
  unfold KV at r
  induction r with
  | nil => rfl
  | cons h t ih => rw [List.map_cons, List.map_cons, ih, h.1]
theorem KV.length {kvs : List (κ × V)} {vs : List (κ × Value)} (r : KV kvs vs) : kvs.length = vs.length := Paired.length r
end


/-! ### a tracked dict, its keys ints and texts or tuples of these -/
theorem kV_is {P : Program} {w : World} {k : Key} {u : Value} (r : RelV (kV k) u) : (mixKind P w).is k u = true := by
  cases k with
  | inl i => obtain ⟨t, e⟩ := (show ∃ t, u = Value.int i t from r); subst e; exact mixKind_int P w i t
  | inr x => obtain ⟨t, e⟩ := (show ∃ t, u = Value.str x t from r); subst e; exact mixKind_str P w x t
theorem items_are {P : Program} {w : World} : ∀ {ks : List Key} {us : List Value}, Vals (ks.map kV) us → ItemsAre (mixKind P w) ks us
  | [], _, r => by rw [List.map_nil] at r; cases r; exact .nil
  | k :: ks, _, r => by
    rw [List.map_cons] at r
    cases r with
    | cons h t => exact .cons (kV_is h) (items_are t)

/-- raw entries of a dict with tuple keys -/
abbrev KT (H : Hp) : List (List Key × V) → List (List Key × Addr × Value) → Prop := Paired fun p q => p.1 = q.1 ∧ H q.2.1 = some (.tup (p.1.map kV)) ∧ RelV p.2 q.2.2
theorem KT.val {H : Hp} {kvs : List (List Key × V)} {xs : List (List Key × Addr × Value)} (r : KT H kvs xs) (k : List Key) : RelO (valV kvs k) ((atKey xs k).map (·.2)) := by
  induction r with
  | nil => exact True.intro
  | @cons p q ps qs h t ih =>
    obtain ⟨h1, _, h2⟩ := h
    by_cases e : p.1 = k
    · have e' : q.1 = k := h1.symm.trans e
      have b : atKey (q :: qs) k = some q.2 := by simp [atKey, List.find?_cons, e']
      rw [valV_pos e, b]; exact h2
    · have e' : ¬ q.1 = k := fun z => e (h1.trans z)
      have b : atKey (q :: qs) k = atKey qs k := by simp [atKey, List.find?_cons, e']
      rw [valV_neg e, b]; exact ih
theorem KT.repl {H : Hp} {kvs : List (List Key × V)} {xs : List (List Key × Addr × Value)} (r : KT H kvs xs) (k : List Key) {y : V} {u : Value} (ry : RelV y u) :
    KT H (kvs.map fun kv => if kv.1 = k then (kv.1, y) else kv) (xs.map (putAt k u)) := by
  induction r with
  | nil => exact .nil
  | @cons p q ps qs h t ih =>
    rw [List.map_cons, List.map_cons]
    refine .cons ?_ ih
    obtain ⟨h1, h2, h3⟩ := h
    unfold putAt
    by_cases e : p.1 = k
    · rw [if_pos e, if_pos (h1.symm.trans e)]; exact ⟨h1, h2, ry⟩
    · rw [if_neg e, if_neg (fun z => e (h1.trans z))]; exact ⟨h1, h2, h3⟩
theorem KT.put {H : Hp} {kvs : List (List Key × V)} {xs : List (List Key × Addr × Value)} (r : KT H kvs xs) (k : List Key) {b : Addr} {y : V} {u : Value} (hb : H b = some (.tup (k.map kV))) (ry : RelV y u) :
    KT H (putK kvs k y) (storedH xs k b u) := by
  have e : (kvs.any fun kv => decide (kv.1 = k)) = (atKey xs k).isSome := by
    rw [valV_any, (r.val k).isSome_eq, Option.isSome_map]
  unfold putK storedH
  rw [e]
  by_cases q : (atKey xs k).isSome = true
  · rw [if_pos q, if_pos q]; exact r.repl k ry
  · rw [if_neg q, if_neg q]; exact Paired.snoc r ⟨rfl, hb, ry⟩
theorem KT.keeps {H H' : Hp} {kvs : List (List Key × V)} {xs : List (List Key × Addr × Value)} (r : KT H kvs xs) (ht : ∀ b ys, H b = some (.tup ys) → H' b = some (.tup ys)) : KT H' kvs xs :=
  Paired.mapP r fun _ _ z => ⟨z.1, ht _ _ z.2.1, z.2.2⟩

section
variable {P : Program} {w : World} {H : Hp} {h : Heap} {a : Addr}
theorem rd_of {u : HO} (ok : HOk P w H h) (e : Rd H a u) : ObjOk P w H h a u := e.ok ok
theorem dk_rd {kvs : List (Key × V)} (ok : HOk P w H h) (e : Rd H a (.dK kvs)) : kvs.length ≤ sizeLine ∧ (a == sysModules) = false ∧ ∃ vs, KV kvs vs ∧ h.DictOf (mixKind P w) a vs :=
  show ObjOk P w H h a (.dK kvs) from rd_of ok e
theorem dk_of {kvs : List (Key × V)} (ok : HOk P w H h) (e : H a = some (.dK kvs)) : kvs.length ≤ sizeLine ∧ (a == sysModules) = false ∧ ∃ vs, KV kvs vs ∧ h.DictOf (mixKind P w) a vs := dk_rd ok (.inl e)
/-- a tracked tuple of ints and texts is a key -/
theorem key_of {ks : List Key} (ok : HOk P w H h) (e : H a = some (.tup (ks.map kV))) : (tupleKind (mixKind P w)).is h ks a := by
  obtain ⟨_, its, r, o, h1, h2, n, h3⟩ := (show ObjOk P w H h a (.tup (ks.map kV)) from ok a _ e)
  exact ⟨o, its.toArray, n, h1, h2, h3, by simpa using items_are r⟩
theorem dt_rd {kvs : List (List Key × V)} (ok : HOk P w H h) (e : Rd H a (.dT kvs)) : kvs.length ≤ sizeLine ∧ (a == sysModules) = false ∧
    ∃ xs, KT H kvs xs ∧ h.DictOfH (tupleKind (mixKind P w)) a xs := by
  obtain ⟨z, y, xs, r, o, es, ep, h1, h2, h3, h4, h5⟩ := (show ObjOk P w H h a (.dT kvs) from rd_of ok e)
  refine ⟨z, y, xs, r, o, es, ep, h1, h2, h3, h4, fun x hx => ?_, h5⟩
  have all : ∀ {l : List (List Key × V)} {m : List (List Key × Addr × Value)}, KT H l m → ∀ x ∈ m, (tupleKind (mixKind P w)).is h x.1 x.2.1 := by
    intro l m q
    induction q with
    | nil => intro x hx; exact nomatch hx
    | @cons p q ps qs hq t ih =>
      intro x hx
      rcases List.mem_cons.mp hx with e | hx
      · subst e
        exact key_of ok (by rw [← hq.1]; exact hq.2.1)
      · exact ih x hx
  exact all r x hx
theorem dt_of {kvs : List (List Key × V)} (ok : HOk P w H h) (e : H a = some (.dT kvs)) : kvs.length ≤ sizeLine ∧ (a == sysModules) = false ∧
    ∃ xs, KT H kvs xs ∧ h.DictOfH (tupleKind (mixKind P w)) a xs := dt_rd ok (.inl e)
end

/-- what the dict at a holds at the key y -/
def DGet (H : Hp) (a : Addr) (y : V) (r : Option V) : Prop :=
  (∃ kvs k, Rd H a (.dK kvs) ∧ y = kV k ∧ r = valV kvs k) ∨ ∃ kvs k b, Rd H a (.dT kvs) ∧ y = .ref b ∧ H b = some (.tup (k.map kV)) ∧ r = valV kvs k
/-- the heap behind a[y] = v -/
def DPut (H : Hp) (a : Addr) (y v : V) (H' : Hp) : Prop :=
  (∃ kvs k, H a = some (.dK kvs) ∧ y = kV k ∧ kvs.length < sizeLine ∧ H' = upd H a (.dK (putK kvs k v))) ∨
  ∃ kvs k b, H a = some (.dT kvs) ∧ y = .ref b ∧ H b = some (.tup (k.map kV)) ∧ kvs.length < sizeLine ∧ H' = upd H a (.dT (putK kvs k v))
theorem DGet.k {H : Hp} {a : Addr} {kvs : List (Key × V)} {k : Key} (e : H a = some (.dK kvs)) : DGet H a (kV k) (valV kvs k) := .inl ⟨kvs, k, .inl e, rfl, rfl⟩
theorem DGet.t {H : Hp} {a b : Addr} {kvs : List (List Key × V)} {k : List Key} (e : H a = some (.dT kvs)) (eb : H b = some (.tup (k.map kV))) : DGet H a (.ref b) (valV kvs k) := .inr ⟨kvs, k, b, .inl e, rfl, eb, rfl⟩
theorem DPut.k {H : Hp} {a : Addr} {kvs : List (Key × V)} {k : Key} {v : V} (e : H a = some (.dK kvs)) (hl : kvs.length < sizeLine) : DPut H a (kV k) v (upd H a (.dK (putK kvs k v))) := .inl ⟨kvs, k, e, rfl, hl, rfl⟩
theorem DPut.t {H : Hp} {a b : Addr} {kvs : List (List Key × V)} {k : List Key} {v : V} (e : H a = some (.dT kvs)) (eb : H b = some (.tup (k.map kV))) (hl : kvs.length < sizeLine) :
    DPut H a (.ref b) v (upd H a (.dT (putK kvs k v))) := .inr ⟨kvs, k, b, e, rfl, eb, hl, rfl⟩


section
variable {X : Cx} {pins : List (Addr × Obj)} {σ : St} {H : Hp} {s : Shared} {a : Addr} {y v : V} {u r : Value} {o : Option V} {A : Around} {E : Value → Shared → Prop}

theorem Inv.big (I : Inv X pins σ H s) : sysModules < s.heap.objs.size := by
  have h : mainGlobals < s.heap.objs.size := (I.mod.glob.keeps I.bk).lt
  exact Nat.lt_trans (by decide) h

theorem d_notIn {Q : Value → Shared → Prop} (hu : A.units + 1 < cLine) (I : Inv X pins σ H s) (g : DGet H a y o) (ry : RelV y u) (h : ∀ s', Inv X pins σ H s' → Q (.bool (!o.isSome)) s') :
    wpAny (model X.prog X.w) A (compareOp .NotIn u (.ref a)) Q E s := by
  rcases g with ⟨kvs, k, e, ey, l⟩ | ⟨kvs, k, b, e, ey, eb, l⟩
  · subst ey
    obtain ⟨z, hd, vs, rel, dd⟩ := dk_rd I.hok e
    refine wpAny_notIn_of (kV_is ry) hd dd.mapOf ?_
    rw [← (rel.val k).isSome_eq, ← l]
    exact h _ (I.tok _)
  · subst ey
    cases (show u = Value.ref b from ry)
    obtain ⟨z, hd, xs, rel, dd⟩ := dt_rd I.hok e
    refine wpAny_notIn_heap (tupleKind_room_in1 hu) (key_of I.hok eb) hd dd ?_
    have q := (rel.val k).isSome_eq
    rw [Option.isSome_map] at q
    rw [← q, ← l]
    exact h _ (I.tok _)
/-- a dict's object is replaced -/
theorem d_write {h' : Heap} {t' : Nat} {ob : HO} (I : Inv X pins σ H s) (mu : Mut (H a)) (hs : Heap.SameBut a s.heap h') (he : ∃ q, h'.get? a = some q) (new : ObjOk X.prog X.w (upd H a ob) h' a ob) :
    Inv X pins σ (upd H a ob) { s with heap := h', toks := t' } :=
  I.write (x := a) (e := a) mu (.inl rfl) (fun b q hb z => (hs.2 b hb).trans z) he new
theorem dk_new {P : Program} {w : World} {H' : Hp} {h' : Heap} {kvs : List (Key × V)} {vs : List (Key × Value)} (z : kvs.length ≤ sizeLine) (hd : (a == sysModules) = false) (rel : KV kvs vs) (dd : h'.DictOf (mixKind P w) a vs) :
    ObjOk P w H' h' a (.dK kvs) := ⟨z, hd, vs, rel, dd⟩
/-- d[y] = v -/
theorem d_setItem {H' : Hp} {Q : Unit → Shared → Prop} (hu : A.units + 1 < cLine) (I : Inv X pins σ H s) (g : DPut H a y v H') (ry : RelV y u) (rv : RelV v r) (h : ∀ s', Inv X pins σ H' s' → Q () s') :
    wpAny (model X.prog X.w) A (setItem (.ref a) u r) Q E s := by
  rcases g with ⟨kvs, k, e, ey, l, eH⟩ | ⟨kvs, k, b, e, ey, eb, l, eH⟩
  · subst ey eH
    obtain ⟨z, hd, vs, rel, dd⟩ := dk_of I.hok e
    have hz : vs.length ≤ sizeLine := by rw [← rel.length]; exact z
    have hl : (putK kvs k v).length ≤ sizeLine := by have := length_putK kvs k v; omega
    refine wpAny_setItem_pairs (hsz := hz) (kV_is ry) dd fun h' dd' hs => h _ ?_
    have he : ∃ q, h'.get? a = some q := let ⟨q, _, _, hq, _⟩ := dd'; ⟨q, hq⟩
    exact d_write I (by rw [e]; exact True.intro) hs he (dk_new hl hd (rel.put k rv) dd')
  · subst ey eH
    cases (show u = Value.ref b from ry)
    obtain ⟨z, hd, xs, rel, dd⟩ := dt_of I.hok e
    have hz : xs.length ≤ sizeLine := by rw [← Paired.length rel]; exact z
    have hl : (putK kvs k v).length ≤ sizeLine := by have := length_putK kvs k v; omega
    refine wpAny_setItem_heap (hsz := hz) (tupleKind_room_in1 hu) (key_of I.hok eb) dd fun h' dd' hs => h _ ?_
    obtain ⟨q, es, ep, hq, h2, h3, h4, _, h5⟩ := dd'
    refine d_write I (by rw [e]; exact True.intro) hs ⟨q, hq⟩ ⟨hl, hd, _, (rel.put k eb rv).keeps fun c ys ec => ?_, q, es, ep, hq, h2, h3, h4, h5⟩
    rw [upd_ne (ne_of ec e (fun z => nomatch z))]
    exact ec
end

section
variable {X : Cx} {pins : List (Addr × Obj)} {σ : St} {H : Hp} {s : Shared} {a : Addr} {kvs : List (Key × V)} {k : Key} {u : Value} {A : Around} {E : Value → Shared → Prop}
end


/-! ### readings and rules -/
def tDNotIn (ty td : TE) : TE := fun σ H Q => ty σ H fun y H1 => td σ H1 fun x H2 => ∃ a o, x = .ref a ∧ DGet H2 a y o ∧ Q (.bl (!o.isSome)) H2
/-- d[y] = v -/
def sDPut (td ty tv : TE) : TS := fun D σ H => tv σ H fun v H1 => td σ H1 fun x H2 => ty σ H2 fun y H3 => ∃ a H4, x = .ref a ∧ DPut H3 a y v H4 ∧ D.nx σ H4
section
variable {X : Cx} {o i e value : Expr} {pos pos' tpos : Pos} {td ty tv : TE}
theorem pc_dnotin (hu : X.A.units + 1 < cLine) (hi : PE X i ty) (ho : PE X o td) : PC X .NotIn i o (tDNotIn ty td) := by
  intro pins s σ H Q I h
  refine thn (hi pins s σ H _ I h) fun iv s1 ⟨y, H1, I1, ry, q1⟩ => thn (ho pins s1 σ H1 _ I1 q1) fun u s2 ⟨x, H2, I2, rx, a, ov, ex, g, q2⟩ => ?_
  subst ex
  obtain rfl : u = Value.ref a := rx
  exact d_notIn hu I2 g ry fun s3 I3 => ⟨.bl (!ov.isSome), H2, I3, rfl, q2⟩
theorem ps_dput (hu : X.A.units + 1 < cLine) (ho : PE X o td) (hi : PE X i ty) (hv : PE X value tv) (hs : swapsWith value (some (.Subscript o i pos')) pos.line X.env = pure false) :
    PS X (.Assign [.Subscript o i pos'] value pos) (sDPut td ty tv) := by
  intro pins s σ H D I h
  refine wpAny_Assign_Subscript (thn (hv pins s σ H _ I h) fun r s1 ⟨v, H1, I1, rv, q1⟩ => thn (ho pins s1 σ H1 _ I1 q1) fun u s2 ⟨x, H2, I2, rx, q2⟩ => thn (hi pins s2 σ H2 _ I2 q2) fun iv s3 ⟨y, H3, I3, ry, a, H4, ex, g, q3⟩ => ?_) hs
  subst ex
  obtain rfl : u = Value.ref a := rx
  exact d_setItem hu I3 g ry rv fun s4 I4 => ⟨σ, H4, I4, q3⟩
end


/-! ### displays -/
theorem dk_empty {P : Program} {w : World} {H : Hp} (h : Heap) (hb : sysModules < h.objs.size) : ObjOk P w H (h.push { cls := .type "dict", data := .dict #[] }) h.objs.size (.dK []) :=
  ⟨Nat.zero_le _, beq_eq_false_iff_ne.mpr (Ne.symm (Nat.ne_of_lt hb)), [], .nil, Heap.DictOf.new h⟩
/-- {}, to be a dict of the kind that is wanted -/
def tDNewK : TE := fun _ H Q => ∀ p, H p = none → Q (.ref p) (upd H p (.dK []))
section
variable {X : Cx} {pos : Pos}
theorem pe_dnewK : PE X (.Dict [] [] pos) tDNewK := fun pins s σ H Q I h =>
  wpAny_Dict_empty ⟨.ref s.heap.objs.size, _, I.laid (a := s.heap.objs.size) (o := .dK []) (t' := s.toks) (fun _ _ q => Heap.get?_push_of_some _ q) (Nat.le_refl _) (dk_empty s.heap I.big), rfl, h _ (I.hok.fresh (Nat.le_refl _))⟩
end

/-- the pairs of a display, from the left -/
def tPairs : List (TE × TE) → St → Hp → (List (V × V) → Hp → Prop) → Prop
  | [], _, H, Q => Q [] H
  | (tk, tv) :: r, σ, H, Q => tk σ H fun x H1 => tv σ H1 fun y H2 => tPairs r σ H2 fun ps H3 => Q ((x, y) :: ps) H3
abbrev VV : List (V × V) → List (Value × Value) → Prop := Paired fun p q => RelV p.1 q.1 ∧ RelV p.2 q.2
def PPs (X : Cx) (pos : Pos) (keys : List (Option Expr)) (values : List Expr) (trs : List (TE × TE)) : Prop :=
  ∀ (pins : List (Addr × Obj)) (s : Shared) (σ : St) (H : Hp) (Q : List (V × V) → Hp → Prop), Inv X pins σ H s → tPairs trs σ H Q →
    wpAny (model X.prog X.w) X.A (evalPairs (pairTrees keys values X.env pos)) (fun vs s' => ∃ ps H', Inv X pins σ H' s' ∧ VV ps vs ∧ Q ps H') X.xe s
theorem pps_nil {X : Cx} {pos : Pos} : PPs X pos [] [] [] := fun pins s σ H Q I h => pairTrees_nil_walk ⟨[], H, I, .nil, h⟩
theorem pps_cons {X : Cx} {pos : Pos} {k v : Expr} {ks : List (Option Expr)} {vs : List Expr} {tk tv : TE} {trs : List (TE × TE)} (hk : PE X k tk) (hv : PE X v tv) (hr : PPs X pos ks vs trs) :
    PPs X pos (some k :: ks) (v :: vs) ((tk, tv) :: trs) := fun pins s σ H Q I h =>
  pairTrees_cons_walk (thn (hk pins s σ H _ I h) fun u s1 ⟨x, H1, I1, rx, q1⟩ => thn (hv pins s1 σ H1 _ I1 q1) fun w2 s2 ⟨y, H2, I2, ry, q2⟩ =>
    thn (hr pins s2 σ H2 _ I2 q2) fun ws s3 ⟨ps, H3, I3, rel, q3⟩ => ⟨(x, y) :: ps, H3, I3, .cons ⟨rx, ry⟩ rel, q3⟩)

def mergeK (kvs more : List (Key × V)) : List (Key × V) := more.foldl (fun acc kv => putK acc kv.1 kv.2) kvs
theorem KV.merge : ∀ {more : List (Key × V)} {rs : List (Key × Value)} {kvs : List (Key × V)} {vs : List (Key × Value)}, KV more rs → KV kvs vs → KV (mergeK kvs more) (merged vs rs) := by
  intro more rs kvs vs r
  unfold KV at r
  induction r generalizing kvs vs with
  | nil => intro q; exact q
  | @cons p q ps qs h t ih =>
    intro r0
    have e : KV (putK kvs p.1 p.2) (stored vs q.1 q.2) := by
      have := r0.put p.1 h.2
      rw [← h.1]; exact this
    exact ih e
theorem length_mergeK : ∀ (more kvs : List (Key × V)), (mergeK kvs more).length ≤ kvs.length + more.length
  | [], kvs => by show kvs.length ≤ kvs.length + 0; omega
  | p :: r, kvs => by
    have h1 := length_mergeK r (putK kvs p.1 p.2)
    have h2 := length_putK kvs p.1 p.2
    show (mergeK (putK kvs p.1 p.2) r).length ≤ _
    rw [List.length_cons]; omega
theorem carries_of {P : Program} {w : World} : ∀ {kvs : List (Key × V)} {ws : List (Value × Value)}, VV (kvs.map fun kv => (kV kv.1, kv.2)) ws → ∃ rs, Carries (mixKind P w) ws rs ∧ KV kvs rs
  | [], _, r => by rw [List.map_nil] at r; cases r; exact ⟨[], True.intro, .nil⟩
  | p :: kvs, _, r => by
    rw [List.map_cons] at r
    cases r with
    | @cons a b as bs h t =>
      obtain ⟨rs, c, q⟩ := carries_of (P := P) (w := w) t
      obtain ⟨b1, b2⟩ := b
      exact ⟨(p.1, b2) :: rs, ⟨kV_is h.1, rfl, c⟩, .cons ⟨rfl, h.2⟩ q⟩
/-- {k: v, ..} with keys ints and texts; the new dict stands empty while the pairs are made -/
def tDisp (trs : List (TE × TE)) : TE := fun σ H Q => ∀ p, H p = none → tPairs trs σ (upd H p (.dK [])) fun ps H2 => H2 p = some (.dK []) ∧ ∃ kvs : List (Key × V), ps = kvs.map (fun kv => (kV kv.1, kv.2)) ∧ kvs.length ≤ 15 ∧ Q (.ref p) (upd H2 p (.dK (mergeK [] kvs)))
theorem pe_disp {X : Cx} {pos : Pos} {keys : List (Option Expr)} {values : List Expr} {trs : List (TE × TE)} (h : PPs X pos keys values trs) (hall : keys.all (·.isSome) = true) (hl : keys.length = values.length) (h0 : keys ≠ [])
    (h15 : keys.length ≤ 15) : PE X (.Dict keys values pos) (tDisp trs) := by
  intro pins s σ H Q I q
  have hn := I.hok.fresh (Nat.le_refl s.heap.objs.size)
  have I1 := I.laid (a := s.heap.objs.size) (o := .dK []) (h' := s.heap.push { cls := .type "dict", data := .dict #[] }) (t' := s.toks) (fun _ _ q => Heap.get?_push_of_some _ q) (Nat.le_refl _) (dk_empty s.heap I.big)
  refine wpAny_Dict_walk (knd := mixKind X.prog X.w) hall hl h0 h15 (thn (h pins _ σ _ _ I1 (q _ hn)) fun ws s2 ⟨ps, H2, I2, rel, e, kvs, ep, lk, q2⟩ => ?_)
  subst ep
  obtain ⟨rs, c, rk⟩ := carries_of (P := X.prog) (w := X.w) rel
  obtain ⟨z, hd, vs0, r0, dd⟩ := dk_of I2.hok e
  cases r0
  refine ⟨rs, c, dd, fun h' dd' hs => ⟨.ref s.heap.objs.size, _, ?_, rfl, q2⟩⟩
  have hz : (mergeK [] kvs).length ≤ sizeLine := by
    have h1 := length_mergeK kvs []
    rw [List.length_nil] at h1
    rw [sizeLine_eq]; omega
  have he : ∃ q, h'.get? s.heap.objs.size = some q := let ⟨q, _, _, hq, _⟩ := dd'; ⟨q, hq⟩
  exact d_write I2 (by rw [e]; exact True.intro) hs he (dk_new hz hd (rk.merge .nil) dd')


/-! ### methods -/
/-- a method call o.m(e) of a built-in, with one argument: what must be seen of the text -/
structure M1 (X : Cx) (o : Expr) (m : Str) (apos : Pos) (e : Expr) (cpos : Pos) : Prop where
  base : attributeBase o m X.env (eval o X.env) = eval o X.env
  few : ((backTo cpos (starEach [e] X.env)).all (fun x => !x.1) && (backToKw cpos (keywordEach [] X.env)).all (fun x => x.1.isSome)
    && decide (([e] : List Expr).length + ([] : List Keyword).length + (if ([] : List Keyword).isEmpty then 0 else 1) < 30)) = true
  line : (apos.endLine == cpos.line) = true
  trees : backTo cpos (starEach [e] X.env) = [(false, eval e X.env)]
structure M2 (X : Cx) (o : Expr) (m : Str) (apos : Pos) (e f : Expr) (cpos : Pos) : Prop where
  base : attributeBase o m X.env (eval o X.env) = eval o X.env
  few : ((backTo cpos (starEach [e, f] X.env)).all (fun x => !x.1) && (backToKw cpos (keywordEach [] X.env)).all (fun x => x.1.isSome)
    && decide (([e, f] : List Expr).length + ([] : List Keyword).length + (if ([] : List Keyword).isEmpty then 0 else 1) < 30)) = true
  line : (apos.endLine == cpos.line) = true
  trees : backTo cpos (starEach [e, f] X.env) = [(false, eval e X.env), (false, eval f X.env)]

/-- a is a dict, whatever its keys -/
def IsD (H : Hp) (a : Addr) : Prop := (∃ kvs, Rd H a (.dK kvs)) ∨ ∃ kvs, Rd H a (.dT kvs)
theorem isD_at {X : Cx} {pins : List (Addr × Obj)} {σ : St} {H : Hp} {s : Shared} {a : Addr} (I : Inv X pins σ H s) (d : IsD H a) :
    s.TypeIs (.ref a) "dict" ∧ (∀ b, Value.ref a = .ref b → ∃ ob, s.heap.get? b = some ob ∧ ob.dict = none) ∧ (a == sysModules) = false := by
  rcases d with ⟨kvs, e⟩ | ⟨kvs, e⟩
  · obtain ⟨_, hd, vs, _, dd⟩ := dk_rd I.hok e
    refine ⟨dd.typeIs, fun b q => ?_, hd⟩
    cases q
    obtain ⟨ob, _, _, h1, h2, _⟩ := dd
    exact ⟨ob, h1, h2.2.1⟩
  · obtain ⟨_, hd, xs, _, dd⟩ := dt_rd I.hok e
    refine ⟨dd.typeIs, fun b q => ?_, hd⟩
    cases q
    obtain ⟨ob, _, _, h1, h2, _⟩ := dd
    exact ⟨ob, h1, h2.2.1⟩

section
variable {X : Cx} {pins : List (Addr × Obj)} {σ : St} {H : Hp} {s : Shared} {a : Addr} {y d : V} {u r : Value} {o : Option V} {A : Around} {E : Value → Shared → Prop}
/-- d.get(y) -/
theorem d_get1 {Q : Value → Shared → Prop} (hu : A.units + 1 < cLine) (I : Inv X pins σ H s) (g : DGet H a y o) (ry : RelV y u) (h : ∀ w' s', Inv X pins σ H s' → RelV (o.getD .non) w' → Q w' s') :
    wpAny (model X.prog X.w) A (call (.builtin "dict.get") [.ref a, u]) Q E s := by
  rcases g with ⟨kvs, k, e, ey, l⟩ | ⟨kvs, k, b, e, ey, eb, l⟩
  · subst ey
    obtain ⟨z, hd, vs, rel, dd⟩ := dk_rd I.hok e
    refine call_meetsIn PySem.F.slot_dict_get dd.typeIs PySem.F.entry_dict_get (PySem.F.args_dict_get_2 _ _) (meets_dict_get (mixKind X.prog X.w) a (kV_is ry) hd) ⟨_, dd.mapOf, h _ _ (I.tok _) ?_⟩
    rw [l]
    exact (rel.val k).getD rfl
  · subst ey
    cases (show u = Value.ref b from ry)
    obtain ⟨z, hd, xs, rel, dd⟩ := dt_rd I.hok e
    refine call_meetsIn PySem.F.slot_dict_get dd.typeIs PySem.F.entry_dict_get (PySem.F.args_dict_get_2 _ _) (meetsH_dict_get (tupleKind (mixKind X.prog X.w)) a b hd) ⟨tupleKind_room_in1 hu, k, xs, key_of I.hok eb, dd, h _ _ (I.tok _) ?_⟩
    rw [l]
    exact (rel.val k).getD rfl
end

def tDGet1 (td ty : TE) : TE := fun σ H Q => td σ H fun x H1 => ∃ a, x = .ref a ∧ IsD H1 a ∧ ty σ H1 fun y H2 => ∃ o, DGet H2 a y o ∧ Q (o.getD .non) H2
section
variable {X : Cx} {o e f : Expr} {apos cpos : Pos} {td ty tx : TE}
theorem pe_dget1 (hu : X.A.units + 1 < cLine) (ho : PE X o td) (he : PE X e ty) (m : M1 X o "get" apos e cpos) : PE X (.Call (.Attribute o "get" apos) [e] [] cpos) (tDGet1 td ty) := by
  intro pins s σ H Q I h
  refine wpAny_Call_method m.base m.few m.line PySem.F.plainAttrs_dict PySem.F.slot_dict_get PySem.F.type_dict_get (thn (ho pins s σ H _ I h) fun u s1 ⟨x, H1, I1, rx, a, ex, d, q1⟩ => ?_)
  subst ex
  obtain rfl : u = Value.ref a := rx
  obtain ⟨t1, t2, _⟩ := isD_at I1 d
  refine ⟨t1, t2, ?_⟩
  rw [m.trees]
  refine Calls.callWith_builtin rfl (Calls.evalArgs_plain (Calls.spliced_cons (thn (he pins s1 σ H1 _ I1 q1) fun iv s2 ⟨y, H2, I2, ry, ov, g, q2⟩ => Calls.spliced_nil ?_)))
  exact d_get1 hu I2 g ry fun w' s3 I3 rw' => ⟨_, H2, I3, rw', q2⟩
end

/-! ### dict(d): a copy -/
section
variable {X : Cx} {pins : List (Addr × Obj)} {σ : St} {H : Hp} {s : Shared} {a : Addr} {kvs : List (Key × V)} {A : Around} {E : Value → Shared → Prop}
end


section
variable {X : Cx} {pins : List (Addr × Obj)} {σ : St} {H : Hp} {s : Shared} {a : Addr} {y : V} {u : Value} {A : Around} {E : Value → Shared → Prop}
end
end L2

namespace L2
open PySem PySem.Spec PyProof.Rows

section
variable {prog : Program} {w : World} {A : Around} {E : Value → Shared → Prop}
end

section
variable {X : Cx}
end
end L2

namespace L2
open PySem PySem.Spec PyProof.Rows

section
variable {X : Cx} {pins : List (Addr × Obj)} {σ : St} {H : Hp} {s : Shared} {h' : Heap}
/-- .. and one new object is laid -/
theorem Inv.turnedNew {t' : Nat} {ch : List Addr} {T : Addr} {ob : HO} (I : Inv X pins σ H s) (k : ∀ b o, b ∉ ch → s.heap.get? b = some o → h'.get? b = some o) (hf : ∀ b ∈ ch, FpOk X pins H b) (hT : s.heap.objs.size ≤ T)
    (new : ObjOk X.prog X.w (upd H T ob) h' T ob) : Inv X pins σ (upd H T ob) { s with heap := h', toks := t' } := by
  have hn : H T = none := I.hok.fresh hT
  have nit : ∀ b u, H b = some u → b ∉ ch := fun b u e z => by
    have q := (hf b z).1
    rw [q] at e; cases e
  refine I.step (g' := s.gens) (d' := s.drawn) (ch := ch) (fun b hb => ⟨(hf b hb).2.2.2.1, (hf b hb).2.1, (hf b hb).2.2.2.2.1, (hf b hb).2.2.2.2.2⟩) (fun b o _ _ hc e _ => k b o hc e) (fun b o _ _ hc e _ => ⟨o.slots, k b o hc e⟩)
    (fun b o _ e n => ?_) (fun b o hc e => ⟨o, k b o hc e⟩) (fun b xs e => ?_) (fun b o u e => ?_) (fun b ps e => ⟨#[], ?_⟩) (fun m hm => ?_) (fun b u e => ?_) I.bare
  · rw [upd_ne (Nat.ne_of_lt (Nat.lt_of_lt_of_le (Heap.lt_size e) hT))]; exact n
  · rw [upd_ne (ne_of_none e hn)]; exact e
  · rw [upd_ne (ne_of_none e hn)]; exact e
  · rw [upd_ne (ne_of_none e hn), e]; simp
  · obtain ⟨o, es, ep, ho, r⟩ := hm
    exact ⟨o, es, ep, k _ o (fun z => (hf _ z).2.1 rfl) ho, r⟩
  · by_cases hb : b = T
    · subst hb
      rw [upd_same] at e
      cases e
      exact new
    · rw [upd_ne hb] at e
      refine (I.hok b u e).stay (fun c v hc q => k c v ?_ q) (fun c q => by rw [upd_ne (ne_of_none q hn)]; exact q) fun c xs q => by rw [upd_ne (ne_of_none q hn)]; exact q
      rcases hc with z | z
      · rw [z]; exact nit b u e
      · exact nit c _ z

/-! ### locking a thing while a statement runs -/
end
section
variable {X : Cx}
/-! ### one iterator just laid -/
theorem pi_one {tg : Expr} {pins : List (Addr × Obj)} {σ : St} {H : Hp} {s : Shared} {R : It → Hp → Prop} {J : It} {tn : Nat → Heap → Prop} {tk : Nat} (I : Inv X pins σ H s) (o : Obj)
    (T : Turn X.prog X.w X.K tg J [s.heap.objs.size] s.heap.objs.size tn) (st : tn 0 (s.heap.push o)) (q : R J H) : PIE X pins σ tg R (.ref s.heap.objs.size) { s with heap := s.heap.push o, toks := tk } := by
  refine ⟨s.heap.objs.size, [s.heap.objs.size], tn, J, H, rfl, I.kept fun b ob e => Heap.get?_push_of_some _ e, T, st, fun b hb => ?_, q⟩
  have e : b = s.heap.objs.size := by simpa using hb
  subst e
  exact I.fpOk (Nat.le_refl _) (I.hok.fresh (Nat.le_refl _))
end

/-! ### range with a step -/
/-- range(i, j, c): small bounds, n items -/
def RgC (i j c : Int) (n : Nat) : Prop := c ≠ 0 ∧ c.natAbs < 1073741824 ∧ Builtin.Range.small i j c = true ∧ Builtin.Range.rangeSize i j c = n
theorem RgC.neg {i j : Int} (ha : -(2 ^ 62) ≤ i) (ha' : i < 2 ^ 62) (hb : -(2 ^ 62) ≤ j) (hb' : j < 2 ^ 62) : RgC i j (-1) (i - j).toNat :=
  ⟨by decide, by decide, PySem.W.small_down ha ha' hb hb', PySem.W.rangeSize_downNat i j⟩
section
variable {X : Cx} {tg : Expr}
end
/-! ### reversed(list) -/
section
variable {X : Cx} {tg : Expr}
end

/-! ### a str -/
def Its (x : Str) : It := ⟨fun i _ => i < x.cps.size, fun i H v H' => H' = H ∧ ∃ c, x.cps[i]? = some c ∧ v = .str ⟨#[c]⟩, fun i _ => x.cps.size ≤ i⟩
theorem turn_str {P : Program} {w : World} {K : PySem.W.Frag} {tg : Expr} (it : Addr) (x : Str) (t : Tok) (ty : String) (hty : ty = "str_ascii_iterator" ∨ ty = "str_iterator") :
    Turn P w K tg (Its x) [it] it (fun i h => h.IsStrIter it ty x t i) where
  mem := by simp
  obj := fun i h st b hb => by
    have e : b = it := by simpa using hb
    subst e
    obtain ⟨o, e, c, d⟩ := st
    exact ⟨o, e, fun v z => by rw [d] at z; cases z⟩
  keep := fun i h h' st k => let ⟨o, ho, r⟩ := st; ⟨o, k it (by simp) o ho, r⟩
  item := by
    intro X hP hw hK hc i pins s σ H E I hf st hg
    subst hP hw hK
    obtain ⟨f0, f1, f2, f3, f4, f5⟩ := hf it (by simp)
    have W : Walks X.prog X.w X.A it [it] [it] x.cps.size (SignAt x) (fun i h => h.IsStrIter it ty x t i) := by
      rcases hty with e | e
      · rw [e]; exact Walks.strAscii (I.ok.hd hc) it x t
      · rw [e]; exact Walks.strWide (I.ok.hd hc) it x t
    have hno : ["enumerate", "zip", "dict_itemiterator", "dict_reverseitemiterator", "odict_iterator", "itertools.zip_longest", "itertools.pairwise"].contains ty = false := by
      rcases hty with e | e
      · rw [e]; decide
      · rw [e]; decide
    refine W.item i s _ _ hg st fun v h' tk hv st' kk => ?_
    obtain ⟨c, u, hcx, rfl⟩ := hv
    have I1 : Inv X pins σ H { s with heap := h', toks := tk } := I.turned (fun b o hb e => kk b o (by simpa using hb) e) f0 f1 f3 f4 f5
    obtain ⟨oi, e, cc, dd⟩ := id st'
    exact ⟨_, rfl, go_of (s := { s with heap := h', toks := tk }) e cc dd hno ⟨.str ⟨#[c]⟩, H, I1, ⟨u, rfl⟩, ⟨rfl, c, hcx, rfl⟩, st', fun b hb => (hf b hb).1⟩⟩
  done := by
    intro X hP hw hK hc i pins s σ H E I hf st hg
    subst hP hw hK
    obtain ⟨f0, f1, f2, f3, f4, f5⟩ := hf it (by simp)
    have hx : x.cps[i]? = none := Array.getElem?_eq_none hg
    rcases hty with e | e
    · rw [e] at st
      exact wpAny_pyNext_ascii_end (I.ok.hd hc) st hx fun h' eb => ⟨rfl, I.turned (t' := s.toks) (fun b o hb e => eb b o hb e) f0 f1 f3 f4 f5⟩
    · rw [e] at st
      exact wpAny_pyNext_wide_end (I.ok.hd hc) st hx fun h' eb => ⟨rfl, I.turned (t' := s.toks) (fun b o hb e => eb b o hb e) f0 f1 f3 f4 f5⟩
  self := fun A i s Q E st h => by
    rcases hty with e | e
    · rw [e] at st; exact wpAny_pyIter_striter_ascii st h
    · rw [e] at st; exact wpAny_pyIter_striter_wide st h
def iStr (te : TE) : TI := fun σ H R => te σ H fun v H1 => ∃ x, v = .str x ∧ R (Its x) H1
theorem pi_str {X : Cx} {tg e : Expr} {te : TE} (he : PE X e te) : PI X tg e (iStr te) := by
  intro pins s σ H R I h
  refine thn (he pins s σ H _ I h) fun v s1 ⟨y, H1, I1, r1, x, ex, q⟩ => ?_
  subst ex
  obtain ⟨t, rfl⟩ := r1
  cases ha : x.cps.all (· < 128)
  · exact wpAny_pyIter_wide ha (pi_one (tk := s1.toks) I1 _ (turn_str _ x t "str_iterator" (.inr rfl)) ⟨_, Heap.get?_push_size _ rfl, rfl, rfl⟩ q)
  · exact wpAny_pyIter_ascii ha (pi_one (tk := s1.toks) I1 _ (turn_str _ x t "str_ascii_iterator" (.inl rfl)) ⟨_, Heap.get?_push_size _ rfl, rfl, rfl⟩ q)

/-! ### a dict's keys: any dict's entries -/
section
variable {prog : Program} {w : World} {A : Around} {E : Value → Shared → Prop} {s : Shared}
end

/-! ### a locked dict -/
theorem relV_key {k : Key} {u : Value} (h : keyIs k u = true) : RelV (kV k) u := by
  rcases keyIs_shape h with ⟨i, t, rfl, rfl⟩ | ⟨x, t, rfl, rfl⟩
  · exact ⟨t, rfl⟩
  · exact ⟨t, rfl⟩
section
variable {X : Cx} {pins : List (Addr × Obj)} {σ : St} {H : Hp} {s : Shared} {d : Addr} {o : Obj}
end

section
variable {P : Program} {w : World} {K : PySem.W.Frag} {tg : Expr} {d : Addr} {o : Obj} {es : Array DictEntry} {ep : Nat}
end

/-! ### for k in d, d.keys(), d.values(), d.items() -/
section
variable {X : Cx} {tg e : Expr} {td : TE} {apos cpos : Pos}
end

/-! ### enumerate(list) -/
/-- the list at a as it stands at each turn, each item in a new pair -/
def Ite (K : PySem.W.Frag) (a : Addr) : It :=
  ⟨fun i H => ∃ (xs : List V) (x : V), SqL K H a xs ∧ xs[i]? = some x, fun i H v H' => ∃ T x, v = .ref T ∧ H T = none ∧ H' = upd H T (.tup [.int (i : Nat), x]) ∧ ∀ xs, SqL K H a xs → xs[i]? = some x, fun i H => ∃ xs : List V, SqL K H a xs ∧ xs.length ≤ i⟩
theorem turn_enum {P : Program} {w : World} {K : PySem.W.Frag} {elts : List Expr} {kk : Nat} {tpos : Pos} (a e it : Addr) :
    Turn P w K (.Tuple elts kk tpos) (Ite K a) [e, it] e (fun i h => (∃ old, IsEnum h e it ((i : Nat) : Int) old) ∧ h.IsListIter it a i ∧ e ≠ it) where
  mem := by simp
  obj := fun i h st b hb => by
    obtain ⟨⟨old, he⟩, ⟨o, ho, hc, hd⟩, _⟩ := st
    have e' : b = e ∨ b = it := by simpa using hb
    rcases e' with z | z
    · rw [z]; exact ⟨_, he, fun v q => nomatch q⟩
    · rw [z]; exact ⟨o, ho, fun v q => by rw [hd] at q; cases q⟩
  keep := fun i h h' st k => let ⟨⟨old, he⟩, hi, hne⟩ := st; ⟨⟨old, k e (by simp) _ he⟩, hi.at fun o q => k it (by simp) o q, hne⟩
  item := by
    intro X hP hw hK hc i pins s σ H E I hf st hg
    subst hP hw hK
    obtain ⟨⟨old, he⟩, hit, hne⟩ := st
    obtain ⟨xs, x, hq, hx⟩ := hg
    obtain ⟨its, rv, p, hz⟩ := I.list hq
    obtain ⟨u, hu, ru⟩ := rv.get hx
    have hel : e < s.heap.objs.size := Heap.lt_size he
    have hil : it < s.heap.objs.size := by obtain ⟨_, q, _⟩ := hit; exact Heap.lt_size q
    refine wpAny_pyNext_enum_item he hit p.isList (x := u) (by simpa using hu) hne fun h' ho hit' hT hsz hk => ?_
    refine ⟨_, rfl, wpAny_letOwnedTupleGo_enum (s := { s with heap := h', toks := s.toks + 1 }) ho fun h'' he' sb => ?_⟩
    have hT2 : h''.get? s.heap.objs.size = some { cls := .type "tuple", data := .seq #[.int i s.toks, u] } := (sb.2 _ (Nat.ne_of_gt hel)).trans hT
    have new : ObjOk X.prog X.w (upd H s.heap.objs.size (.tup [.int (i : Nat), x])) h'' s.heap.objs.size (.tup [.int (i : Nat), x]) :=
      ⟨by show 2 ≤ sizeLine; decide, [.int i s.toks, u], .cons ⟨_, rfl⟩ (.cons ru .nil), ⟨_, hT2, rfl, _, rfl⟩⟩
    have I1 : Inv X pins σ (upd H s.heap.objs.size (.tup [.int (i : Nat), x])) { s with heap := h'', toks := s.toks + 1 } :=
      I.turnedNew (ch := [e, it]) (fun b ob hb q => (sb.2 b (fun z => hb (by simp [z]))).trans (hk b ob (fun z => hb (by simp [z])) (fun z => hb (by simp [z])) q)) hf (Nat.le_refl _) new
    refine ⟨.ref s.heap.objs.size, _, I1, rfl, ⟨_, x, rfl, I.hok.fresh (Nat.le_refl _), rfl, fun ys hy => by rw [I.list_inj hy hq]; exact hx⟩, ⟨⟨u, ?_⟩, hit'.at fun o q => (sb.2 it (Ne.symm hne)).trans q, hne⟩, fun b hb => ?_⟩
    · have e1 : ((i + 1 : Nat) : Int) = (i : Int) + 1 := by omega
      rw [e1]; exact he'
    · have hb' : b < s.heap.objs.size := by
        have e' : b = e ∨ b = it := by simpa using hb
        rcases e' with z | z
        · rw [z]; exact hel
        · rw [z]; exact hil
      rw [upd_ne (Nat.ne_of_lt hb')]
      exact (hf b hb).1
  done := by
    intro X hP hw hK hc i pins s σ H E I hf st hg
    subst hP hw hK
    obtain ⟨⟨old, he⟩, hit, hne⟩ := st
    obtain ⟨xs, hq, hx⟩ := hg
    obtain ⟨its, rv, p, hz⟩ := I.list hq
    obtain ⟨f0, f1, f2, f3, f4, f5⟩ := hf it (by simp)
    have hl := rv.length
    exact wpAny_pyNext_enum_end (I.ok.hd hc) he hit p.isList (by simp; omega) fun h' eb => ⟨rfl, I.turned (t' := s.toks) (fun b o hb q => eb b o hb q) f0 f1 f3 f4 f5⟩
  self := fun A i s Q E st h => let ⟨⟨_, he⟩, _⟩ := st; wpAny_pyIter_enum he h
def iEnum (K : PySem.W.Frag) (ta : TA) : TI := fun σ H R => ta σ H fun vs H1 => ∃ a xs, vs = [.ref a] ∧ SqL K H1 a xs ∧ R (Ite K a) H1
theorem pi_enum {X : Cx} {e : Expr} {ta : TA} {p pos tpos : Pos} {elts : List Expr} {kk : Nat} (hg : Gl X "enumerate") (hm : X.mg "enumerate" = none) (ha : PA X [e] ta) (hs : starEach [e] X.env = [(false, eval e X.env)] := by rfl) :
    PI X (.Tuple elts kk tpos) (.Call (.Name "enumerate" p) [e] [] pos) (iEnum X.K ta) := by
  intro pins s σ H R I h
  refine Call_ (ld_blt I hg hm boot_enumerate (PyProof.Rows.callWith_type1 (thn (ha pos pins s σ H _ I h) fun us s1 ⟨vs, H1, I1, r1, q1⟩ => ?_) hs rfl))
  obtain ⟨a, xs, ex, hq, q⟩ := q1
  subst ex
  cases r1 with
  | cons r rr =>
    cases rr
    cases r
    obtain ⟨its, rv, p', hz⟩ := I1.list hq
    refine call_enumerate_list p'.isList fun h' he hit hsz hk => wpAny_pyIter_enum he ?_
    have I2 : Inv X pins σ H1 { s1 with heap := h' } := I1.kept (t' := s1.toks) hk
    refine ⟨s1.heap.objs.size + 1, [s1.heap.objs.size + 1, s1.heap.objs.size], _, _, H1, rfl, I2, turn_enum a (s1.heap.objs.size + 1) s1.heap.objs.size, ⟨⟨.none, he⟩, hit, Nat.succ_ne_self _⟩, fun b hb => ?_, q⟩
    have e' : b = s1.heap.objs.size + 1 ∨ b = s1.heap.objs.size := by simpa using hb
    have hle : s1.heap.objs.size ≤ b := by
      rcases e' with z | z
      · rw [z]; exact Nat.le_add_right _ _
      · rw [z]; exact Nat.le_refl _
    exact I1.fpOk hle (I1.hok.fresh hle)
/-! ### zip(list, list) -/
end L2

section 
namespace Bits
open PySem PyProof.Rows

end Bits
end 

section 
namespace TL
open PySem PySem.Builtin PySem.Builtin.Str PySem.StrLaws

abbrev tl (x : Str) : List Nat := x.cps.toList
/-! ### the list functions -/
/-- S stands at the head of l -/
def pre (S l : List Nat) : Bool := l.take S.length == S
/-- l cut at each S from the left; k signs are still to be passed over -/
def spl (S : List Nat) : Nat → List Nat → List Nat → List (List Nat)
  | _, acc, [] => [acc]
  | 0, acc, c :: r => if pre S (c :: r) = true then acc :: spl S (S.length - 1) [] r else spl S 0 (acc ++ [c]) r
  | k + 1, acc, _ :: r => spl S k acc r
/-- what stands before the first S, and behind it -/
def par (S : List Nat) : List Nat → List Nat → Option (List Nat × List Nat)
  | _, [] => none
  | acc, c :: r => if pre S (c :: r) = true then some (acc, (c :: r).drop S.length) else par S (acc ++ [c]) r

/-! ### the model's split and partition are these -/
/-! ### computing spl and par -/
/-! ### digits -/
/-- the signs of a number -/
def numL (n : Nat) : List Nat := (Nat.toDigits 10 n).map Char.toNat
/-! ### words: x.split() -/
end TL
end 

namespace L2
open PySem PySem.Spec PyProof.Rows

section
variable {X : Cx} {pins : List (Addr × Obj)} {σ : St} {H : Hp} {s : Shared} {Q : VK}
end

section
variable {X : Cx}

/-! ### of a text alone -/
/-! ### of a text and a text -/
end

section
variable {X : Cx} {o e : Expr} {to te : TE}
end
end L2

namespace L2
open PySem PySem.Spec PyProof.Rows

section
variable {X : Cx}
theorem op_le_str : OpR X (compareOp .LtE) (fun x y H Q => ∃ i j, x = .str i ∧ y = .str j ∧ Q (.bl (!decide (j.cps.toList < i.cps.toList))) H) := by
  intro pins s σ H x y v u Q I rx ry h
  obtain ⟨i, j, rfl, rfl, q⟩ := h
  obtain ⟨t, rfl⟩ := rx
  obtain ⟨t', rfl⟩ := ry
  exact PySem.P.le_str (fin_bl I q rfl)
end

/-! ### slices of a text -/
theorem IsPart.raw {v : Value} {o : Option Int} (p : IsPart v o) : ∃ l : Option (Int × Tok), v = partValue l ∧ l.map (·.1) = o := by
  cases p with
  | none => exact ⟨none, rfl, rfl⟩
  | int i t => exact ⟨some (i, t), rfl, rfl⟩

end L2

namespace Att
open PySem PySem.W PySem.Calls PyProof.Rows

/-! ### the script -/
theorem ints_of_wellAll {P : Params} {h : Heap} : ∀ (ns : List Int) (vs : List Value), WellAll P h vs (ns.map WData.int) → IntsAre vs ns := by
  intro ns
  induction ns with
  | nil =>
    intro vs w
    rw [List.map_nil] at w
    cases w
    exact .nil
  | cons n ns ih =>
    intro vs w
    rw [List.map_cons] at w
    cases w with
    | cons a b =>
      cases a
      exact .cons _ _ (ih _ b)

theorem script_of {l : OpenLaw} {n : Nat} (hn : l.most = some n) {P : Params} {h : Heap} {args : List WData} {vals : List Value}
    (hpre : l.row.toRowW.claim.pre args = true) (hwl : WellAll P h vals args) :
    ∃ a vs ns, vals = [Value.ref a] ∧ args = [WData.list (ns.map WData.int)] ∧ h.get? a = some { cls := .type "list", data := .seq vs.toArray } ∧ IntsAre vs ns ∧ ns.length ≤ n := by
  have hsh : WShape.hasAll [] args [.list .int] = true := (pre_splitW hpre).1
  have hc : l.pre.holds [] { args := args } = true := (pre_splitW hpre).2
  obtain ⟨d, r, rfl, h1, h2⟩ := hasAllW_cons hsh
  obtain rfl := hasAllW_nil h2
  obtain ⟨xs, rfl, h3⟩ := hasW_list h1
  obtain ⟨ns, rfl⟩ := items_int h3
  have hlen : ns.length ≤ n := by
    unfold OpenLaw.pre at hc
    have h4 : (WTm.not (.lt (.lit (.int (n : Int))) (.len (.arg 0)))).holds [] { args := [.list (ns.map .int)] } = true := by
      have h4 := (holds_andW hc).1
      rw [hn] at h4
      exact h4
    have h5 := condW_of h4 (w_not (w_lt w_lit (w_len_list (w_arg rfl))))
    rw [List.length_map] at h5
    refine Nat.le_of_not_lt fun q => ?_
    have q' : (n : Int) < ((ns.length : Nat) : Int) := by omega
    first
      | (rw [decide_eq_true q'] at h5; exact absurd h5 (by decide))
      | (simp at h5; omega)
  cases hwl with
  | cons w1 w2 =>
    cases w2
    cases w1 with
    | list ho hall => exact ⟨_, _, ns, rfl, rfl, ho, ints_of_wellAll ns _ hall, hlen⟩

theorem post_true (l : OpenLaw) (args : List WData) : l.row.toRowW.claim.post args (.bool true) args = true :=
  postW_of (r := l.row.toRowW) (X := (true == true))
    (show WShape.has [] (.bool true) .bool = true by first | rfl | decide | simp [WShape.has, WShape.arms, WShape.armsAll])
    (show (WTm.eq .res (.lit (.bool true))).value [] { args := args, res := some (.bool true), after := args } = some (.bool (true == true)) from w_eq_bool (w_res rfl) w_lit) rfl

/-! ### the attachment: holds_open's last premise (the goal 'hc' behind k_head) from a wpAny of the law's body -/
/-- the same from a codeAny of the CALL (for a layer whose function contracts speak of calls) -/
theorem attach_call {l : OpenLaw} {n : Nat} {q : Program} {loose : List Str} {XP : (Str → Option Value) → Heap → Prop} {YP : World → Heap → Prop} {d : DefRec}
    (hn : l.most = some n) (hdf : d.params.defaults = [])
    (call : ∀ (w : World) (s₀ s₁ : Shared) (mg mb : Str → Option Value) (fa : Addr) (o : Obj) (pm cd doc : Value) (a : Addr) (vs : List Value) (ns : List Int),
      Ground q loose [] XP w s₀ mg mb s₁.heap → YP w s₁.heap →
      s₁.heap.get? fa = some o → o.data = .func (docDef d.name d.params d.body d.scope pm cd doc) → s₁.heap.CodeRec cd d.name → mg d.name = some (.ref fa) →
      s₁.heap.get? a = some { cls := .type "list", data := .seq vs.toArray } → IntsAre vs ns → ns.length ≤ n → s₁.gens = #[] →
      codeAny (model l.prog w) callerA (.call (.ref fa) ⟨[.ref a], []⟩) (fun r s' => r = .ok (.ret (.bool true)) ∧ OldK s₁.heap s'.heap ∧ s'.os = s₁.os ∧ AllBare s'.gens) s₁) :
    WalkO q loose XP YP l.row.toRowW d [] (fun f vs => PySem.call f vs) := by
  intro w s₀ s₁ mg mb G Y fa o pm cd doc dV kV ho hd hcd hD hmg hg args vals as hpre hlay hrd hwl hlo
  obtain rfl : dV = .none := Dflts.none hD hdf
  obtain rfl : kV = .none := Dflts.noKw hD
  obtain ⟨a, vs, ns, rfl, rfl, hobj, hints, hlen⟩ := script_of hn hpre hwl
  refine enter_call (codeAny_mono (call w s₀ s₁ mg mb fa o pm cd doc a vs ns G Y ho (fd_plain hd) hcd hmg hobj hints hlen hg) fun r s' hq => ?_)
  obtain ⟨rfl, h2, h3, h4⟩ := hq
  exact ⟨.inl ⟨.bool true, .bool true, [], rfl, fun _ => rfl, .bool true, post_true l _, fun _ => ⟨List.Pairwise.nil, fun _ hm => (nomatch hm)⟩⟩, h2, h3, h4⟩

/-! ### rules over ANY heap (no ledger) from facts about the written part K: the library's own take a ledger (News) for what they write -/
section
variable {prog : Program} {w : World} {A : Around} {E : Value → Shared → Prop} {s : Shared} {K : Frag}

/-! the whole heap as the ledger: makes every rule that writes through a ledger a rule over any heap -/
def ledger (h : Heap) (L d : Addr) : List (Addr × Obj) := (List.range h.objs.size).filterMap fun a => if a = L ∨ a = d then none else (h.get? a).map fun o => (a, o)
end
end Att

namespace L2
open PySem PySem.Spec PyProof.Rows

theorem vals_ints : ∀ {vs : List Value} {ns : List Int}, IntsAre vs ns → Vals (ns.map V.int) vs
  | _, _, .nil => .nil
  | _, _, .cons n t h => .cons ⟨t, rfl⟩ (vals_ints h)

end L2

namespace L2
open PySem PySem.Spec PyProof.Rows

end L2

/-! SHORT WORDS over the layer: a def of the text, its body, what a loop and a test want. -/
namespace L2
open PySem PySem.Spec PyProof.Rows

/-! ### the text by places -/
/-- the j-th statement of a class's body -/
def inClass (s : Stmt) (j : Nat) : Stmt := match s with
  | .ClassDef _ _ _ body _ _ _ _ _ _ _ => body.getD j (.Pass ⟨0, 0, 0, 0⟩)
  | _ => .Pass ⟨0, 0, 0, 0⟩
def defArgs (s : Stmt) : Arguments := match s with
  | .FunctionDef _ a _ _ _ _ _ _ _ _ => a
  | _ => { posonlyargs := [], args := [], vararg := none, kwonlyargs := [], kw_defaults := [], kwarg := none, defaults := [] }
def defBody (s : Stmt) : List Stmt := match s with
  | .FunctionDef _ _ b _ _ _ _ _ _ _ => b
  | _ => []
def defScope (s : Stmt) : Scope := match s with
  | .FunctionDef _ _ _ _ _ _ sc _ _ _ => sc
  | _ => { kind := .function, names := [], isGenerator := false, isCoroutine := false }

/-! ### no exception leaves a def -/
abbrev CX0 : CXT := fun _ _ _ _ _ _ => False
abbrev E0 : XK := fun _ _ _ => False
theorem pass0 {X : Cx} : Passes CX0 X E0 := fun _ _ _ _ _ _ _ h => h.elim

/-! ### a def (or method) of the text as it stands behind the top -/
structure Fun (K : PySem.W.Frag) (x qual : Str) (st : Stmt) (f : Addr) (fd : FuncData) : Prop where
  ex : ∃ (oc : Value) (od : Option Addr) (kV doc pm : Value) (an : Option Addr) (cdv ct : Value) (osl : Array (Option Value)),
    fd = PySem.W.fnOf x qual (defArgs st) (defBody st) (defScope st) .none kV doc pm an cdv ct ∧ K.lookup f = some ⟨oc, od, .func fd, osl⟩ ∧ PySem.W.codeIn K cdv qual = true
  kp : PySem.W.keepIn K (.ref f) = true
section
variable {P : Program} {w : World} {K : PySem.W.Frag} {mg : Str → Option Value} {base : Heap}
/-- THE RULE for a def: its body as a term of rules, and the reading of that term -/
theorem Fun.ok {x qual : Str} {st : Stmt} {f : Addr} {fd : FuncData} {N ps : List Str} {k : Nat} {sp : Sp} (F : Fun K x qual st f fd) (S : FnScope N ps (defScope st)) (len : ∀ vs H Q E, sp vs H Q E → vs.length = ps.length)
    (hbody : ∀ (cdv : Value) (A : Around) (outer : List Env) (s : Shared) (H : Hp) (vs : List V) (Q : VK) (E : XK), Room k (A.deeper (envOfC qual (defScope st) s.heap.objs.size f cdv)) → sp vs H Q E →
      ∃ t, PSs (cxOf CX0 P w K mg base N qual (defScope st) f cdv A outer s H E).nox (defBody st) t ∧ t { nx := fun _ H' => Q .non H', rt := Q } (start N vs) H) : FnOk P w K mg base CX0 (k + 1) f fd ps sp := by
  obtain ⟨oc, od, kV, doc, pm, an, cdv, ct, osl, rfl, lk, hcd⟩ := F.ex
  refine fn_of lk hcd S len fun A outer s H vs Q E hr hsp => ?_
  obtain ⟨t, h, q⟩ := hbody cdv A outer s H vs Q E hr hsp
  exact ⟨t, h.nox, q⟩
/-- how its arguments bind (no defaults): h is «fun _ _ _ _ _ _ us hl => match us, hl with | [_, _], _ => rfl», one _ a parameter -/
theorem Fun.binds {x qual : Str} {st : Stmt} {f : Addr} {fd : FuncData} {ps : List Str} (F : Fun K x qual st f fd)
    (h : ∀ (kV doc pm : Value) (an : Option Addr) (cdv ct : Value) (us : List Value), us.length = ps.length → bindArgs (PySem.W.fnOf x qual (defArgs st) (defBody st) (defScope st) .none kV doc pm an cdv ct) ⟨us, []⟩ = pure (ps.zip us)) : Binds K fd ps [] := by
  obtain ⟨oc, od, kV, doc, pm, an, cdv, ct, osl, rfl, lk, hcd⟩ := F.ex
  exact .all (h kV doc pm an cdv ct)
theorem fun_mk {x qual : Str} {st : Stmt} {f : Addr} {oc : Value} {od an : Option Addr} {osl : Array (Option Value)} {kV doc pm cdv ct : Value} (l : K.lookup f = some ⟨oc, od, .func (PySem.W.fnOf x qual (defArgs st) (defBody st) (defScope st) .none kV doc pm an cdv ct), osl⟩)
    (c : PySem.W.codeIn K cdv qual = true) (k : PySem.W.keepIn K (.ref f) = true) : Fun K x qual st f (PySem.W.fnOf x qual (defArgs st) (defBody st) (defScope st) .none kV doc pm an cdv ct) := ⟨⟨oc, od, kV, doc, pm, an, cdv, ct, osl, rfl, l, c⟩, k⟩
end
theorem hu_of {A : Around} {k : Nat} (hr : Room k A) : A.units + 1 < cLine := Nat.lt_of_le_of_lt (Nat.add_le_add_left (by decide : 1 ≤ 64) _) hr.units
/-! ### expressions in short: the name that stands in the i-th slot -/
section
variable {X : Cx}
theorem pv (i : Nat) {x : Str} {pos : Pos} (hN : X.N[i]? = some x := by rfl) (hv : Vis X.env.scope x := by first | exact Or.inl rfl | exact Or.inr (Or.inl rfl) | exact Or.inr (Or.inr rfl)) (hd : (x == ("__debug__" : Str)) = false := by decide)
    (hcd : (x == ("__classdict__" : Str)) = false := by decide) : PE X (.Name x pos) (tVar i) := pe_var hN hv hd hcd
end

/-! ### tests -/
theorem iteF {A B : Prop} (h : B) : if false = true then A else B := by
  rw [if_neg Bool.false_ne_true]
  exact h
theorem iteT {A B : Prop} (h : A) : if true = true then A else B := by
  rw [if_pos rfl]
  exact h
/-! ### heaps -/
/-- all that was tracked is as it was -/
def Same (H H' : Hp) : Prop := ∀ b o, H b = some o → H' b = some o
theorem Same.refl (H : Hp) : Same H H := fun _ _ h => h
theorem Same.trans {H H1 H2 : Hp} (a : Same H H1) (b : Same H1 H2) : Same H H2 := fun c o h => b c o (a c o h)
theorem Same.free {H H' : Hp} (e : Same H H') {l : Addr} (h : H' l = Option.none) : H l = Option.none := by
  cases q : H l with
  | none => rfl
  | some o =>
    rw [e l o q] at h
    cases h
theorem Same.seq {K : PySem.W.Frag} {H H' : Hp} {a : Addr} {xs : List V} (e : Same H H') (h : SqL K H a xs) : SqL K H' a xs := by
  rcases h with (h | ⟨o, h⟩) | h
  · exact .inl (.inl (e _ _ h))
  · exact .inl (.inr ⟨o, e _ _ h⟩)
  · exact .inr h

/-! ### a dict's pairs: keys that differ -/
section
variable {κ : Type} [DecidableEq κ]
theorem nd_snoc : ∀ {l : List κ} {k : κ}, l.Nodup → ¬ k ∈ l → (l ++ [k]).Nodup
  | [], k, _, _ => by simp
  | a :: r, k, h, hk => by
    obtain ⟨h1, h2⟩ := List.nodup_cons.mp h
    show (a :: (r ++ [k])).Nodup
    refine List.nodup_cons.mpr ⟨fun m => ?_, nd_snoc h2 fun m => hk (List.mem_cons.mpr (Or.inr m))⟩
    rcases List.mem_append.mp m with q | q
    · exact h1 q
    · exact hk (List.mem_cons.mpr (Or.inl (List.mem_singleton.mp q).symm))
end
/-! ### lists -/
theorem at_of {xs : List V} {z : Int} {j : Nat} {v : V} (e : z = (j : Int)) (h : xs[j]? = some v) : atI xs z = some v := by
  rw [e]
  exact atI_nat h
/-- a new instance and its __init__ leave all that was tracked as it was -/
theorem Same.made {H H1 : Hp} {x dx C : Addr} (nx : H x = Option.none) (nd : H dx = Option.none) (k : ∀ b o, (upd (upd H dx (.own x)) x (.ins C dx [])) b = some o → b ≠ x → H1 b = some o) : Same H H1 := fun b o e =>
  k b o (by rw [upd_ne (ne_of_none e nx), upd_ne (ne_of_none e nd)]; exact e) (ne_of_none e nx)
end L2

set_option Elab.async false
set_option linter.all false
set_option maxRecDepth 100000
/-! generator expressions within all(..): my own rules over the hand layer -/
namespace MG
open PySem PySem.Spec PyProof.Rows L2

/-! ### the generators' table never shrinks -/
theorem runs_gens {M : Model} {Γ : PySem.Ctx} {p : Pos} {t : Sem Fin} {fs : List Frame} {s s' : Shared} {e : End} (h : Runs M Γ p t fs s e s') : s.gens.size ≤ s'.gens.size := by
  induction h <;> (try simp only [Shared.setGen, Array.size_setIfInBounds, Array.size_push] at *) <;> omega
theorem wakes_gens {M : Model} {Γ : PySem.Ctx} {p : Pos} {g : Nat} {r : Resume} {s s' : Shared} {res : GenResult} (h : Wakes M Γ p g r s res s') : s.gens.size ≤ s'.gens.size := by
  have z : ∀ (u : Shared) (x : GenState), (u.setGen g x).gens.size = u.gens.size := fun u x => by simp [Shared.setGen]
  unfold Wakes at h
  split at h
  · exact h.elim
  · split at h
    · obtain ⟨e1, s1, hr, _, _, rfl⟩ := h
      have q := runs_gens hr
      rw [z] at q ⊢
      exact q
    · exact Nat.le_of_eq (by rw [h.2])
    · exact Nat.le_of_eq (by rw [h.2, z])
  · obtain ⟨e1, s1, hr, _, _, rfl⟩ := h
    have q := runs_gens hr
    rw [z] at q ⊢
    exact q
  · exact Nat.le_of_eq (by rw [h.2])
  · exact Nat.le_of_eq (by rw [h.2])
theorem wp_gens {α : Type} (M : Model) (Γ : PySem.Ctx) (n : Nat) (t : Sem α) : ∀ (Q : α → Pos → Shared → Prop) (E : Value → Pos → Shared → Prop) (p : Pos) (s : Shared), n ≤ s.gens.size → Sem.wp M Γ t Q E p s →
    Sem.wp M Γ t (fun a p' s' => n ≤ s'.gens.size ∧ Q a p' s') (fun e p' s' => n ≤ s'.gens.size ∧ E e p' s') p s := by
  induction t
  all_goals intro Q E p s hn h
  case call ih => exact h.elim fun r h => h.elim fun s' h => ⟨r, s', h.1, ih r _ _ _ s' (Nat.le_trans hn (runs_gens h.1)) h.2⟩
  case resume ih => exact h.elim fun r h => h.elim fun s' h => ⟨r, s', h.1, ih r _ _ _ s' (Nat.le_trans hn (wakes_gens h.1)) h.2⟩
  case newGen ih => exact ih _ _ _ _ _ (Nat.le_trans hn (by simp)) h
  all_goals first
    | exact h
    | exact ⟨hn, h⟩
    | (rename_i ih; exact ih _ _ _ _ _ hn h)
    | (rename_i ih; exact ⟨h.1, ih _ _ _ _ _ hn h.2⟩)
    | (rename_i ih; exact h.elim fun o h => ⟨o, h.1, ih _ _ _ _ _ hn h.2⟩)
theorem with_gens {α : Type} {M : Model} {A : Around} {s : Shared} {t : Sem α} {Q : α → Shared → Prop} {E : Value → Shared → Prop} {n : Nat} (hn : n ≤ s.gens.size)
    (h : wpAny M A t (fun a s' => n ≤ s'.gens.size → Q a s') E s) : wpAny M A t Q E s := by
  have h2 : wpAny M A t (fun a s' => n ≤ s'.gens.size ∧ (n ≤ s'.gens.size → Q a s')) (fun e s' => n ≤ s'.gens.size ∧ E e s') s := fun Γ p hΓ => wp_gens M Γ n t _ _ p s hn (h Γ p hΓ)
  exact wpAny_mono h2 (fun _ _ x => x.2 x.1) (fun _ _ x => x.2)
end MG

set_option Elab.async false
set_option linter.all false
set_option maxRecDepth 100000
namespace MG
open PySem PySem.Spec PyProof.Rows L2

/-! ### a code object's table, as a thing that the abstract heap tracks by one constant word -/
def tabH (P : Addr) : HO := .ext fun h => ∃ ps, h.get? P = some (PySem.W.tabObj ps) ∧ TriplesOk ps.toList
theorem upd_id {H : Hp} {a : Addr} {o : HO} (h : H a = some o) : upd H a o = H := by
  funext b
  by_cases e : b = a
  · subst e; rw [upd_same, h]
  · rw [upd_ne e]
theorem tab_ok {P : Program} {w : World} {H : Hp} {h : Heap} {a : Addr} {ps : Array Value} (e : h.get? a = some (PySem.W.tabObj ps)) (t : TriplesOk ps.toList) : ObjOk P w H h a (tabH a) :=
  ⟨⟨ps, e, t⟩, ⟨_, e⟩, fun _ _ ⟨ps, e, t⟩ k => ⟨ps, k _ e, t⟩⟩

section
variable {X : Cx} {pins : List (Addr × Obj)} {σ : L2.St} {H : Hp} {s : Shared}
/-- the code of a generator expression: found in the table, or laid into it -/
theorem code_ok {E : Value → Shared → Prop} {c P : Addr} {pos : Pos} {qn : Str} {scope : Scope} {Q : Value → Shared → Prop} (I : Inv X pins σ H s) (hc : X.env.code = .ref c) (hK : PySem.W.codeHdIn X.K c P = true) (hP : H P = some (tabH P))
    (hQ : ∀ code s', Inv X pins σ H s' → s'.gens = s.gens → s'.os = s.os → (∀ b o, b ≠ P → s.heap.get? b = some o → s'.heap.get? b = some o) → Q code s') : wpAny (model X.prog X.w) X.A (genexprCode X.env pos qn scope) Q E s := by
  obtain ⟨⟨ps, hps, htr⟩, _, _⟩ := I.hok P _ hP
  obtain ⟨o, vs, file, tf, flags, tg, inF, text, tt, op, ho, hd, h11, h2, h7, h9, h10, hop, hpd, _, hne⟩ := (PySem.W.codeHd_of_K I.kIn hK).code hps htr
  have eop : op = PySem.W.tabObj ps := Option.some.inj (hop.symm.trans hps)
  subst eop
  unfold genexprCode codeAt
  rw [hc, if_neg (show ¬ ((Value.ref c == Value.none) = true) from Bool.false_ne_true)]
  refine wpAny_bind (wpAny_fieldsOf ho hd ?_)
  rw [h11]
  refine wpAny_bind (wpAny_fieldsOf hop hpd ?_)
  cases q : codeAmong pos ps.toList with
  | some cv => exact wpAny_pure (hQ cv s I rfl rfl fun _ _ _ e => e)
  | none =>
    rw [h2, h7, h9, h10]
    refine wpAny_bind (wpAny_newCode fun c1 P1 g1 tk kp _ _ _ _ => ?_)
    have hop1 := kp _ _ hop
    refine wpAny_bind (wpAny_updateFieldsOfTheText hop1 hpd ?_)
    generalize ef : (fun l : Array Value => if (codeAmong pos l.toList).isSome = true then l else l ++ #[rawInt pos.line, rawInt pos.col, Value.ref c1]) = f
    have eobj : Obj.mapFields f (PySem.W.tabObj ps) = PySem.W.tabObj (ps ++ #[rawInt pos.line, rawInt pos.col, .ref c1]) := by
      have e1 : f ps = ps ++ #[rawInt pos.line, rawInt pos.col, .ref c1] := by
        rw [← ef]
        show (if (codeAmong pos ps.toList).isSome = true then _ else _) = _
        rw [q]
        all_goals rfl
      show PySem.W.tabObj (f ps) = _
      rw [e1]
    have hget : (g1.update P (Obj.mapFields f)).get? P = some (PySem.W.tabObj (ps ++ #[rawInt pos.line, rawInt pos.col, .ref c1])) := by
      have z := Heap.get?_update_self (h := g1) (Obj.mapFields f) hop1 (by rw [eobj]; rfl)
      rw [eobj] at z
      exact z
    refine wpAny_bind (wpAny_fieldsOf hget rfl ?_)
    have el : (ps ++ #[rawInt pos.line, rawInt pos.col, Value.ref c1]).toList = ps.toList ++ [rawInt pos.line, rawInt pos.col, .ref c1] := by simp
    rw [el, codeAmong_snoc _ htr q]
    have old : ∀ b u, b ≠ P → s.heap.get? b = some u → (g1.update P (Obj.mapFields f)).get? b = some u := fun b u hb e => (Heap.SameBut.update g1 P (Obj.mapFields f)).extBut b u hb (kp b u e)
    have I2 : Inv X pins σ (upd H P (tabH P)) { s with heap := g1.update P (Obj.mapFields f), toks := tk } :=
      I.write (by rw [hP]; trivial) (.inl rfl) old ⟨_, hget⟩ (tab_ok hget (by rw [el]; exact TriplesOk_snoc _ _ _ _ htr))
    rw [upd_id hP] at I2
    exact wpAny_pure (hQ _ _ I2 rfl rfl old)
end
end MG

set_option Elab.async false
set_option linter.all false
set_option maxRecDepth 100000
namespace MG
open PySem PySem.Spec PyProof.Rows L2

/-- the scope of a generator expression that captures nothing; N: its own names -/
structure GScope (N : List Str) (sc : Scope) : Prop where
  kind : sc.kind = .function
  co : sc.isCoroutine = false
  nd : N.Nodup
  dot : sc.names.lookup (".0" : Str) = some .local
  noc : ∀ y ∈ sc.names, y.2 ≠ .cell
  nof : ∀ y ∈ sc.names, y.2 ≠ .free
theorem clo_nil {cells : List (Str × Addr)} : ∀ {names : List (Str × NameKind)} {acc : List (Str × Addr)}, (∀ y ∈ names, y.2 ≠ .free) → cloFrom cells names acc = acc
  | [], _, _ => rfl
  | (n, k) :: r, acc, h => by
    unfold cloFrom
    have hk : ¬ (k == NameKind.free) = true := by simpa using h (n, k) List.mem_cons_self
    rw [if_neg hk]
    exact clo_nil fun y hy => h y (List.mem_cons_of_mem _ hy)
theorem GScope.clo {N : List Str} {sc : Scope} (G : GScope N sc) (env : Env) : closureFor sc env = pure [] := by
  rw [closure_ok fun y hy e => absurd e (G.nof y hy), clo_nil G.nof]

/-- the context of a generator's body: s, H its entry; fp the objects of the iterator that it walks -/
abbrev genCx (X : Cx) (A' : Around) (N : List Str) (s : Shared) (H : Hp) (cenv : Env) (fp : List Addr) : Cx :=
  { X with A := A', N := N, s_0 := s, H_0 := H, env := cenv, outer := X.stack, stack := cenv :: X.stack, ex := fp, fn := fun _ => true, pn := [], xe := fun _ _ => False }
abbrev noSt (N : List Str) : L2.St := List.replicate N.length none
abbrev genObj (g : Nat) (x y : Value) : Obj := { cls := .type "generator", data := .fields #[.int g 0, x, y] }

section
variable {X : Cx} {pins : List (Addr × Obj)} {σ : L2.St} {H : Hp} {s : Shared}
theorem gen_start {A' : Around} {N : List Str} {scope : Scope} {code : Value} {fp : List Addr} {it : Value} {h' : Heap} {tk : Nat} {gs : GenState} {x y : Value} (I : Inv X pins σ H s) (G : GScope N scope) (hA : A'.frames = some (genEnv scope [] s.heap.objs.size code builtinsNs X.env :: X.stack)) (hh : X.calm = true → A'.handled = none)
    (hfp : ∀ b ∈ fp, FpOk X pins H b ∧ b < s.heap.objs.size) (hns : h'.Ns s.heap.objs.size (fun z => if z = ".0" then some it else none)) (hsb : Heap.SameBut s.heap.objs.size (s.heap.push { cls := .type "frame", data := .dict #[] }) h') (hgs : gs.bare = true) :
    Inv (genCx X A' N s H (genEnv scope [] s.heap.objs.size code builtinsNs X.env) fp) [(h'.objs.size, genObj s.gens.size x y)] (noSt N) H { s with gens := s.gens.push gs, toks := tk, heap := h'.push (genObj s.gens.size x y) } := by
  have hsz : h'.objs.size = s.heap.objs.size + 1 := by rw [hsb.1, Heap.size_push]
  have kp : ∀ b o, s.heap.get? b = some o → (h'.push (genObj s.gens.size x y)).get? b = some o := fun b o e =>
    Heap.get?_push_of_some _ (hsb.extBut b o (Nat.ne_of_lt (Heap.lt_size e)) (Heap.get?_push_of_some _ e))
  have nocell : ∀ (z : Str) (c : Addr), (genEnv scope [] s.heap.objs.size code builtinsNs X.env).cells.lookup z = some c → False := fun z c e => by
    have e' : ([] : List (Str × Addr)).lookup z = some c := e
    cases e'
  have ok : (genCx X A' N s H (genEnv scope [] s.heap.objs.size code builtinsNs X.env) fp).Ok := by
    refine ⟨I.ok.mod, G.kind, I.ok.glob, rfl, Nat.le_refl _, fun y z c e1 e2 => (nocell y c e1).elim, fun y hy => ?_, fun y c _ e => (nocell y c e).elim, hh, hA, .inr ⟨rfl, rfl⟩, fun b hb => ⟨Nat.ne_of_lt (hfp b hb).2, fun y c e => (nocell y c e).elim⟩,
      I.bs, Nat.le_trans I.ok.bsz I.sz, fun b o e hb => ?_, fun b hb z => ?_, I.stack, I.stkFree⟩
    · have hy : scope.names.lookup y = some .cell ∨ scope.names.lookup y = some .free := hy
      rcases hy with e | e
      · exact absurd rfl (G.noc _ (PySem.mem_of_lookup e))
      · exact absurd rfl (G.nof _ (PySem.mem_of_lookup e))
    · rcases (hfp b hb).1.2.2.2.1 with z | z
      · exact I.ok.noex b o e z
      · exact absurd (Nat.lt_of_lt_of_le (Heap.lt_size e) (Nat.le_trans I.ok.bsz z)) (Nat.lt_irrefl _)
    · rcases List.mem_cons.mp (I.stkSub b z) with z | z
      · exact (hfp b hb).1.2.1 z
      · exact (hfp b hb).1.2.2.1 z
  refine ⟨ok, rfl, I.bare.push hgs, Un.kept kp, ⟨_, hns.push _, fun i y v e1 e2 _ => ?_⟩, fun y c e => (nocell y c e).elim, I.hok.fresh (Nat.le_refl _), fun y c e => (nocell y c e).elim, fun p hp => ?_, I.hok.kept kp, by rw [List.length_replicate]⟩
  · rw [List.getElem?_replicate] at e2
    split at e2 <;> cases e2
  · have e : p = (h'.objs.size, genObj s.gens.size x y) := by simpa using hp
    subst e
    refine ⟨Heap.get?_push_size _ rfl, I.hok.fresh (by show s.heap.objs.size ≤ h'.objs.size; omega), by show h'.objs.size ≠ s.heap.objs.size; omega, fun hb => ?_, fun v z => by cases z⟩
    have hb : h'.objs.size ∈ frs X.stack := hb
    obtain ⟨_, o, ho, _⟩ := I.stack.mem hb
    have q : h'.objs.size < s.heap.objs.size := Heap.lt_size ho
    omega
end
end MG

set_option Elab.async false
set_option linter.all false
set_option maxRecDepth 100000
namespace MG
open PySem PySem.Spec PyProof.Rows L2

/-- the same state but for the generators' table and the counters -/
theorem inv_gens {X : Cx} {pins : List (Addr × Obj)} {σ : L2.St} {H : Hp} {s s' : Shared} (I : Inv X pins σ H s) (hh : s'.heap = s.heap) (ho : s'.os = s.os) (hg : AllBare s'.gens) : Inv X pins σ H s' := by
  obtain ⟨h', g', d', t', o'⟩ := s'
  obtain rfl : h' = s.heap := hh
  obtain rfl : o' = s.os := ho
  exact ⟨I.ok, I.os, hg, I.base, I.loc, I.cell, I.free, I.freeC, I.pin, I.hok, I.len⟩
/-- the heap has grown besides -/
theorem inv_more {X : Cx} {pins : List (Addr × Obj)} {σ : L2.St} {H : Hp} {s s' : Shared} (I : Inv X pins σ H s) (hk : ∀ b o, s.heap.get? b = some o → s'.heap.get? b = some o) (ho : s'.os = s.os) (hg : AllBare s'.gens) : Inv X pins σ H s' := by
  obtain ⟨h', g', d', t', o'⟩ := s'
  obtain rfl : o' = s.os := ho
  have I2 : Inv X pins σ H { s with heap := h', toks := t' } := I.kept hk
  exact ⟨I2.ok, I2.os, hg, I2.base, I2.loc, I2.cell, I2.free, I2.freeC, I2.pin, I2.hok, I2.len⟩
theorem bare_set {s : Shared} {g : Nat} {x : GenState} (h : AllBare s.gens) (hx : x.bare = true) : AllBare (s.setGen g x).gens := fun y hy => by
  have hy : y ∈ s.gens.setIfInBounds g x := hy
  rcases Array.mem_or_eq_of_mem_setIfInBounds hy with z | z
  · exact h y z
  · rw [z]; exact hx

/-- all(elt for tg in iter), the generator's own names N, the table of its def's code at P -/
def tAllG (P : Addr) (wi : TI) (g : TG) (te : TE) (N : List Str) : TE := fun σ H Q => wi σ H fun J H1 => H1 P = some (tabH P) ∧ ∃ W : Nat → Nat → Hp → Prop, (∃ m, W 0 m H1) ∧ ∀ i m H, W i m H →
  (J.stop i H ∧ Q (.bl true) H) ∨ (J.go i H ∧ ∃ Nx : Hp → Prop, (∀ H', Nx H' → ∃ m', m' < m ∧ W (i + 1) m' H') ∧ ∀ x H', J.yld i H x H' → g x (noSt N) H' fun σ2 H2 => te σ2 H2 fun y H3 => ∃ b, y = .bl b ∧ if b = true then Nx H3 else Q (.bl false) H3)

abbrev codeG (elt tg iter : Expr) (scope : Scope) (pos : Pos) (it : Addr) (ce : Env) : Code := .compLoop (.GeneratorExp elt [⟨tg, iter, [], 0⟩] scope pos) 0 (.ref it) .none ce
def protoG (Xg : Cx) (pin : Addr × Obj) (N : List Str) (Q : VK) : Protocol := fun _ _ v s kap => ∃ b H', v = .bool b ∧ Inv Xg [pin] (noSt N) H' s ∧
  if b = true then (∀ s'' : Shared, s''.heap = s.heap → s''.os = s.os → AllBare s''.gens → kap (.send .none) s'') else Q (.bl false) H'
def endG (Xg : Cx) (pin : Addr × Obj) (N : List Str) (Q : VK) : Nat → Shared → Shared → Prop := fun _ _ s₁ => ∃ H', Inv Xg [pin] (noSt N) H' s₁ ∧ Q (.bl true) H'

theorem seg_gen {X Xg : Cx} {A2 : Around} {N : List Str} {s0 : Shared} {H0 : Hp} {ce : Env} {fp : List Addr} {it : Addr} {tn : Nat → Heap → Prop} {J : It} {elt tg iter : Expr} {scope : Scope} {pos : Pos} {g : TG} {te : TE} {pin : Addr × Obj} {Q : VK} {W : Nat → Nat → Hp → Prop}
    (hX : Xg = genCx X (A2.over (codeG elt tg iter scope pos it ce) []) N s0 H0 ce fp) (hc : X.calm = true) (T : Turn X.prog X.w X.K tg J fp it tn) (hpin : ∀ b ∈ fp, pin.1 ≠ b) (pg : PG Xg tg g) (pe : PE Xg elt te) (hco : ce.scope.isCoroutine = false)
    (turn : ∀ i m H, W i m H → (J.stop i H ∧ Q (.bl true) H) ∨ (J.go i H ∧ ∃ Nx : Hp → Prop, (∀ H', Nx H' → ∃ m', m' < m ∧ W (i + 1) m' H') ∧ ∀ x H', J.yld i H x H' → g x (noSt N) H' fun σ2 H2 => te σ2 H2 fun y H3 => ∃ b, y = .bl b ∧ if b = true then Nx H3 else Q (.bl false) H3)) :
    ∀ (m n i : Nat) (sS s : Shared) (H : Hp), m < n → W i m H → Inv Xg [pin] (noSt N) H s → tn i s.heap → (∀ b ∈ fp, H b = none) →
      Seg (model X.prog X.w) A2 (fun n s₀ r s₁ => r = .ok .next ∧ endG Xg pin N Q n s₀ s₁) (protoG Xg pin N Q) n sS (codeG elt tg iter scope pos it ce) ((model X.prog X.w).den (codeG elt tg iter scope pos it ce)) [] s := by
  have stat : ∀ {σ' : L2.St} {H' : Hp} {s' : Shared}, Inv Xg [pin] σ' H' s' → (∀ b ∈ fp, H' b = none) → ∀ b ∈ fp, FpOk Xg [pin] H' b := fun {σ' H' s'} I' hn b hb => by
    subst hX
    refine ⟨hn b hb, (I'.ok.exf b hb).1, I'.ok.exfs b hb, .inl hb, fun x c e => (I'.ok.exf b hb).2 x c e, fun p hp => ?_⟩
    have e : p = pin := by simpa using hp
    rw [e]; exact hpin b hb
  have hxe : Xg.xe = fun _ _ => False := by rw [hX]
  have hA : Xg.A = A2.over (codeG elt tg iter scope pos it ce) [] := by rw [hX]
  have hP : Xg.prog = X.prog := by rw [hX]
  have hW : Xg.w = X.w := by rw [hX]
  have hKK : Xg.K = X.K := by rw [hX]
  have hcm : Xg.calm = true := by rw [hX]; exact hc
  have hE : Xg.env = ce := by rw [hX]
  intro m
  induction m using Nat.strongRecOn with
  | ind m ih =>
    intro n i sS s H hmn w0 I0 st0 n0
    show Seg _ A2 _ _ _ sS _ ((compTurn (.GeneratorExp elt [⟨tg, iter, [], 0⟩] scope pos) 0 (.ref it) .none ce).onRaise (leaving ce)) [] s
    rw [compTurn_gen, Sem.onRaise_eq_wrap]
    refine seg_bind_wrap (wpAny_standAt ?_)
    rcases turn i m H w0 with ⟨stop, qq⟩ | ⟨go, Nx, hNx, step⟩
    · have td := T.done Xg hP hW hKK hcm i [pin] s _ H (fun _ _ => False) I0 (stat I0 n0) st0 stop
      rw [hA] at td
      refine seg_bind_wrap (thnF td fun r s1 ⟨hr, I1⟩ => ?_)
      subst hr
      exact seg_end (.ok .next) ⟨rfl, H, I1, qq⟩
    · have ti := T.item Xg hP hW hKK hcm i [pin] s _ H (fun _ _ => False) I0 (stat I0 n0) st0 go
      rw [hA] at ti
      refine seg_bind_wrap (thnF ti fun r s1 ⟨u, hr, h1⟩ => ?_)
      subst hr
      refine seg_bind_wrap (thnF h1 fun _ s2 ⟨x, H2, I2, r2, y2, st2, n2⟩ => ?_)
      have I2' := I2.pinned (stat I2 n2) (T.obj _ _ st2)
      have q2 := pg _ s2 _ H2 x u _ I2' r2 (step x H2 y2)
      rw [hA, hP, hW, hxe, hE] at q2
      refine seg_bind_wrap (thnF q2 fun _ s3 ⟨σ3, H3, I3, q3⟩ => ?_)
      refine seg_bind_wrap (wpAny_tests_nil ?_)
      simp only [if_true]
      have hy : ∀ v, yieldOut ce v = yieldValue v := fun v => by simp only [yieldOut, hco, Bool.false_eq_true, if_false]
      simp only [hy]
      rw [Sem.bind_eq_wrap', Sem.bind_eq_wrap', Sem.wrap_wrap, Sem.wrap_wrap]
      have q4 := pe _ s3 σ3 H3 _ I3 q3
      rw [hA, hP, hW, hxe, hE] at q4
      refine seg_wrap (thnF q4 fun y s4 ⟨yv, H4, I4, r4, b, hb, q5⟩ => ?_)
      subst hb
      obtain rfl : y = Value.bool b := r4
      obtain ⟨n', rfl⟩ : ∃ n', n = n' + 1 := ⟨n - 1, by omega⟩
      have I4' : Inv Xg [pin] (noSt N) H4 s4 := I4.unpinned.weak (by rw [I4.len, hX]; simp) fun j v e => by
        rw [List.getElem?_replicate] at e
        split at e <;> cases e
      refine seg_at (seg_yield rfl rfl rfl ⟨b, H4, rfl, I4', ?_⟩)
      cases b with
      | false => simpa using q5
      | true =>
        simp only [if_true] at q5 ⊢
        intro s5 e1 e2 e3
        obtain ⟨m', hm, w5⟩ := hNx H4 q5
        have pin4 : ∀ b ∈ fp, ∀ o, s2.heap.get? b = some o → s4.heap.get? b = some o ∧ H4 b = none := fun b hb o e =>
          let z := I4.pin (b, o) (List.mem_append_right _ (List.mem_append_right _ (mem_pinsAt hb e)))
          ⟨z.1, z.2.1⟩
        refine seg_again rfl (ih m' hm n' (i + 1) s5 s5 H4 (by omega) w5 (inv_gens I4' e1 e2 e3) (T.keep _ _ _ st2 fun b hb o e => by rw [e1]; exact (pin4 b hb o e).1) fun b hb => ?_)
        obtain ⟨o, e, _⟩ := T.obj _ _ st2 b hb
        exact (pin4 b hb o e).2
end MG

set_option Elab.async false
set_option linter.all false
set_option maxRecDepth 100000
namespace MG
open PySem PySem.Spec PyProof.Rows L2

/-- what holds of the generator between two turns of all's loop -/
def Ready (X : Cx) (A2 : Around) (Xg : Cx) (pin : Addr × Obj) (N : List Str) (Q : VK) (g n : Nat) (s : Shared) : Prop :=
  (∃ gs, s.gens[g]? = some gs ∧ ∀ s'' : Shared, s''.heap = s.heap → s''.os = s.os → AllBare s''.gens → gs.Goes (model X.prog X.w) A2 (fun n s₀ r s₁ => r = .ok .next ∧ endG Xg pin N Q n s₀ s₁) (protoG Xg pin N Q) n (.send .none) s'') ∧
  ∃ H', Inv Xg [pin] (noSt N) H' s

theorem all_loop {X Xg : Cx} {A : Around} {N : List Str} {a : Addr} {g : Nat} {x y : Value} {Q : VK} {R : Result → Shared → Prop} (hh : A.handled = none) (hroom : A.depth < recursionLimit)
    (hR : ∀ (b : Bool) (H' : Hp) (s : Shared), Inv Xg [(a, genObj g x y)] (noSt N) H' s → Q (.bl b) H' → R (.ok (.ret (.bool b))) s) :
    ∀ (n : Nat) (s : Shared), Ready X A.in1.in1 Xg (a, genObj g x y) N Q g n s → codeAny (model X.prog X.w) A (.builtin "all.loop" ⟨[.ref a], []⟩) R s := by
  intro n
  induction n with
  | zero =>
    intro s ⟨⟨gs, hgs, hgo⟩, H', I⟩
    refine codeAny_builtin F.entry_all_loop ?_
    rw [Around.under_plainId F.plain_all_loop _]
    show wpAny _ A.in1 (pyNext (.ref a) >>= _) _ _ s
    have hgen : s.heap.IsGen a g := ⟨genObj g x y, x, y, (I.pin (a, genObj g x y) (List.mem_append_right _ List.mem_cons_self)).1, rfl, rfl, rfl⟩
    have hlt : g < s.gens.size := by
      rcases Nat.lt_or_ge g s.gens.size with z | z
      · exact z
      · rw [Array.getElem?_eq_none z] at hgs; cases hgs
    refine wpAny_bind (with_gens (Nat.le_refl s.gens.size) ?_)
    refine wpAny_pyNext_genexpQ (A := A.in1) (P := endG Xg (a, genObj g x y) N Q) (Y := protoG Xg (a, genObj g x y) N Q) (n := 0) hh I.nolimit hroom hgen hgs (hgo _ rfl rfl (bare_set I.bare rfl)) (fun v s1 gs1 hb hv => ?_) (fun s1 hp h1 hk => ?_)
    · intro hsz
      obtain ⟨b, H1, rfl, I1, q1⟩ := hv
      refine wpAny_bind (wpAny_holding (wpAny_truthy_bool ?_))
      refine wpAny_bind (wpAny_letGo ?_)
      cases b with
      | true =>
        simp only [if_true] at q1
        exact (q1 s1 rfl rfl I1.bare).elim
      | false =>
        simp only [Bool.false_eq_true, if_false] at q1 ⊢
        exact wpAny_bind (wpAny_rule (wpAny_pure (hR false H1 _ (inv_gens I1 rfl rfl (bare_set I1.bare hb)) q1)))
    · intro hsz
      obtain ⟨H1, I1, q1⟩ := hp
      exact wpAny_bind (wpAny_rule (wpAny_pure (hR true H1 _ (inv_more I1 hk rfl (bare_set I1.bare rfl)) q1)))
  | succ n ih =>
    intro s ⟨⟨gs, hgs, hgo⟩, H', I⟩
    refine codeAny_builtin F.entry_all_loop ?_
    rw [Around.under_plainId F.plain_all_loop _]
    show wpAny _ A.in1 (pyNext (.ref a) >>= _) _ _ s
    have hgen : s.heap.IsGen a g := ⟨genObj g x y, x, y, (I.pin (a, genObj g x y) (List.mem_append_right _ List.mem_cons_self)).1, rfl, rfl, rfl⟩
    have hlt : g < s.gens.size := by
      rcases Nat.lt_or_ge g s.gens.size with z | z
      · exact z
      · rw [Array.getElem?_eq_none z] at hgs; cases hgs
    refine wpAny_bind (with_gens (Nat.le_refl s.gens.size) ?_)
    refine wpAny_pyNext_genexpQ (A := A.in1) (P := endG Xg (a, genObj g x y) N Q) (Y := protoG Xg (a, genObj g x y) N Q) (n := n + 1) hh I.nolimit hroom hgen hgs (hgo _ rfl rfl (bare_set I.bare rfl)) (fun v s1 gs1 hb hv => ?_) (fun s1 hp h1 hk => ?_)
    · intro hsz
      obtain ⟨b, H1, rfl, I1, q1⟩ := hv
      have z : (s1.setGen g gs1).gens.size = s1.gens.size := by simp [Shared.setGen]
      rw [z] at hsz
      refine wpAny_bind (wpAny_holding (wpAny_truthy_bool ?_))
      refine wpAny_bind (wpAny_letGo ?_)
      cases b with
      | true =>
        simp only [if_true] at q1 ⊢
        refine wpAny_pure ⟨plainId_quiet F.plain_all_loop _, ih _ ⟨⟨gs1, ?_, fun s'' e1 e2 e3 => q1 s'' e1 e2 e3⟩, H1, inv_gens I1 rfl rfl (bare_set I1.bare hb)⟩⟩
        have hl1 : g < s1.gens.size := Nat.lt_of_lt_of_le hlt hsz
        simp [Shared.setGen, hl1]
      | false =>
        simp only [Bool.false_eq_true, if_false] at q1 ⊢
        exact wpAny_bind (wpAny_rule (wpAny_pure (hR false H1 _ (inv_gens I1 rfl rfl (bare_set I1.bare hb)) q1)))
    · intro hsz
      obtain ⟨H1, I1, q1⟩ := hp
      exact wpAny_bind (wpAny_rule (wpAny_pure (hR true H1 _ (inv_more I1 hk rfl (bare_set I1.bare rfl)) q1)))

theorem over_frames {A : Around} {elt tg iter : Expr} {scope : Scope} {pos : Pos} {it : Addr} {ce : Env} {l : List Env} (h : A.frames = some l) : (A.over (codeG elt tg iter scope pos it ce) []).frames = some (ce :: l) := by
  show pushEnvs [ce] (pushEnvs [] A.frames) = _
  rw [h]; rfl
theorem over_room {k : Nat} {A : Around} {elt tg iter : Expr} {scope : Scope} {pos : Pos} {it : Addr} {ce : Env} (r : Room (k + 1) A) : Room k (A.in1.in1.over (codeG elt tg iter scope pos it ce) []) := by
  refine ⟨r.hd, ?_, ?_⟩
  · have := r.dp
    show A.depth + 0 + 1 + 3 * k + 5 < _
    omega
  · have := r.un
    show A.units + 1 + 1 + 0 + 3 + 16 * k + 200 < _
    omega

theorem pe_allG {X : Cx} {elt tg iter : Expr} {scope : Scope} {N : List Str} {pos p pos' : Pos} {wi : TI} {g : TG} {te : TE} {c P : Addr} {k : Nat} {bm : Addr} {ob : Obj}
    (hc : X.calm = true) (hr : Room (k + 1) X.A) (hgl : Gl X "all") (hm : X.mg "all" = none) (hcode : X.env.code = .ref c) (hK : PySem.W.codeHdIn X.K c P = true) (hB : BMod X.base mainGlobals X.mg bm ob) (G : GScope N scope) (hi : PI X tg iter wi)
    (hg : ∀ (A' : Around) (s : Shared) (H : Hp) (C : Addr) (code : Value) (fp : List Addr), PG (genCx X A' N s H (genEnv scope [] C code builtinsNs X.env) fp) tg g)
    (he : ∀ (A' : Around) (s : Shared) (H : Hp) (C : Addr) (code : Value) (fp : List Addr), Room k A' → PE (genCx X A' N s H (genEnv scope [] C code builtinsNs X.env) fp) elt te)
    (hs : ∀ x, genFold iter X.env x = pure x := by intro _; rfl) :
    PE X (.Call (.Name "all" p) [.GeneratorExp elt [⟨tg, iter, [], 0⟩] scope pos] [] pos') (tAllG P wi g te N) := by
  intro pins s σ H Q I h
  refine wpAny_Call_Name_kw (ld_blt (u := .builtin "all") I hgl hm (by decide +kernel) ?_)
  refine PyProof.Rows.callWith_builtin1 ?_ rfl rfl
  show wpAny _ _ (spliced ((false, eval (.GeneratorExp elt [⟨tg, iter, [], 0⟩] scope pos) X.env) :: backTo pos' (starEach [] X.env))) _ _ s
  refine Calls.spliced_cons (wpAny_GeneratorExp_make G.co (G.clo _) G.noc G.dot G.kind hr.depth (thn (hi pins s σ H _ I h) fun xv s1 hx => thn hx fun itv s2 h2 => ?_) hs)
  obtain ⟨it, fp, tn, J, H2, e, I2, T, st2, f2, hP, W, ⟨m0, w0⟩, turn⟩ := h2
  subst e
  refine ⟨I2.nolimit, code_ok I2 hcode hK hP fun code s3 I3 eg eo kp => ?_⟩
  rw [I.ok.glob]
  refine wpAny_builtinsFor (hB.ns.keeps I3.bk) hB.name hB.ne (I3.bk _ _ hB.obj) hB.cls hB.dict hB.data ?_
  intro h' hns hsb
  refine Calls.spliced_nil ?_
  -- the iterator's objects behind the code's laying
  have nP : ∀ b ∈ fp, b ≠ P := fun b hb z => by
    have := (f2 b hb).1
    rw [z, hP] at this; cases this
  have f3 : ∀ b ∈ fp, FpOk X pins H2 b ∧ b < s3.heap.objs.size := fun b hb => by
    obtain ⟨o, e, _⟩ := T.obj _ _ st2 b hb
    exact ⟨f2 b hb, Heap.lt_size (kp b o (nP b hb) e)⟩
  have st3 : tn 0 s3.heap := T.keep _ _ _ st2 fun b hb o e => kp b o (nP b hb) e
  have hhd : X.A.handled = none := hr.hd
  generalize hce : genEnv scope [] s3.heap.objs.size code builtinsNs X.env = ce
  have I5 := gen_start (A' := X.A.in1.in1.over (codeG elt tg iter scope pos it ce) []) (N := N) (code := code) (it := .ref it) (tk := s3.toks + 1 + 1 + 1) (gs := .fresh (.compStart (.GeneratorExp elt [⟨tg, iter, [], 0⟩] scope pos) 0 (.ref it) .none ce)) (x := .str (Str.ofString "<genexpr>") (s3.toks + 1)) (y := .str (X.env.qual ++ Str.ofString "<genexpr>") (s3.toks + 1 + 1))
    I3 G (by rw [hce]; exact over_frames I.ok.frames) (fun _ => hhd) f3 hns hsb rfl
  rw [hce] at I5
  have pg := hg (X.A.in1.in1.over (codeG elt tg iter scope pos it ce) []) s3 H2 s3.heap.objs.size code fp
  have pe := he (X.A.in1.in1.over (codeG elt tg iter scope pos it ce) []) s3 H2 s3.heap.objs.size code fp (over_room hr)
  rw [hce] at pg pe
  have hco : ce.scope.isCoroutine = false := by rw [← hce]; exact G.co
  have hsz : h'.objs.size = s3.heap.objs.size + 1 := by rw [hsb.1, Heap.size_push]
  have kp5 : ∀ b o, s3.heap.get? b = some o → (h'.push (genObj s3.gens.size (.str (Str.ofString "<genexpr>") (s3.toks + 1)) (.str (X.env.qual ++ Str.ofString "<genexpr>") (s3.toks + 1 + 1)))).get? b = some o := fun b o e =>
    Heap.get?_push_of_some _ (hsb.extBut b o (Nat.ne_of_lt (Heap.lt_size e)) (Heap.get?_push_of_some _ e))
  have st5 : tn 0 (h'.push (genObj s3.gens.size (.str (Str.ofString "<genexpr>") (s3.toks + 1)) (.str (X.env.qual ++ Str.ofString "<genexpr>") (s3.toks + 1 + 1)))) := T.keep _ _ _ st3 fun b _ o e => kp5 b o e
  have nfp : ∀ b ∈ fp, H2 b = none := fun b hb => (f2 b hb).1
  have npin : ∀ b ∈ fp, h'.objs.size ≠ b := fun b hb => Nat.ne_of_gt (by rw [hsz]; exact Nat.lt_succ_of_lt (f3 b hb).2)
  generalize hXg : genCx X (X.A.in1.in1.over (codeG elt tg iter scope pos it ce) []) N s3 H2 ce fp = Xg at I5 pg pe
  -- the whole of the generator
  have loop := seg_gen (A2 := X.A.in1.in1) (pin := (h'.objs.size, genObj s3.gens.size (.str (Str.ofString "<genexpr>") (s3.toks + 1)) (.str (X.env.qual ++ Str.ofString "<genexpr>") (s3.toks + 1 + 1)))) (Q := Q) hXg.symm hc T npin pg pe hco turn
  -- the call of all
  refine call_function_tree F.kind_all F.plain_all F.entry_all (F.args_all1 _) ?_
  unfold Builtin.«all»
  refine wpAny_bind (m := oneArg "all" _) (wpAny_pure ?_)
  refine wpAny_bind (wpAny_pyIter_gen (g := s3.gens.size) ⟨_, _, _, Heap.get?_push_size _ rfl, rfl, rfl, rfl⟩ ?_)
  refine wpAny_pure ⟨plainId_quiet F.plain_all_loop _, all_loop (X := X) (Xg := Xg) (N := N) (Q := Q) (n := m0 + 1) hhd hr.depth (fun b H' s' I' q => ?_) _ ⟨⟨_, Array.getElem?_push_size .., fun s'' e1 e2 e3 => ⟨rfl, ?_⟩⟩, H2, I5⟩⟩
  · -- back in the def's context
    have I6 : Inv X pins σ H' s' := by
      have b6 := I'.base
      have o6 := I'.os
      have k6 := I'.hok
      subst hXg
      exact I3.call' (ch := fp) o6 b6 k6 I'.bare fun b hb => ⟨(f2 b hb).2.2.2.1, (f2 b hb).2.1, (f2 b hb).2.2.2.2.1, (f2 b hb).2.2.2.2.2⟩
    exact ⟨.bl b, H', I6, rfl, q⟩
  · have I7 : Inv Xg _ (noSt N) H2 s'' := inv_gens I5 e1 e2 e3
    have st7 : tn 0 s''.heap := by rw [e1]; exact st5
    have lp := loop m0 (m0 + 1) 0 s'' s'' H2 (Nat.lt_succ_self _) w0 I7 st7 nfp
    show Seg _ X.A.in1.in1 _ _ _ s'' _ ((compStart (.GeneratorExp elt [⟨tg, iter, [], 0⟩] scope pos) 0 (.ref it) .none ce).onRaise (leaving ce)) [] s''
    unfold compStart
    rw [Sem.onRaise_eq_wrap]
    show Seg _ X.A.in1.in1 _ _ _ s'' _ ((ask >>= _).wrap _ _ _ _) [] s''
    refine seg_bind_wrap (wpAny_askSetting ?_)
    split
    · exact seg_again rfl lp
    · first
        | exact seg_bind_wrap (wpAny_rule (seg_bind_wrap (wpAny_standAt (seg_bind_wrap (T.self _ 0 s'' _ _ st7 (seg_again rfl lp))))))
        | (refine seg_bind_wrap (wpAny_rule ?_); show Seg _ X.A.in1.in1 _ _ _ s'' _ ((standAt iter.pos >>= _).wrap _ _ _ _) [] s''; exact seg_bind_wrap (wpAny_standAt (seg_bind_wrap (T.self _ 0 s'' _ _ st7 (seg_again rfl lp)))))
end MG

set_option Elab.async false
set_option linter.all false
set_option maxRecDepth 100000
namespace MG
open PySem PySem.Spec PyProof.Rows L2

/-- the tables of the codes that lay generators are tracked -/
def Tabs (ts : List Addr) (H : Hp) : Prop := ∀ P ∈ ts, H P = some (tabH P)
theorem Tabs.same {ts : List Addr} {H H' : Hp} (t : Tabs ts H) (s : Same H H') : Tabs ts H' := fun P hP => s P _ (t P hP)
/-- nothing else is tracked but the script -/
def OnlyT (ts : List Addr) (H : Hp) : Prop := ∀ b, b ∉ ts → H b = none ∨ ∃ o xs, H b = some (.frz o (.lst xs))

end MG

set_option Elab.async false
set_option linter.all false
set_option maxRecDepth 100000
namespace MG
open PySem PySem.Spec PyProof.Rows L2

/-- the module __builtins__, as a generator's frame asks it -/
def BM (mg : Str → Option Value) (base : Heap) : Prop := ∃ bm ob, BMod base mainGlobals mg bm ob

end MG

set_option Elab.async false
set_option linter.all false
set_option maxRecDepth 100000
namespace MG
open PySem PySem.Spec PyProof.Rows L2

/-! ### sets of texts: the members, the table's two marks -/
def strOf (e : Int × Value) : Str := match e.2 with
  | .str x _ => x
  | _ => Str.empty
/-- whether sets are walked by the text's own order -/
abbrev byTx (w : World) : Bool := w.params.followText "set-order"
structure SetObj (P : Program) (w : World) (o : Obj) (xs : List Str) : Prop where
  exact : o.ExactSet
  ex : ∃ es ep t, o.data = .set es ep t ∧ ElemsOf (PySem.strKind P w) es.toList ∧ (es.toList.map strOf).Perm xs ∧ xs.Nodup ∧ es.size < scanBound ∧ t.fits es.size = true ∧ t.led = !(byTx w) ∧ (0 < es.size → t.plain = false)
def SetS (P : Program) (w : World) (h : Heap) (a : Addr) (xs : List Str) : Prop := ∃ o, h.get? a = some o ∧ SetObj P w o xs
theorem SetS.keep {P : Program} {w : World} {h h' : Heap} {a : Addr} {xs : List Str} (S : SetS P w h a xs) (k : ∀ o, h.get? a = some o → h'.get? a = some o) : SetS P w h' a xs := let ⟨o, e, z⟩ := S; ⟨o, k o e, z⟩
theorem isStr_of {P : Program} {w : World} {k : Str} {v : Value} (h : (PySem.strKind P w).is k v = true) : ∃ t, v = .str k t := by
  have h : Value.isStrOf k v = true := h
  cases v with
  | str x t =>
    have e : (x == k) = true := by simpa [Value.isStrOf] using h
    rw [beq_iff_eq.mp e]; exact ⟨t, rfl⟩
  | _ => simp [Value.isStrOf] at h
theorem elems_str {P : Program} {w : World} {l : List (Int × Value)} (h : ElemsOf (PySem.strKind P w) l) : ∀ e ∈ l, ∃ t, e.2 = .str (strOf e) t ∧ e.1 = (PySem.strKind P w).hash (strOf e) := fun e he => by
  obtain ⟨⟨k, hk, hh⟩, _⟩ := h e he
  obtain ⟨t, ht⟩ := isStr_of hk
  have es : strOf e = k := by unfold strOf; rw [ht]
  rw [es]; exact ⟨t, ht, hh⟩

/-! ### the table's marks through an addition -/
theorem or_led (t : SetTable) (n : Nat) : (t.orStandIn n).led = t.led := by
  unfold SetTable.orStandIn
  split <;> rfl
theorem or_plain (t : SetTable) (n : Nat) (hp : t.plain = false) : (t.orStandIn n).plain = false := by
  unfold SetTable.orStandIn
  split
  · exact hp
  · rfl
theorem lay_led (t : SetTable) (es : Array (Int × Value)) (h : Int) (x : Value) : (layNew t es h x).2.1.led = t.led := by
  unfold layNew
  cases t.freeSlot h with
  | none => rfl
  | some p => exact or_led _ _
theorem lay_plain (t : SetTable) (es : Array (Int × Value)) (h : Int) (x : Value) (hp : t.plain = false) : (layNew t es h x).2.1.plain = false := by
  unfold layNew
  cases t.freeSlot h with
  | none => rfl
  | some p => exact or_plain _ _ hp
theorem laid_marks {mask finger moves : Nat} {led plain : Bool} {hs : Array Int} {t : SetTable} {order : Array Nat} (h : SetTable.laid mask finger moves led plain hs = some (t, order)) : t.led = led ∧ t.plain = plain := by
  unfold SetTable.laid at h
  cases e : SetTable.layClean mask hs with
  | none => rw [e] at h; cases h
  | some ow =>
    rw [e] at h
    have h' := Option.some.inj h
    have h2 := (Prod.mk.inj h').1
    subst h2
    exact ⟨rfl, rfl⟩
theorem relay_marks (t : SetTable) (es : Array (Int × Value)) (n : Nat) : (relayAll t es n).2.1.led = t.led ∧ (t.plain = false → (relayAll t es n).2.1.plain = false) := by
  unfold relayAll
  cases e : t.relaid (es.map (·.1)) n with
  | none => exact ⟨rfl, fun _ => rfl⟩
  | some p =>
    obtain ⟨t', order⟩ := p
    obtain ⟨h1, h2⟩ := laid_marks (show SetTable.laid _ _ _ _ _ _ = some (t', order) from e)
    dsimp only
    split
    · exact ⟨h1, fun hp => h2.trans hp⟩
    · exact ⟨rfl, fun _ => rfl⟩

section
variable {prog : Program} {w : World} {A : Around} {E : Value → Shared → Prop} {s : Shared} {a : Addr} {xs : List Str}
theorem set_store {o : Obj} {es es' : Array (Int × Value)} {ep : Nat} {t t' : SetTable} {ys : List Str} {h : Heap} (ho : h.get? a = some o) (hex : o.ExactSet) (hd : o.data = .set es ep t) (hel : ElemsOf (PySem.strKind prog w) es'.toList) (hp : (es'.toList.map strOf).Perm ys) (hn : ys.Nodup)
    (hb : es'.size < scanBound) (hf : t'.fits es'.size = true) (hl : t'.led = !(byTx w)) (hpl : 0 < es'.size → t'.plain = false) :
    ∃ o', (h.update a (Obj.putSet es' t')).get? a = some o' ∧ o'.ExactSet ∧ o'.data = .set es' (ep + 1) t' ∧ SetObj prog w o' ys := by
  have q := Heap.get?_update_self (Obj.putSet es' t') ho (by rw [putSet_of es' t' hd]; rfl)
  rw [putSet_of es' t' hd] at q
  exact ⟨_, q, hex, rfl, hex, es', ep + 1, t', rfl, hel, hp, hn, hb, hf, hl, hpl⟩

theorem add_str {y : Str} {tk : Tok} {Q : Bool → Shared → Prop} (S : SetS prog w s.heap a xs) (hroom : xs.length + 1 < scanBound)
    (h : ∀ h', Heap.SameBut a s.heap h' → SetS prog w h' a (if y ∈ xs then xs else xs ++ [y]) → ∀ b, Q b { s with heap := h' }) :
    wpAny (model prog w) A (setAddHashed a (.str y tk) ((PySem.strKind prog w).hash y)) Q E s := by
  obtain ⟨o, ho, hex, es, ep, t, hd, hel, hperm, hnd, hb, hf, hl, hpl⟩ := S
  have hsz : es.size = xs.length := by rw [← hperm.length_eq, List.length_map, Array.length_toList]
  have hkey : (PySem.strKind prog w).is y (.str y tk) = true := strKind_is _ _ _ _
  refine wpAny_holding (m := setAddHashedIn _ _ _ _) ?_
  unfold setAddHashedIn
  apply wpAny_bind (wpAny_setState_of ho hd hf _)
  dsimp only
  rw [byScan_of rfl hb hel]
  simp only [↓reduceIte]
  unfold setAddByScan
  refine wpAny_bind (wpAny_bind (wpAny_rule (wpAny_bind (wpAny_setScan_of hkey ho hd hf hel ?_))))
  cases hr : List.findIdx? (fun e => (PySem.strKind prog w).is y e.2) es.toList with
  | some j =>
    dsimp only
    have ⟨hj, hpj, _⟩ := List.findIdx?_eq_some_iff_getElem.mp hr
    have hin : y ∈ xs := by
      refine hperm.mem_iff.mp (List.mem_map.mpr ⟨es.toList[j], List.getElem_mem hj, ?_⟩)
      obtain ⟨t2, e2⟩ := isStr_of hpj
      unfold strOf; rw [e2]
    exact wpAny_pure (wpAny_pure (h s.heap (Heap.SameBut.refl a s.heap) (by rw [if_pos hin]; exact ⟨o, ho, hex, es, ep, t, hd, hel, hperm, hnd, hb, hf, hl, hpl⟩) false))
  | none =>
    dsimp only
    have hout : y ∉ xs := fun hin => by
      obtain ⟨e, he, hy⟩ := List.mem_map.mp (hperm.mem_iff.mpr hin)
      have q := List.findIdx?_eq_none_iff.mp hr e he
      obtain ⟨t2, e2, _⟩ := elems_str hel e he
      rw [e2, hy, strKind_is] at q
      cases q
    have hp1 := layNew_perm t es ((PySem.strKind prog w).hash y) (.str y tk)
    have hf1 := layNew_fits t es ((PySem.strKind prog w).hash y) (.str y tk)
    have hl1 := lay_led t es ((PySem.strKind prog w).hash y) (.str y tk)
    have hpl1 := lay_plain t es ((PySem.strKind prog w).hash y) (.str y tk)
    generalize hL : layNew t es ((PySem.strKind prog w).hash y) (.str y tk) = L at hp1 hf1 hl1 hpl1 ⊢
    obtain ⟨es1, t1, wasDummy, gave⟩ := L
    dsimp only at hp1 hf1 hl1 hpl1 ⊢
    rw [Array.toList_push] at hp1
    have hel1 : ElemsOf (PySem.strKind prog w) es1.toList := (hel.push hkey rfl).perm hp1
    have hperm1 : (es1.toList.map strOf).Perm (xs ++ [y]) := by
      refine (hp1.map strOf).trans ?_
      rw [List.map_append]
      exact hperm.append_right _
    have hnd1 : (xs ++ [y]).Nodup := nd_snoc hnd hout
    have hsz1 : es1.size = xs.length + 1 := by rw [← Array.length_toList, hp1.length_eq, List.length_append, Array.length_toList, hsz]; rfl
    have hb1 : es1.size < scanBound := by rw [hsz1]; exact hroom
    have g0 : ∀ (b : Bool) (s1 : Shared) (Q' : Unit → Shared → Prop), Q' () s1 → wpAny (model prog w) A (match b with | true => rule "set.scan.the-table-gave-way" | false => pure ()) Q' E s1 :=
      fun b s1 Q' hq => by cases b <;> first | exact wpAny_pure hq | exact wpAny_rule hq
    have fin : ∀ h', Heap.SameBut a s.heap h' → SetS prog w h' a (xs ++ [y]) → ∀ b, Q b { s with heap := h' } := fun h' sb S' => h h' sb (by rw [if_neg hout]; exact S')
    refine wpAny_bind (g0 _ _ _ ?_)
    have hk := hashByValue_scannable 8 (show (Value.str y tk).scannable = true from rfl)
    split
    rotate_left
    have ⟨m1, m2, m3⟩ := And.intro hf1 (And.intro (hl1.trans hl) (show t1.plain = false by rename_i hpt; simpa using hpt))
    apply wpAny_bind (wpAny_pure _)
    simp only [↓reduceIte]
    generalize t1 = t2 at m1 m2 m3 ⊢
    rotate_left
    have ⟨m1, m2, m3⟩ := And.intro (SetTable.fits_plain_off hf1) (And.intro (show ({ t1 with plain := false } : SetTable).led = !(byTx w) from hl1.trans hl) (show ({ t1 with plain := false } : SetTable).plain = false from rfl))
    apply wpAny_bind
    rw [hk]
    apply wpAny_pure
    simp only [plainKind, Bool.false_eq_true, if_false]
    generalize ({ t1 with plain := false } : SetTable) = t2 at m1 m2 m3 ⊢
    -- both ways: t2 stands with its marks; it is stored, and where it is too full it is laid anew and stored again
    all_goals
      obtain ⟨o1, ho1, hex1, hd1, hS1⟩ := set_store (prog := prog) (w := w) ho hex hd hel1 hperm1 hnd1 hb1 m1 m2 (fun _ => m3)
      have sb1 := Heap.SameBut.update s.heap a (Obj.putSet es1 t2)
      refine wpAny_bind (wpAny_storeSet_of ho hd (wpAny_ite_split (fun _ => ?_) fun _ => wpAny_pure (wpAny_pure (fin _ sb1 ⟨o1, ho1, hS1⟩ true))) (fits_of_scanBound hb1))
      have ⟨⟨p1, p2⟩, p3, p4⟩ := And.intro (And.intro (relayAll_perm t2 es1 (SetTable.grown es1.size)) (relayAll_fits t2 es1 (SetTable.grown es1.size))) (relay_marks t2 es1 (SetTable.grown es1.size))
      generalize relayAll t2 es1 (SetTable.grown es1.size) = L2 at p1 p2 p3 p4 ⊢
      have z2 : L2.1.size = es1.size := by rw [← Array.length_toList, p1.length_eq, Array.length_toList]
      obtain ⟨o2, ho2, _, _, hS2⟩ := set_store (prog := prog) (w := w) ho1 hex1 hd1 (hel1.perm p1) ((p1.map strOf).trans hperm1) hnd1 (by rw [z2]; exact hb1) p2 (p3.trans m2) (fun _ => p4 m3)
      refine wpAny_bind (g0 _ _ _ (wpAny_bind (wpAny_storeSet_of ho1 hd1 (wpAny_pure (wpAny_pure ?_)) (fits_of_scanBound (by rw [z2]; exact hb1)))))
      exact fin _ (sb1.trans (Heap.SameBut.update _ a _)) ⟨o2, ho2, hS2⟩ true

end
end MG

set_option Elab.async false
set_option linter.all false
set_option maxRecDepth 100000
namespace MG
open PySem PySem.Spec PyProof.Rows L2

/-- one more member -/
def addS (xs : List Str) (y : Str) : List Str := if y ∈ xs then xs else xs ++ [y]
def dedupS (ys : List Str) : List Str := ys.foldl addS []
theorem dedup_snoc (ys : List Str) (y : Str) : dedupS (ys ++ [y]) = addS (dedupS ys) y := by unfold dedupS; rw [List.foldl_append]; rfl
theorem addS_len (xs : List Str) (y : Str) : (addS xs y).length ≤ xs.length + 1 := by
  unfold addS
  split
  · omega
  · rw [List.length_append]; exact Nat.le_refl _
theorem fold_len : ∀ (ys xs : List Str), (ys.foldl addS xs).length ≤ xs.length + ys.length
  | [], xs => Nat.le_refl _
  | y :: r, xs => by
    have h1 := fold_len r (addS xs y)
    have h2 := addS_len xs y
    show ((r.foldl addS (addS xs y))).length ≤ xs.length + (r.length + 1)
    omega
theorem dedup_len (ys : List Str) : (dedupS ys).length ≤ ys.length := by
  have h : (dedupS ys).length ≤ 0 + ys.length := fold_len ys []
  omega
theorem strs_at {vs : List Value} {xs : List Str} (h : StrsAre vs xs) : ∀ (i : Nat) (v : Value), vs[i]? = some v → ∃ x t, xs[i]? = some x ∧ v = .str x t := by
  induction h with
  | nil => exact fun i v e => nomatch e
  | cons x t r ih => exact fun
    | 0, v, e => ⟨x, t, rfl, (Option.some.inj e).symm⟩
    | i + 1, v, e => ih i v e

/-- what a code wants, case by case -/
theorem code_want {M : Model} {A : Around} {c : Code} {N E : Value → Shared → Prop} {R : Result → Shared → Prop} {s : Shared} (h : codeAny M A c (wants N E) s) (hv : ∀ v s', N v s' → R (.ok (.ret v)) s') (he : ∀ e s', E e s' → R (.error e) s') : codeAny M A c R s :=
  codeAny_mono h fun
    | .ok (.ret v), s', q => hv v s' q
    | .error e, s', q => he e s' q
    | .ok .next, _, q => q.elim
    | .ok .brk, _, q => q.elim
    | .ok .cont, _, q => q.elim

section
variable {prog : Program} {w : World} {A : Around} {E : Value → Shared → Prop} {s : Shared}
/-- a type's call: its __new__, then its __init__, each by what its own code gives -/
theorem type_made {T newId initId : String} {args : List Value} {Q N : Value → Shared → Prop} (ft : TypeCalled T newId initId) (hct : checkTypeCall T ⟨args, []⟩ = pure ())
    (new : codeAny (model prog w) A.in1 (.call (.builtin newId) ⟨.type T :: args, []⟩) (wants N E) s)
    (ini : ∀ x s₁, N x s₁ → s₁.TypeIs x T ∧ codeAny (model prog w) A.in1 (.call (.builtin initId) ⟨x :: args, []⟩) (wants (fun r s₂ => r = .none ∧ Q x s₂) E) s₁) :
    wpAny (model prog w) A (call (.type T) args) Q E s := by
  have ⟨⟨_, _, a1⟩, a2, a3, a4, a5⟩ := And.intro ft.mro (And.intro ft.made (And.intro ft.sub (And.intro ft.notType ft.canCreate)))
  apply wpAny_call
  apply codeAny_of_tree
  refine (show wpAny _ _ (callAny (.type T) ⟨args, []⟩) _ _ s from wpAny_pure ⟨Code.quiet_builtin _ (by decide +kernel), codeAny_builtin F.entry_type_call ?_⟩)
  rw [Around.under_plain (weight_type_call_type T args []) rfl]
  repeat (any_goals (first | assumption | wp_step))
  refine code_want new (fun x s₁ hx => ?_) fun _ _ q => q
  have ⟨⟨b1, b2⟩, hT, hi⟩ := And.intro (And.intro ft.init.lookup (ft.init.bind x)) (ini x s₁ hx)
  repeat (any_goals (first | assumption | wp_step))
  refine code_want hi (fun r s₂ hr => ?_) fun _ _ q => q
  obtain ⟨rfl, q⟩ := hr
  repeat (any_goals (first | assumption | wp_step))
abbrev setO (w : World) : Obj := { cls := .type "set", dict := none, data := .set #[] 0 (.fresh 0 0 (!(byTx w))) }
theorem setO_ok : SetObj prog w (setO w) [] := ⟨⟨rfl, rfl, rfl⟩, #[], 0, _, rfl, fun e he => by simp at he, .nil, List.nodup_nil, by decide, by rfl, rfl, fun z => absurd z (by simp)⟩
/-- a new set, with the mark of its order -/
theorem newSet_mark {Q : Value → Shared → Prop} (h : Q (.ref s.heap.objs.size) { s with heap := s.heap.push (setO w) }) : wpAny (model prog w) A (newSet (.type "set")) Q E s := by
  unfold newSet setsByText
  wp_walk
  refine wpAny_askSetting (wpAny_pure ?_)
  exact wpAny_newObj_type h (by size_fits)
/-- set.__new__ with one thing behind the class -/
theorem set_new1 (a : Value) {N : Value → Shared → Prop} (h : N (.ref s.heap.objs.size) { s with heap := s.heap.push (setO w) }) :
    codeAny (model prog w) A (.call (.builtin "set.__new__") ⟨[.type "set", a], []⟩) (wants N E) s := by
  refine codeAny_call_builtin F.plain_set_new F.entry_set_new (wpAny_of_eq (F.newCall_set_1 a) ?_)
  have hs := sub_set_self
  unfold Builtin.«set.__new__» Builtin.Frozenset.newClass
  obtain ⟨hp, g, d, tk, os⟩ := s
  dsimp only
  wp_walk using newSet_mark
  exact h
/-- one turn of the walk that fills a set -/
theorem fill_turn {R : Result → Shared → Prop} {S I : Addr} (h : wpAny (model prog w) A.in1 (pyNext (.ref I)) (fun o s' => match o with
      | none => R (.ok (.ret .none)) s'
      | some v => wpAny (model prog w) A.in1 (setAdd S v) (fun _ s₂ => codeAny (model prog w) A (.builtin "set.update.loop" ⟨[.ref S, .ref I], []⟩) R s₂) (fun e s₂ => R (.error e) s₂) s') (fun e s' => R (.error e) s') s) :
    codeAny (model prog w) A (.builtin "set.update.loop" ⟨[.ref S, .ref I], []⟩) R s :=
  codeAny_builtin F.entry_set_update_loop (by
    rw [Around.under_plainId F.plain_set_update_loop _]
    refine wpAny_bind (m := pyNext (.ref I)) (wpAny_mono h (fun o s' q => ?_) fun _ _ q => q)
    cases o with
    | none => exact wpAny_pure q
    | some v => exact wpAny_bind (wpAny_holding (wpAny_mono q (fun _ _ q => wpAny_pure ⟨plainId_quiet F.plain_set_update_loop _, q⟩) fun _ _ q => q)))
/-- the walk over a list of texts, the texts ahead being in the set -/
theorem fill_strs {R : Result → Shared → Prop} {l I S : Addr} {items : Array Value} {ys : List Str} (hh : A.handled = none) (nl : l ≠ I) (nS : S ≠ I) (nlS : l ≠ S) (hi : StrsAre items.toList ys) (hb : ys.length + 1 < scanBound) :
    ∀ (rest ahead : List Str) (s : Shared), ahead ++ rest = ys → s.heap.IsListIter I l ahead.length → s.heap.IsList l items → SetS prog w s.heap S (dedupS ahead) →
      (∀ h' tk, SetS prog w h' S (dedupS ys) → (∀ b o, b ≠ S → b ≠ I → s.heap.get? b = some o → h'.get? b = some o) → R (.ok (.ret .none)) { s with heap := h', toks := tk }) →
      codeAny (model prog w) A (.builtin "set.update.loop" ⟨[.ref S, .ref I], []⟩) R s
  | [], ahead, s, e, it, hl, hS, k => by
    rw [List.append_nil] at e
    refine fill_turn (wpAny_pyNext_list_end (by simpa using hh) it hl ?_ fun h' x => ?_)
    · rw [← Array.getElem?_toList]
      exact List.getElem?_eq_none (by rw [hi.length, e]; exact Nat.le_refl _)
    · exact k h' s.toks (e ▸ hS.keep fun o z => x S o nS z) fun b o _ nb z => x b o nb z
  | y :: r, ahead, s, e, it, hl, hS, k => by
    have hy : ys[ahead.length]? = some y := by rw [← e]; simp
    have hlen : ahead.length < items.toList.length := by rw [hi.length]; exact (List.getElem?_eq_some_iff.mp hy).1
    obtain ⟨x, t, hx, hv⟩ := strs_at hi ahead.length _ (List.getElem?_eq_getElem hlen)
    have hxy : x = y := Option.some.inj (hx.symm.trans hy)
    subst hxy
    have hit : items[ahead.length]? = some (.str x t) := by rw [← Array.getElem?_toList, ← hv]; exact List.getElem?_eq_getElem hlen
    refine fill_turn (wpAny_pyNext_list_item it hl hit fun h1 it1 k1 => ?_)
    have room : (dedupS ahead).length + 1 < scanBound := by
      have h1 := dedup_len ahead
      have h2 := congrArg List.length e
      rw [List.length_append] at h2
      omega
    unfold setAdd
    refine wpAny_holding (wpAny_bind ((PySem.strKind prog w).pyHash (k := x) (strKind_is _ _ _ _) ?_))
    refine add_str (hS.keep fun o z => k1.extBut S o nS z) room fun h2 k2 hS2 _ => ?_
    refine fill_strs hh nl nS nlS hi hb r (ahead ++ [x]) _ (by rw [List.append_assoc]; exact e) ?_ ?_ (by rw [dedup_snoc]; exact hS2) fun h' tk q z => k h' tk q fun b o nb ni u => z b o nb ni ?_
    · rw [List.length_append]
      exact it1.extBut k2.extBut (Ne.symm nS)
    · exact (hl.extBut k1.extBut nl).extBut k2.extBut nlS
    · exact k2.extBut b o nb (k1.extBut b o ni u)
/-- set(a list of texts) -/
theorem call_set_strs {l : Addr} {items : Array Value} {ys : List Str} {Q : Value → Shared → Prop}
    (hh : A.handled = none) (hl : s.heap.IsList l items) (hi : StrsAre items.toList ys) (hb : items.size + 1 < scanBound)
    (h : ∀ (h' : Heap) (tk : Nat), SetS prog w h' s.heap.objs.size (dedupS ys) → (∀ b o, b < s.heap.objs.size → s.heap.get? b = some o → h'.get? b = some o) → Q (.ref s.heap.objs.size) { s with heap := h', toks := tk }) :
    wpAny (model prog w) A (call (.type "set") [.ref l]) Q E s := by
  have el : ys.length = items.size := hi.length.symm.trans Array.length_toList
  refine type_made (N := fun x s₁ => x = .ref s.heap.objs.size ∧ s₁ = { s with heap := s.heap.push (setO w) }) F.called_set (F.typeCall_set_1 _) (set_new1 _ ⟨rfl, rfl⟩) ?_
  rintro x s₁ ⟨rfl, rfl⟩
  have hS := Heap.get?_push_size s.heap (o := setO w) rfl
  have hT : Shared.TypeIs { s with heap := s.heap.push (setO w) } (.ref s.heap.objs.size) "set" := ⟨_, hS, rfl⟩
  refine ⟨hT, codeAny_call_builtin F.called_set.init.plain F.entry_set_init (check_set_init_1 hT ?_)⟩
  have hls : l < s.heap.objs.size := let ⟨_, z, _⟩ := hl; Heap.lt_size z
  have hl1 := hl.push (setO w)
  have n1 : l ≠ (s.heap.push (setO w)).objs.size := fun z => Nat.lt_irrefl _ (Nat.lt_trans hls (by rw [z, Heap.size_push]; exact Nat.lt_succ_self _))
  have n2 : s.heap.objs.size ≠ (s.heap.push (setO w)).objs.size := fun z => Nat.lt_irrefl _ (show s.heap.objs.size < s.heap.objs.size by rw [Heap.size_push] at z; exact absurd z (Nat.ne_of_lt (Nat.lt_succ_self _)))
  have hf : codeAny (model prog w) A.in1.in1 (.builtin "set.update.loop" ⟨[.ref s.heap.objs.size, .ref (s.heap.push (setO w)).objs.size], []⟩) (wants (fun r s₂ => r = .none ∧ Q (.ref s.heap.objs.size) s₂) E) { s with heap := (s.heap.push (setO w)).push { cls := .type "list_iterator", data := .fields #[.ref l, .int 0 0] } } :=
    fill_strs (by simp [hh]) n1 n2 (Nat.ne_of_lt hls) hi (by rw [el]; exact hb) ys [] _ rfl ⟨_, Heap.get?_push_size _ rfl, rfl, rfl⟩ (hl1.push _) ⟨_, Heap.get?_push_of_some _ hS, setO_ok⟩
      fun h' tk q z => ⟨rfl, h h' tk q fun b o hb e => z b o (Nat.ne_of_lt hb) (fun u => Nat.lt_irrefl _ (Nat.lt_trans hb (by rw [u, Heap.size_push]; exact Nat.lt_succ_self _))) (Heap.get?_push_of_some _ (Heap.get?_push_of_some _ e))⟩
  have ⟨⟨c, dct, dt, sl⟩, ho, hc, m, hd⟩ := hl1
  have hc : c = .type "list" := hc
  have hd : dt = .seq items m := hd
  subst hc hd
  have ⟨f1, f2, f3⟩ := And.intro F.sub_list_set (And.intro F.sub_list_frozenset (show (Value.type "list" == Value.type "dict") = false by decide))
  unfold Builtin.«set.__init__» noKeywords Builtin.Frozenset.updateFrom
  wp_walk using wpAny_pyIter_list hl1
  exact code_want hf (fun v s' q => wpAny_pure (wpAny_pure ⟨rfl, q.2⟩)) fun _ _ q => q
end
end MG

set_option Elab.async false
set_option linter.all false
set_option maxRecDepth 100000
namespace MG
open PySem PySem.Spec PyProof.Rows L2

/-! ### orders -/
theorem erase_perm {α : Type} : ∀ {l : List α} {i : Nat} (h : i < l.length), (l[i] :: l.eraseIdx i).Perm l
  | a :: r, 0, _ => List.Perm.refl _
  | a :: r, i + 1, h => by
    have h' : i < r.length := by simpa using h
    show (r[i] :: a :: r.eraseIdx i).Perm (a :: r)
    exact (List.Perm.swap _ _ _).trans ((erase_perm h').cons a)
theorem pick_go {α : Type} (next : Nat → Nat) : ∀ (fuel k : Nat) (left : List α) (out : Array α), left.length ≤ fuel → (pickOrder.go next fuel k left out).toList.Perm (out.toList ++ left)
  | 0, k, left, out, h => by
    have e : left = [] := List.length_eq_zero_iff.mp (Nat.le_zero.mp h)
    subst e
    unfold pickOrder.go
    rw [List.append_nil]
  | fuel + 1, k, left, out, h => by
    unfold pickOrder.go
    cases e : left[next k % left.length]? with
    | none =>
      have hl : left = [] := by
        cases left with
        | nil => rfl
        | cons a r =>
          have : next k % (a :: r).length < (a :: r).length := Nat.mod_lt _ (Nat.succ_pos _)
          rw [List.getElem?_eq_getElem this] at e
          cases e
      subst hl
      dsimp only
      rw [List.append_nil]
    | some x =>
      dsimp only
      obtain ⟨hi, ex⟩ := List.getElem?_eq_some_iff.mp e
      have hlen : (left.eraseIdx (next k % left.length)).length ≤ fuel := by rw [List.length_eraseIdx_of_lt hi]; omega
      refine (pick_go next fuel (k + 1) _ (out.push x) hlen).trans ?_
      rw [Array.toList_push, List.append_assoc]
      refine List.Perm.append_left _ ?_
      rw [← ex]
      exact erase_perm hi
theorem pick_perm {α : Type} (next : Nat → Nat) (xs : Array α) : (pickOrder next xs).toList.Perm xs.toList := by
  have h := pick_go next xs.size 0 xs.toList #[] (Nat.le_of_eq (Array.length_toList ..))
  simpa [pickOrder] using h
theorem choose_any {M : Model} {A : Around} {E : Value → Shared → Prop} {s : Shared} {src : Source} {n : Nat} {Q : Nat → Shared → Prop} (hn : n ≠ 0) (h : ∀ i d, i < n → Q i { s with drawn := d }) : wpAny M A (choose src n) Q E s := by
  intro Γ p hΓ
  exact ⟨hn, h _ _ (Nat.mod_lt _ (Nat.pos_of_ne_zero hn))⟩
theorem draw_any {α : Type} {M : Model} {A : Around} {E : Value → Shared → Prop} : ∀ {n : Nat} {xs : List α} {s : Shared} {Q : List α → Shared → Prop}, n = xs.length → (∀ ys d, ys.Perm xs → Q ys { s with drawn := d }) → wpAny M A (drawOrder n xs) Q E s
  | 0, xs, s, Q, hn, h => by
    have e : xs = [] := List.length_eq_zero_iff.mp hn.symm
    subst e
    unfold drawOrder
    exact wpAny_pure (h [] s.drawn .nil)
  | n + 1, [], s, Q, hn, h => by simp at hn
  | n + 1, x :: r, s, Q, hn, h => by
    unfold drawOrder
    refine wpAny_bind (choose_any (by simp) fun i d hi => ?_)
    have e : (x :: r)[i]? = some ((x :: r)[i]'hi) := List.getElem?_eq_getElem hi
    rw [e]
    dsimp only
    refine wpAny_bind (draw_any (by rw [List.length_eraseIdx_of_lt hi]; omega) fun ys d2 hp => wpAny_pure ?_)
    exact h _ d2 ((hp.cons _).trans (erase_perm hi))

/-! ### facts of the table -/
theorem slot_seti_next : Slot "set_iterator" "__next__" "set_iterator.__next__" :=
  .of (owner := "set_iterator") (n := "__next__") (by rw [typeLookup_type, builtinLookup_eq_fast]; kernel_rfl) (by decide +kernel) (by decide +kernel) (by decide +kernel)
    (by first | exact .inl (by decide +kernel) | exact .inr (by decide +kernel)) (by rw [isSubtype_type]; kernel_rfl)
theorem entry_seti_next : entryFor table "set_iterator.__next__" = some Builtin.«set_iterator.__next__» := entryFor_of_tree (by kernel_rfl)
theorem args_seti_next (a : Value) : argsOk "set_iterator.__next__" ⟨[a], []⟩ := by unfold argsOk; kernel_rfl
theorem slot_seti_iter : Slot "set_iterator" "__iter__" "set_iterator.__iter__" :=
  .of (owner := "set_iterator") (n := "__iter__") (by rw [typeLookup_type, builtinLookup_eq_fast]; kernel_rfl) (by decide +kernel) (by decide +kernel) (by decide +kernel)
    (by first | exact .inl (by decide +kernel) | exact .inr (by decide +kernel)) (by rw [isSubtype_type]; kernel_rfl)
theorem entry_set_iter : entryFor table "set.__iter__" = some Builtin.«frozenset.__iter__» :=
  entryFor_alias (id' := "frozenset.__iter__") (by kernel_rfl) rfl (by decide +kernel) (by kernel_rfl)
/-! ### a set's iterator -/
/-- its record: the first field (a place, or a tuple of places), the turn, the set, its size, its epoch -/
abbrev itO (first : Value) (i : Nat) (a : Addr) (n ep : Nat) : Obj := { cls := .type "set_iterator", data := .fields #[first, .int i 0, .ref a, .int n 0, .int ep 0] }
section
variable {prog : Program} {w : World} {A : Around} {E : Value → Shared → Prop} {s : Shared} {a I : Addr} {o : Obj} {es : Array (Int × Value)} {ep : Nat} {t : SetTable}
/-- a turn by places: the next member is told by setNext -/
theorem seti_item {slot nx i n : Nat} {x : Value} {Q : Option Value → Shared → Prop} (hit : s.heap.get? I = some (itO (.int slot 0) i a n ep)) (ho : s.heap.get? a = some o) (hd : o.data = .set es ep t) (hf : t.fits es.size = true) (hn : n = es.size)
    (hx : ∀ (A' : Around) (E' : Value → Shared → Prop) (Q' : Option (Value × Nat) → Shared → Prop), Q' (some (x, nx)) s → wpAny (model prog w) A' (setNext a slot i ep) Q' E' s)
    (hQ : ∀ h', h'.get? I = some (itO (.int nx 0) (i + 1) a n ep) → Heap.SameBut I s.heap h' → Q (some x) { s with heap := h' }) : wpAny (model prog w) A (pyNext (.ref I)) Q E s := by
  have hT : s.TypeIs (.ref I) "set_iterator" := ⟨_, hit, rfl⟩
  unfold pyNext
  refine wpAny_bind (wpAny_attempt (wpAny_callSpecial?_slot (name := Str.ofString "__next__") hT slot_seti_next (wpAny_call_entry slot_seti_next hT entry_seti_next ?_ (args_seti_next _))))
  unfold Builtin.«set_iterator.__next__»
  refine wpAny_bind (wpAny_pure ?_)
  refine wpAny_bind (wpAny_fieldsOf hit rfl ?_)
  show wpAny _ _ (setEntries a >>= _) _ _ s
  unfold setEntries
  refine wpAny_bind (wpAny_bind (wpAny_setState_of ho hd hf (wpAny_pure ?_)))
  dsimp only
  rw [if_neg (by rw [hn]; simp)]
  show wpAny _ _ (setNext a (slot : Int).toNat (i : Int).toNat (ep : Int).toNat >>= _) _ _ s
  rw [Int.toNat_natCast, Int.toNat_natCast, Int.toNat_natCast]
  refine wpAny_bind (hx _ _ _ ?_)
  dsimp only
  refine wpAny_bind (wpAny_setField hit rfl (by simp) ?_)
  have h1 := Heap.get?_update_self (Obj.mapFields (·.setIfInBounds 0 (rawInt nx))) hit (Obj.isFreed_of_fields (Obj.data_mapFields (o := itO (.int slot 0) i a n ep) rfl _))
  refine wpAny_bind (wpAny_setField h1 rfl (by simp) (wpAny_pure ⟨x, rfl, wpAny_pure (hQ _ ?_ ((Heap.SameBut.update ..).trans (Heap.SameBut.update ..)))⟩))
  have h2 := Heap.get?_update_self (Obj.mapFields (·.setIfInBounds 1 (rawInt ((i : Int) + 1)))) h1 (Obj.isFreed_of_fields (Obj.data_mapFields (o := Obj.mapFields (·.setIfInBounds 0 (rawInt nx)) (itO (.int slot 0) i a n ep)) rfl _))
  rw [h2]
  simp [Obj.mapFields, rawInt]
/-- its end, by places -/
theorem seti_end {slot i n : Nat} {Q : Option Value → Shared → Prop} (hh : A.handled = none) (hit : s.heap.get? I = some (itO (.int slot 0) i a n ep)) (ho : s.heap.get? a = some o) (hd : o.data = .set es ep t) (hf : t.fits es.size = true) (hn : n = es.size)
    (hx : ∀ (A' : Around) (E' : Value → Shared → Prop) (Q' : Option (Value × Nat) → Shared → Prop), Q' none s → wpAny (model prog w) A' (setNext a slot i ep) Q' E' s)
    (hQ : ∀ h', Heap.ExtBut I s.heap h' → Q none { s with heap := h' }) : wpAny (model prog w) A (pyNext (.ref I)) Q E s := by
  have hT : s.TypeIs (.ref I) "set_iterator" := ⟨_, hit, rfl⟩
  unfold pyNext
  refine wpAny_bind (wpAny_attempt (wpAny_callSpecial?_slot (name := Str.ofString "__next__") hT slot_seti_next (wpAny_call_entry slot_seti_next hT entry_seti_next ?_ (args_seti_next _))))
  unfold Builtin.«set_iterator.__next__»
  refine wpAny_bind (wpAny_pure ?_)
  refine wpAny_bind (wpAny_fieldsOf hit rfl ?_)
  show wpAny _ _ (setEntries a >>= _) _ _ s
  unfold setEntries
  refine wpAny_bind (wpAny_bind (wpAny_setState_of ho hd hf (wpAny_pure ?_)))
  dsimp only
  rw [if_neg (by rw [hn]; simp)]
  show wpAny _ _ (setNext a (slot : Int).toNat (i : Int).toNat (ep : Int).toNat >>= _) _ _ s
  rw [Int.toNat_natCast, Int.toNat_natCast, Int.toNat_natCast]
  refine wpAny_bind (hx _ _ _ ?_)
  dsimp only
  refine wpAny_bind (wpAny_setField hit rfl (by simp) ?_)
  show wpAny _ _ (newExc (.type "StopIteration") [] >>= _) _ _ _
  refine wpAny_bind ?_
  simp only [newExc, newTuple]
  refine wpAny_bind (wpAny_newObj_type ?_ (by size_fits))
  refine wpAny_bind (m := firstArgMember _ _) (wpAny_of_eq (a := Value.none) (by first | rfl | (simp only [firstArgMember]; rfl)) ?_)
  refine wpAny_newObj_type ?_ (by size_fits)
  simp only [raiseNew]
  refine wpAny_bind (wpAny_handled ?_)
  first | rw [show A.in1.handled = none from hh] | rw [hh]
  refine wpAny_bind (wpAny_pure (wpAny_throw ?_))
  refine wpAny_bind (wpAny_isInstance (T := "StopIteration") (b := true) ⟨_, Heap.get?_push_size _ rfl, rfl⟩ isSubtype_stop ?_)
  exact wpAny_pure (hQ _ (((Heap.SameBut.update ..).extBut.push _).push _))
/-- a turn by a drawn order: T the tuple of places -/
theorem setd_item {T : Addr} {i n pl : Nat} {tk : Tok} {x : Int × Value} {places : Array Value} {Q : Option Value → Shared → Prop} (hit : s.heap.get? I = some (itO (.ref T) i a n ep)) (hT : s.heap.IsTuple T places) (hp : places[i]? = some (.int pl tk)) (ho : s.heap.get? a = some o) (hd : o.data = .set es ep t)
    (hf : t.fits es.size = true) (hn : n = es.size) (hx : es[pl]? = some x) (hQ : ∀ h', h'.get? I = some (itO (.ref T) (i + 1) a n ep) → Heap.SameBut I s.heap h' → Q (some x.2) { s with heap := h' }) : wpAny (model prog w) A (pyNext (.ref I)) Q E s := by
  obtain ⟨oT, hoT, _, nT, hdT⟩ := hT
  have hTy : s.TypeIs (.ref I) "set_iterator" := ⟨_, hit, rfl⟩
  unfold pyNext
  refine wpAny_bind (wpAny_attempt (wpAny_callSpecial?_slot (name := Str.ofString "__next__") hTy slot_seti_next (wpAny_call_entry slot_seti_next hTy entry_seti_next ?_ (args_seti_next _))))
  unfold Builtin.«set_iterator.__next__»
  refine wpAny_bind (wpAny_pure ?_)
  refine wpAny_bind (wpAny_fieldsOf hit rfl ?_)
  show wpAny _ _ (setEntries a >>= _) _ _ s
  unfold setEntries
  refine wpAny_bind (wpAny_bind (wpAny_setState_of ho hd hf (wpAny_pure ?_)))
  dsimp only
  rw [if_neg (by rw [hn]; simp)]
  show wpAny _ _ (seqItems? (.ref T) >>= _) _ _ s
  refine wpAny_bind (wpAny_seqItems hoT hdT ?_)
  dsimp only
  rw [Int.toNat_natCast, hp]
  dsimp only
  show wpAny _ _ (setNextDrawn a (pl : Int).toNat (ep : Int).toNat >>= _) _ _ s
  rw [Int.toNat_natCast, Int.toNat_natCast]
  unfold setNextDrawn
  refine wpAny_bind (wpAny_bind (wpAny_setState_of ho hd hf ?_))
  dsimp only
  rw [if_neg (by simp)]
  rw [hx]
  refine wpAny_pure ?_
  refine wpAny_bind (wpAny_setField hit rfl (by simp) (wpAny_pure ⟨x.2, rfl, wpAny_pure (hQ _ ?_ (Heap.SameBut.update ..))⟩))
  have h2 := Heap.get?_update_self (Obj.mapFields (·.setIfInBounds 1 (rawInt ((i : Int) + 1)))) hit (Obj.isFreed_of_fields (Obj.data_mapFields (o := itO (.ref T) i a n ep) rfl _))
  rw [h2]
  simp [Obj.mapFields, rawInt]
theorem setd_end {T : Addr} {i n : Nat} {places : Array Value} {Q : Option Value → Shared → Prop} (hh : A.handled = none) (hit : s.heap.get? I = some (itO (.ref T) i a n ep)) (hT : s.heap.IsTuple T places) (hp : places[i]? = none) (ho : s.heap.get? a = some o) (hd : o.data = .set es ep t)
    (hf : t.fits es.size = true) (hn : n = es.size) (hQ : ∀ h', Heap.ExtBut I s.heap h' → Q none { s with heap := h' }) : wpAny (model prog w) A (pyNext (.ref I)) Q E s := by
  obtain ⟨oT, hoT, _, nT, hdT⟩ := hT
  have hTy : s.TypeIs (.ref I) "set_iterator" := ⟨_, hit, rfl⟩
  unfold pyNext
  refine wpAny_bind (wpAny_attempt (wpAny_callSpecial?_slot (name := Str.ofString "__next__") hTy slot_seti_next (wpAny_call_entry slot_seti_next hTy entry_seti_next ?_ (args_seti_next _))))
  unfold Builtin.«set_iterator.__next__»
  refine wpAny_bind (wpAny_pure ?_)
  refine wpAny_bind (wpAny_fieldsOf hit rfl ?_)
  show wpAny _ _ (setEntries a >>= _) _ _ s
  unfold setEntries
  refine wpAny_bind (wpAny_bind (wpAny_setState_of ho hd hf (wpAny_pure ?_)))
  dsimp only
  rw [if_neg (by rw [hn]; simp)]
  show wpAny _ _ (seqItems? (.ref T) >>= _) _ _ s
  refine wpAny_bind (wpAny_seqItems hoT hdT ?_)
  dsimp only
  rw [Int.toNat_natCast, hp]
  dsimp only
  refine wpAny_bind (wpAny_setField hit rfl (by simp) ?_)
  have h1 := Heap.get?_update_self (Obj.mapFields (·.setIfInBounds 0 (rawInt 0))) hit (Obj.isFreed_of_fields (Obj.data_mapFields (o := itO (.ref T) i a n ep) rfl _))
  refine wpAny_bind (wpAny_setField h1 rfl (by simp) ?_)
  show wpAny _ _ (newExc (.type "StopIteration") [] >>= _) _ _ _
  refine wpAny_bind ?_
  simp only [newExc, newTuple]
  refine wpAny_bind (wpAny_newObj_type ?_ (by size_fits))
  refine wpAny_bind (m := firstArgMember _ _) (wpAny_of_eq (a := Value.none) (by first | rfl | (simp only [firstArgMember]; rfl)) ?_)
  refine wpAny_newObj_type ?_ (by size_fits)
  simp only [raiseNew]
  refine wpAny_bind (wpAny_handled ?_)
  first | rw [show A.in1.handled = none from hh] | rw [hh]
  refine wpAny_bind (wpAny_pure (wpAny_throw ?_))
  refine wpAny_bind (wpAny_isInstance (T := "StopIteration") (b := true) ⟨_, Heap.get?_push_size _ rfl, rfl⟩ isSubtype_stop ?_)
  exact wpAny_pure (hQ _ ((((Heap.SameBut.update ..).trans (Heap.SameBut.update ..)).extBut.push _).push _))
end
end MG

set_option Elab.async false
set_option linter.all false
set_option maxRecDepth 100000
namespace MG
open PySem PySem.Spec PyProof.Rows L2

theorem entry_seti_iter : entryFor table "set_iterator.__iter__" = some Builtin.«dict_keyiterator.__iter__» :=
  entryFor_alias (id' := "dict_keyiterator.__iter__") (by kernel_rfl) rfl (by decide +kernel) (by kernel_rfl)
theorem args_seti_iter (a : Value) : argsOk "set_iterator.__iter__" ⟨[a], []⟩ := by unfold argsOk; kernel_rfl
section
variable {prog : Program} {w : World} {A : Around} {E : Value → Shared → Prop} {s : Shared} {a I : Addr} {o : Obj} {es : Array (Int × Value)} {ep : Nat} {t : SetTable}
theorem iter_self {Q : Value → Shared → Prop} (hT : s.TypeIs (.ref I) "set_iterator") (h : Q (.ref I) s) : wpAny (model prog w) A (pyIter (.ref I)) Q E s := by
  refine wpAny_pyIter_slot hT slot_seti_iter (wpAny_call_entry slot_seti_iter hT entry_seti_iter ?_ (args_seti_iter _))
  show wpAny _ _ (ret (.ref I)) _ _ s
  exact wpAny_pure ⟨_, rfl, "set_iterator", _, hT, slot_seti_next.lookup, h⟩
theorem next_text {slot i : Nat} (ho : s.heap.get? a = some o) (hd : o.data = .set es ep t) (hf : t.fits es.size = true) (hb : byTx w = true) (A' : Around) (E' : Value → Shared → Prop) (Q' : Option (Value × Nat) → Shared → Prop)
    (h : Q' (((pickOrder (w.params.setOrder a ep) es)[i]?).map fun e => (e.2, slot)) s) : wpAny (model prog w) A' (setNext a slot i ep) Q' E' s := by
  unfold setNext setWalk setsByText
  refine wpAny_bind (wpAny_setState_of ho hd hf (wpAny_bind (wpAny_bind (wpAny_askSetting (wpAny_pure ?_)))))
  rw [if_pos (show (model prog w).w.params.followText "set-order" = true from hb), if_neg (by simp)]
  refine wpAny_bind (wpAny_bind (wpAny_setState_of ho hd hf (wpAny_bind (wpAny_bind (wpAny_askSetting (wpAny_pure ?_))))))
  rw [if_pos (show (model prog w).w.params.followText "set-order" = true from hb)]
  exact wpAny_bind (wpAny_askSetting (wpAny_pure (wpAny_pure h)))
theorem next_few {slot i : Nat} (ho : s.heap.get? a = some o) (hd : o.data = .set es ep t) (hf : t.fits es.size = true) (hb : byTx w = false) (hl : t.led = true) (h1 : es.size ≤ 1) (A' : Around) (E' : Value → Shared → Prop) (Q' : Option (Value × Nat) → Shared → Prop)
    (h : Q' (match es[SetTable.below t.place slot]?, t.place[SetTable.below t.place slot]? with | some (_, x), some j => some (x, j + 1) | _, _ => none) s) : wpAny (model prog w) A' (setNext a slot i ep) Q' E' s := by
  unfold setNext setsByText
  refine wpAny_bind (wpAny_setState_of ho hd hf (wpAny_bind (wpAny_bind (wpAny_askSetting (wpAny_pure ?_)))))
  rw [if_neg (show ¬ ((model prog w).w.params.followText "set-order" = true) by rw [show (model prog w).w.params.followText "set-order" = false from hb]; simp)]
  refine wpAny_ite_split (fun hab => ?_) (fun _ => ?_)
  · exfalso
    have hab : (!t.plain && decide (es.size > 1)) = true := hab
    simp only [Bool.and_eq_true, decide_eq_true_eq] at hab
    omega
  · refine wpAny_bind ?_
    show wpAny _ _ (if (!t.led && !es.isEmpty) = true then unsupported "set:maker-not-led" else pure ()) _ _ s
    rw [if_neg (by rw [hl]; simp)]
    exact wpAny_pure (wpAny_pure h)

/-- what a walk over a set gives: its members in some order -/
def SetWalk (prog : Program) (w : World) (s s' : Shared) (a I : Addr) (xs : List Str) : Prop :=
  s'.gens = s.gens ∧ s'.os = s.os ∧ (∀ b u, s.heap.get? b = some u → s'.heap.get? b = some u) ∧ ∃ (ys : List Str) (fp wr : List Addr) (St : Nat → Heap → Prop), ys.Perm xs ∧ St 0 s'.heap ∧ (∀ b ∈ wr, s.heap.objs.size ≤ b) ∧ (∀ b ∈ fp, b = a ∨ s.heap.objs.size ≤ b) ∧
    ∀ A' : Around, A'.handled = none → Walks prog w A' I fp wr ys.length (fun i v => ∃ y t, ys[i]? = some y ∧ v = .str y t) St

theorem map_get {α β : Type} {f : α → β} {l : List α} {i : Nat} {x : α} (h : l[i]? = some x) : (l.map f)[i]? = some (f x) := by rw [List.getElem?_map, h]; rfl

theorem pyIter_set {xs : List Str} {Q : Value → Shared → Prop} (S : SetS prog w s.heap a xs) (hQ : ∀ I s', SetWalk prog w s s' a I xs → Q (.ref I) s') : wpAny (model prog w) A (pyIter (.ref a)) Q E s := by
  obtain ⟨o, ho, hex, es, ep, t, hd, hel, hperm, hnd, hb, hf, hl, hpl⟩ := S
  have hT : s.TypeIs (.ref a) "set" := ⟨o, ho, hex.1⟩
  have hstr := elems_str hel
  have helt : ∀ (i : Nat) (e : Int × Value), es[i]? = some e → ∃ tk, e.2 = .str (strOf e) tk := fun i e he => by
    obtain ⟨tk, h1, _⟩ := hstr e (by rw [← Array.getElem?_toList] at he; exact List.mem_of_getElem? he)
    exact ⟨tk, h1⟩
  have alt : a < s.heap.objs.size := Heap.lt_size ho
  refine wpAny_pyIter_slot hT F.slot_set_iter (wpAny_call_entry F.slot_set_iter hT entry_set_iter ?_ (F.args_set_iter_1 _))
  unfold Builtin.«frozenset.__iter__» Builtin.Frozenset.slot0 Builtin.Frozenset.sizeOf setEntries setDrawn setEpoch setsByText
  refine wpAny_bind (m := (do Builtin.Frozenset.addrOf (← slotArgs "__iter__" 0 _).1)) (wpAny_bind (wpAny_pure (wpAny_pure ?_)))
  refine wpAny_bind (wpAny_bind (wpAny_bind (wpAny_setState_of ho hd hf (wpAny_pure (wpAny_pure ?_)))))
  refine wpAny_bind (wpAny_bind (wpAny_setState_of ho hd hf (wpAny_bind (wpAny_bind (wpAny_askSetting (wpAny_pure (wpAny_pure ?_)))))))
  have eb : (model prog w).w.params.followText "set-order" = byTx w := rfl
  -- by places: the iterator's first field is 0
  have few : ∀ (R : Value → Prop), True := fun _ => trivial
  refine wpAny_ite_split (fun hdr => ?_) (fun hdr => ?_)
  · -- a drawn order
    refine wpAny_bind (draw_any (by simp) fun pls d hp => ?_)
    have hlen : pls.length = es.size := by rw [hp.length_eq, List.length_range]
    refine wpAny_bind (wpAny_newObj_type ?_ (by
      show (List.map (fun i : Nat => rawInt (i : Int)) pls).toArray.size ≤ sizeLine
      rw [List.size_toArray, List.length_map, hlen]; exact fits_of_scanBound hb))
    generalize hg : s.heap.push { cls := .type "tuple", data := .seq (List.map (fun i : Nat => rawInt (i : Int)) pls).toArray } = g
    have ho1 : g.get? a = some o := by rw [← hg]; exact Heap.get?_push_of_some _ ho
    have hgs : g.objs.size = s.heap.objs.size + 1 := by rw [← hg, Heap.size_push]
    have hTup : g.IsTuple s.heap.objs.size (List.map (fun i : Nat => rawInt (i : Int)) pls).toArray := by rw [← hg]; exact ⟨_, Heap.get?_push_size _ rfl, rfl, _, rfl⟩
    refine wpAny_bind (wpAny_bind (wpAny_setState_of (s := { s with heap := g, drawn := d }) ho1 hd hf (wpAny_pure ?_)))
    refine wpAny_bind (wpAny_newObj_type (wpAny_pure ⟨_, rfl, "set_iterator", _, ⟨_, Heap.get?_push_size _ rfl, rfl⟩, slot_seti_next.lookup, ?_⟩) (by size_fits))
    refine hQ _ _ ⟨rfl, rfl, fun b u e => Heap.get?_push_of_some _ (by rw [← hg]; exact Heap.get?_push_of_some _ e), pls.map (fun i => strOf ((es[i]?).getD (0, .none))), [g.objs.size, s.heap.objs.size, a], [g.objs.size], fun i h => h.get? g.objs.size = some (itO (.ref s.heap.objs.size) i a es.size ep) ∧ h.IsTuple s.heap.objs.size (List.map (fun i : Nat => rawInt (i : Int)) pls).toArray ∧ h.get? a = some o, ?_, ⟨Heap.get?_push_size _ rfl, hTup.push _, Heap.get?_push_of_some _ ho1⟩, ?_, ?_, fun A' hA => ?_⟩
    · refine ((hp.map _).trans ?_).trans hperm
      have e : (List.range es.size).map (fun i => strOf ((es[i]?).getD (0, .none))) = es.toList.map strOf := by
        refine List.ext_getElem? fun i => ?_
        rw [List.getElem?_map, List.getElem?_map]
        by_cases hi : i < es.size
        · rw [List.getElem?_range hi, Array.getElem?_toList]; simp [hi]
        · rw [List.getElem?_eq_none (by simpa using hi), List.getElem?_eq_none (by simpa using hi)]; rfl
      rw [e]
    · intro b hb
      rw [List.mem_singleton.mp hb, hgs]; exact Nat.le_succ _
    · intro b hb
      simp only [List.mem_cons, List.not_mem_nil, or_false] at hb
      rcases hb with rfl | rfl | rfl
      · exact .inr (by rw [hgs]; exact Nat.le_succ _)
      · exact .inr (Nat.le_refl _)
      · exact .inl rfl
    · have eI : ∀ b, b = s.heap.objs.size ∨ b = a → b ≠ g.objs.size := fun b hb => by
        rcases hb with rfl | rfl
        · rw [hgs]; exact Nat.ne_of_lt (Nat.lt_succ_self _)
        · rw [hgs]; exact Nat.ne_of_lt (Nat.lt_succ_of_lt alt)
      refine ⟨fun b hb => by rw [List.mem_singleton.mp hb]; simp, fun i h h' st k => ⟨k _ (by simp) _ st.1, ?_, k _ (by simp) _ st.2.2⟩, fun i s1 Q1 E1 hi st hQ1 => ?_, fun s1 Q1 E1 st hQ1 => ?_, fun i s1 Q1 E1 st hQ1 => iter_self ⟨_, st.1, rfl⟩ hQ1⟩
      · obtain ⟨oT, e1, r⟩ := st.2.1
        exact ⟨oT, k _ (by simp) _ e1, r⟩
      · obtain ⟨st1, st2, st3⟩ := st
        rw [List.length_map] at hi
        obtain ⟨pl, hpl⟩ : ∃ pl, pls[i]? = some pl := ⟨pls[i], List.getElem?_eq_getElem hi⟩
        have hlt : pl < es.size := List.mem_range.mp (hp.mem_iff.mp (List.mem_of_getElem? hpl))
        have hx : es[pl]? = some es[pl] := Array.getElem?_eq_getElem hlt
        refine setd_item (pl := pl) (tk := 0) st1 st2 (by simp [hpl, rawInt]) st3 hd hf rfl hx fun h' e1 sb => ?_
        obtain ⟨tk, etk⟩ := helt pl _ hx
        have q := hQ1 es[pl].2 h' s1.toks ⟨strOf es[pl], tk, by rw [map_get hpl, hx]; rfl, etk⟩ ⟨e1, ?_, (sb.2 a (eI a (.inr rfl))).trans st3⟩ (fun b u hb e => (sb.2 b (by simpa using hb)).trans e)
        · exact q
        · obtain ⟨oT, e2, r⟩ := st2
          exact ⟨oT, (sb.2 _ (eI _ (.inl rfl))).trans e2, r⟩
      · obtain ⟨st1, st2, st3⟩ := st
        refine setd_end hA st1 st2 (by simp) st3 hd hf rfl fun h' eb => hQ1 h' s1.toks fun b u hb e => eb b u (by simpa using hb) e
  · refine wpAny_bind (wpAny_pure ?_)
    refine wpAny_bind (wpAny_bind (wpAny_setState_of ho hd hf (wpAny_pure ?_)))
    refine wpAny_bind (wpAny_newObj_type (wpAny_pure ⟨_, rfl, "set_iterator", _, ⟨_, Heap.get?_push_size _ rfl, rfl⟩, slot_seti_next.lookup, ?_⟩) (by size_fits))
    have neI : a ≠ s.heap.objs.size := Nat.ne_of_lt alt
    -- the order, and what setNext tells at each turn
    have key : ∃ (ys : List Str) (sl : Nat → Nat) (vs : Nat → Value), ys.Perm xs ∧ sl 0 = 0 ∧ (∀ i y, ys[i]? = some y → ∃ tk, vs i = .str y tk) ∧
        (∀ (s1 : Shared) (i : Nat), s1.heap.get? a = some o → i < ys.length → ∀ (A' : Around) (E' : Value → Shared → Prop) (Q' : Option (Value × Nat) → Shared → Prop), Q' (some (vs i, sl (i + 1))) s1 → wpAny (model prog w) A' (setNext a (sl i) i ep) Q' E' s1) ∧
        (∀ (s1 : Shared), s1.heap.get? a = some o → ∀ (A' : Around) (E' : Value → Shared → Prop) (Q' : Option (Value × Nat) → Shared → Prop), Q' none s1 → wpAny (model prog w) A' (setNext a (sl ys.length) ys.length ep) Q' E' s1) := by
      cases hbt : byTx w with
      | true =>
        have pp := pick_perm (w.params.setOrder a ep) es
        have mem : ∀ (i : Nat) (e : Int × Value), (pickOrder (w.params.setOrder a ep) es)[i]? = some e → ∃ tk, e.2 = .str (strOf e) tk := fun i e he => by
          rw [← Array.getElem?_toList] at he
          obtain ⟨tk, h1, _⟩ := hstr e (pp.mem_iff.mp (List.mem_of_getElem? he))
          exact ⟨tk, h1⟩
        refine ⟨(pickOrder (w.params.setOrder a ep) es).toList.map strOf, fun _ => 0, fun i => (((pickOrder (w.params.setOrder a ep) es)[i]?).map (·.2)).getD .none, (pp.map _).trans hperm, rfl, fun i y hy => ?_, fun s1 i h1 hi A' E' Q' q => ?_, fun s1 h1 A' E' Q' q => ?_⟩
        · rw [List.getElem?_map, Array.getElem?_toList] at hy
          cases he : (pickOrder (w.params.setOrder a ep) es)[i]? with
          | none => rw [he] at hy; cases hy
          | some e =>
            rw [he] at hy
            have hy : strOf e = y := Option.some.inj hy
            obtain ⟨tk, etk⟩ := mem i e he
            exact ⟨tk, by show ((Option.map (fun x => x.2) (pickOrder (w.params.setOrder a ep) es)[i]?).getD .none) = _; rw [he, ← hy]; exact etk⟩
        · rw [List.length_map, Array.length_toList] at hi
          refine next_text h1 hd hf hbt A' E' Q' ?_
          dsimp only at q
          rw [Array.getElem?_eq_getElem hi] at q ⊢
          exact q
        · refine next_text h1 hd hf hbt A' E' Q' ?_
          rw [List.length_map, Array.length_toList, Array.getElem?_eq_none (Nat.le_refl _)]
          exact q
      | false =>
        have led : t.led = true := by rw [hl, hbt]; rfl
        have le1 : es.size ≤ 1 := by
          have hdr : ¬ ((!(byTx w) && (!t.plain && decide (es.size > 1))) = true) := hdr
          rcases Nat.lt_or_ge 1 es.size with z | z
          · exfalso
            have := hpl (by omega)
            rw [hbt, this] at hdr
            simp at hdr
            omega
          · exact z
        have hps : t.place.size = es.size := by
          simp only [SetTable.fits, Bool.and_eq_true, beq_iff_eq, decide_eq_true_eq] at hf
          exact hf.1
        rcases Nat.lt_or_ge 0 es.size with z | z
        · -- one member
          have e1 : es.size = 1 := by omega
          obtain ⟨x, ex⟩ : ∃ x, es = #[x] := Array.size_eq_one_iff.mp e1
          obtain ⟨j, ej⟩ : ∃ j, t.place = #[j] := Array.size_eq_one_iff.mp (by rw [hps]; exact e1)
          subst ex
          obtain ⟨tk, etk⟩ := helt 0 x rfl
          refine ⟨[strOf x], fun i => if i = 0 then 0 else j + 1, fun _ => x.2, hperm, rfl, fun i y hy => ?_, fun s1 i h1 hi A' E' Q' q => ?_, fun s1 h1 A' E' Q' q => ?_⟩
          · cases i with
            | zero =>
              have hy : strOf x = y := Option.some.inj hy
              exact ⟨tk, by rw [← hy]; exact etk⟩
            | succ i => simp at hy
          · have hi : i = 0 := by simpa using hi
            subst hi
            refine next_few h1 hd hf hbt led le1 A' E' Q' ?_
            rw [ej]
            simpa [SetTable.below, SetTable.below.go] using q
          · refine next_few h1 hd hf hbt led le1 A' E' Q' ?_
            rw [ej]
            simpa [SetTable.below, SetTable.below.go] using q
        · have e0 : es = #[] := Array.size_eq_zero_iff.mp (by omega)
          subst e0
          refine ⟨[], fun _ => 0, fun _ => .none, hperm, rfl, fun i y hy => by simp at hy, fun s1 i h1 hi => absurd hi (by simp), fun s1 h1 A' E' Q' q => ?_⟩
          refine next_few h1 hd hf hbt led le1 A' E' Q' ?_
          simpa using q
    obtain ⟨ys, sl, vs, hys, hsl, hvs, hnx, hend⟩ := key
    have hn : es.size = ys.length := by rw [hys.length_eq, ← hperm.length_eq, List.length_map, Array.length_toList]
    refine hQ _ _ ⟨rfl, rfl, fun b u e => Heap.get?_push_of_some _ e, ys, [s.heap.objs.size, a], [s.heap.objs.size], fun i h => h.get? s.heap.objs.size = some (itO (.int (sl i) 0) i a es.size ep) ∧ h.get? a = some o, hys, ⟨by rw [hsl]; exact Heap.get?_push_size _ rfl, Heap.get?_push_of_some _ ho⟩, ?_, ?_, fun A' hA => ?_⟩
    · intro b hb
      rw [List.mem_singleton.mp hb]; exact Nat.le_refl _
    · intro b hb
      simp only [List.mem_cons, List.not_mem_nil, or_false] at hb
      rcases hb with rfl | rfl
      · exact .inr (Nat.le_refl _)
      · exact .inl rfl
    · refine ⟨fun b hb => by rw [List.mem_singleton.mp hb]; simp, fun i h h' st k => ⟨k _ (by simp) _ st.1, k _ (by simp) _ st.2⟩, fun i s1 Q1 E1 hi st hQ1 => ?_, fun s1 Q1 E1 st hQ1 => ?_, fun i s1 Q1 E1 st hQ1 => iter_self ⟨_, st.1, rfl⟩ hQ1⟩
      · obtain ⟨st1, st3⟩ := st
        obtain ⟨y, hy⟩ : ∃ y, ys[i]? = some y := ⟨ys[i], List.getElem?_eq_getElem hi⟩
        obtain ⟨tk, etk⟩ := hvs i y hy
        refine seti_item (x := vs i) (nx := sl (i + 1)) st1 st3 hd hf rfl (fun A'' E'' Q'' q => hnx s1 i st3 hi A'' E'' Q'' q) fun h' e1 sb => ?_
        exact hQ1 (vs i) h' s1.toks ⟨y, tk, hy, etk⟩ ⟨e1, (sb.2 a neI).trans st3⟩ (fun b u hb e => (sb.2 b (by simpa using hb)).trans e)
      · obtain ⟨st1, st3⟩ := st
        refine seti_end hA st1 st3 hd hf rfl (fun A'' E'' Q'' q => hend s1 st3 A'' E'' Q'' q) fun h' eb => hQ1 h' s1.toks fun b u hb e => eb b u (by simpa using hb) e
end
end MG

set_option Elab.async false
set_option linter.all false
set_option maxRecDepth 100000
namespace MG
open PySem PySem.Spec PyProof.Rows L2

section
variable {prog : Program} {w : World} {A : Around} {E : Value → Shared → Prop} {s : Shared}
/-- the same world but for a grown heap, counters and draws -/
def Grown (s s' : Shared) : Prop := s'.gens = s.gens ∧ s'.os = s.os ∧ ∀ b u, s.heap.get? b = some u → s'.heap.get? b = some u
theorem Grown.refl (s : Shared) : Grown s s := ⟨rfl, rfl, fun _ _ e => e⟩
theorem Grown.trans {a b c : Shared} (x : Grown a b) (y : Grown b c) : Grown a c := ⟨y.1.trans x.1, y.2.1.trans x.2.1, fun p u e => y.2.2 p u (x.2.2 p u e)⟩

theorem hint_set {a : Addr} {Q : Bool → Shared → Prop} (hT : s.TypeIs (.ref a) "set") (h : Q false s) : wpAny (model prog w) A (Builtin.List.listLengthHint (.ref a)) Q E s := by
  unfold Builtin.List.listLengthHint
  refine wpAny_bind (wpAny_specialOf hT F.slot_set_len.lookup ?_)
  generalize hid : ("set.__len__" : String) = id0
  wp_delta
  rw [show splitId id0 = some ("set", "__len__") from by subst hid; decide +kernel]
  subst hid
  refine wpAny_bind (wpAny_isInstance (T := "set") (b := true) hT (by rw [isSubtype_type]; kernel_rfl) ?_)
  refine wpAny_ite_split (fun hab => absurd hab (by decide)) (fun _ => ?_)
  refine wpAny_ite_split (fun _ => ?_) (fun hab => absurd (by decide +kernel) hab)
  refine wpAny_bind (wpAny_typeOf hT ?_)
  exact wpAny_pure h

theorem strs_of_items : ∀ {ys : List Str} {vs : List Value}, vs.length = ys.length → (∀ (i : Nat) (v : Value), vs[i]? = some v → ∃ y t, ys[i]? = some y ∧ v = .str y t) → StrsAre vs ys
  | [], [], _, _ => .nil
  | [], _ :: _, h, _ => by simp at h
  | _ :: _, [], h, _ => by simp at h
  | y :: ys, v :: vs, h, k => by
    obtain ⟨y', t, e1, e2⟩ := k 0 v rfl
    have e1 : y = y' := Option.some.inj e1
    subst e1
    subst e2
    exact .cons y t (strs_of_items (by simpa using h) fun i u hu => k (i + 1) u hu)

/-- the members of a set, as collect gathers them -/
theorem collect_set {a : Addr} {xs : List Str} {R : List Value → Shared → Prop} (hh : A.handled = none) (S : SetS prog w s.heap a xs) (hn : xs.length ≤ 1000)
    (h : ∀ (s' : Shared) (vs : List Value) (ys : List Str), StrsAre vs ys → ys.Perm xs → Grown s s' → R vs s') : wpAny (model prog w) A (collect (.ref a)) R E s := by
  have alt : a < s.heap.objs.size := by obtain ⟨o, ho, _⟩ := S; exact Heap.lt_size ho
  unfold collect
  refine wpAny_bind (wpAny_runValue (codeAny_builtin entry_proto_collect' ?_))
  rw [Around.under_plainId PySem.F.plain_proto_collect _]
  show wpAny _ A.in1 (newList [] >>= fun l => again (.builtin "list.__iadd__" ⟨[l, .ref a], []⟩)) _ _ s
  refine wpAny_bind (wpAny_newObj_type ?_)
  refine wpAny_pure ⟨plainId_quiet PySem.F.plain_list_iadd _, codeAny_builtin entry_list_iadd' ?_⟩
  rw [Around.under_plainId PySem.F.plain_list_iadd _]
  generalize hg : s.heap.push { cls := .type "list", data := .seq ([] : List Value).toArray } = g
  have hgs : g.objs.size = s.heap.objs.size + 1 := by rw [← hg, Heap.size_push]
  have hL : g.get? s.heap.objs.size = some { cls := .type "list", data := .seq #[] } := by rw [← hg]; exact Heap.get?_push_size _ rfl
  have S1 : SetS prog w g a xs := S.keep fun o e => by rw [← hg]; exact Heap.get?_push_of_some _ e
  have hT1 : ({ s with heap := g } : Shared).TypeIs (.ref a) "set" := by obtain ⟨o, ho, so⟩ := S1; exact ⟨o, ho, so.exact.1⟩
  have old : ∀ b u, s.heap.get? b = some u → g.get? b = some u := fun b u e => by rw [← hg]; exact Heap.get?_push_of_some _ e
  have neL : s.heap.objs.size ≠ a := Nat.ne_of_gt alt
  show wpAny _ A.in1 (Builtin.List.listExtendWith (.ref s.heap.objs.size) (.ref a) (.ref s.heap.objs.size)) _ _ { s with heap := g }
  unfold Builtin.List.listExtendWith
  refine wpAny_bind (wpAny_typeOf (T := "set") hT1 ?_)
  have h1 : Builtin.List.listSameRef (.ref s.heap.objs.size) (.ref a) = false := by simp [Builtin.List.listSameRef, neL]
  have h2 : (Value.type "set" == Value.type "list") = false := by decide
  have h3 : (Value.type "set" == Value.type "tuple") = false := by decide
  simp only [h1, h2, h3, Bool.or_false, Bool.false_eq_true, if_false]
  refine wpAny_bind (pyIter_set S1 fun I s2 W2 => ?_)
  obtain ⟨eg, eo, ek, ys, fp, wr, St, hys, st, hwr, hfp, W⟩ := W2
  have hL2 : s2.heap.get? s.heap.objs.size = some { cls := .type "list", data := .seq #[] } := ek _ _ hL
  have hT2 : s2.TypeIs (.ref a) "set" := by obtain ⟨o, ho, so⟩ := S1; exact ⟨o, ek _ _ ho, so.exact.1⟩
  refine wpAny_bind (wpAny_holding (hint_set hT2 ?_))
  have W1 := W A.in1 hh
  have hfpL : s.heap.objs.size ∉ fp := fun z => by
    rcases hfp _ z with e | e
    · exact neL e
    · have e : g.objs.size ≤ s.heap.objs.size := e
      rw [hgs] at e
      exact Nat.lt_irrefl _ e
  have key : ∀ (h4 : Heap) (c : Nat), St 0 h4 → (∀ b u, b ≠ s.heap.objs.size → s2.heap.get? b = some u → h4.get? b = some u) → h4.get? s.heap.objs.size = some { cls := .type "list", data := .seq #[] c } →
      codeAny (model prog w) A (.builtin "list.extend.loop" ⟨[.ref s.heap.objs.size, .ref I, .ref s.heap.objs.size], []⟩) (fun q s' => ∃ (acc : Array Value) (c' : Nat), q = .ok (.ret (.ref s.heap.objs.size)) ∧ Grown s s' ∧ s'.heap.get? s.heap.objs.size = some { cls := .type "list", data := .seq acc c' } ∧ ItemsOf (fun i v => ∃ y t, ys[i]? = some y ∧ v = .str y t) acc ys.length) { s2 with heap := h4 } := by
    intro h4 c st4 k4 L4
    refine codeAny_extend_loopS W1.toS (by rw [hys.length_eq, sizeLine_eq]; omega) s.heap.objs.size hfpL _ ys.length 0 _ #[] c rfl (Nat.zero_le _) st4 L4 (ItemsOf.nil _) fun s' acc' c' hm hS' hacc => ?_
    refine ⟨acc', c', rfl, ⟨hm.gens.trans eg, hm.os.trans eo, fun b u e => ?_⟩, hS', hacc⟩
    have hb : b < s.heap.objs.size := Heap.lt_size e
    refine hm.heap b u (fun z => ?_) (k4 b u (Nat.ne_of_lt hb) (ek b u (old b u e)))
    rcases List.mem_cons.mp z with z | z
    · exact Nat.lt_irrefl _ (z ▸ hb)
    · have q : g.objs.size ≤ b := hwr b z
      rw [hgs] at q
      exact Nat.lt_irrefl _ (Nat.lt_of_lt_of_le (Nat.lt_of_lt_of_le hb (Nat.le_succ _)) q)
  have fin : ∀ (q : Result) (s' : Shared), (∃ (acc : Array Value) (c' : Nat), q = .ok (.ret (.ref s.heap.objs.size)) ∧ Grown s s' ∧ s'.heap.get? s.heap.objs.size = some { cls := .type "list", data := .seq acc c' } ∧ ItemsOf (fun i v => ∃ y t, ys[i]? = some y ∧ v = .str y t) acc ys.length) →
      (match q with
        | .ok (.ret v) => wpAny (model prog w) A (match v with
            | .ref a => (do
              match (← load a).data with
              | .seq xs _ => pure xs.toList
              | _ => unsupported "internal:collect")
            | _ => unsupported "internal:collect") R E s'
        | .ok _ => False
        | .error e => E e s') := by
    rintro q s' ⟨acc, c', rfl, G, L', hacc⟩
    show wpAny _ A (load s.heap.objs.size >>= _) _ _ _
    refine wpAny_bind (wpAny_load L' ?_)
    exact wpAny_pure (h s' acc.toList ys (strs_of_items (by rw [Array.length_toList]; exact hacc.1) fun i v e => hacc.2 i v (by rw [← Array.getElem?_toList]; exact e)) hys G)
  have res : ∀ (b : Bool), b = true ∨ b = false → True := fun _ _ => trivial
  refine wpAny_ite_split (fun _ => ?_) (fun hab => ?_)
  · refine wpAny_bind (wpAny_rule ?_)
    refine wpAny_bind ?_
    show wpAny _ _ (updateSeq s.heap.objs.size (·.push .none) >>= fun _ => updateSeq s.heap.objs.size (·.pop)) _ _ _
    refine wpAny_bind (wpAny_updateSeq hL2 rfl ?_)
    have hL3 := Heap.get?_update_self (Obj.mapSeq (·.push Value.none)) hL2 rfl
    refine wpAny_updateSeq (hz := by seq_fits) hL3 rfl ?_
    have hL4 := Heap.get?_update_self (Obj.mapSeq (·.pop)) hL3 rfl
    have oth : ∀ b u, b ≠ s.heap.objs.size → s2.heap.get? b = some u → ((s2.heap.update s.heap.objs.size (Obj.mapSeq (·.push Value.none))).update s.heap.objs.size (Obj.mapSeq (·.pop))).get? b = some u := fun b u hb e =>
      (Heap.get?_update_other _ _ (Ne.symm hb)).trans ((Heap.get?_update_other _ _ (Ne.symm hb)).trans e)
    refine wpAny_pure ⟨plainId_quiet PySem.F.plain_extend_loop _, codeAny_mono (key _ _ (W1.frame 0 _ _ st fun b hb u e => oth b u (fun z => hfpL (z ▸ hb)) e) oth hL4) fin⟩
  · exact wpAny_pure ⟨plainId_quiet PySem.F.plain_extend_loop _, codeAny_mono (key _ _ st (fun b u _ e => e) hL2) fin⟩

/-- sorted of anything whose members collect gathers as texts -/
theorem sorted_by {src : Value} {xs : List Str} {Q : Value → Shared → Prop} (h64 : xs.length < 64)
    (hcol : ∀ (A' : Around) (R : List Value → Shared → Prop), A' = A.in1 → (∀ (s' : Shared) (vs : List Value) (ys : List Str), StrsAre vs ys → ys.Perm xs → Grown s s' → R vs s') → wpAny (model prog w) A' (collect src) R E s)
    (hQ : ∀ (s1 s' : Shared) (vs : List Value) (ys : List Str) (n : Nat), StrsAre vs ys → ys.Perm xs → sortedS ys = true → Grown s s1 → Grown s1 s' → s'.heap.get? s1.heap.objs.size = some { cls := .type "list", data := .seq vs.toArray n } → Q (.ref s1.heap.objs.size) s') :
    wpAny (model prog w) A (call (.builtin "sorted") [src]) Q E s := by
  refine Calls.call_function_entry kind_sorted plain_sorted entry_sorted (args_sorted1 _) ?_
  unfold Builtin.«sorted»
  refine wpAny_bind (m := checkCount "sorted" 1 1 _) (wpAny_pure ?_)
  refine wpAny_bind (hcol _ _ rfl fun s1 vs ys hv hp G => ?_)
  have hl : vs.length = ys.length := hv.length
  have hl64 : vs.length < 64 := by rw [hl, hp.length_eq]; exact h64
  refine wpAny_bind (wpAny_newList ?_ (by rw [sizeLine_eq]; omega))
  have hL : (s1.heap.push (seqObj "list" vs.toArray 0)).get? s1.heap.objs.size = some (seqObj "list" vs.toArray 0) := Heap.get?_push_size _ rfl
  refine wpAny_bind (wpAny_holding (wpAny_call_entry slot_list_sort ⟨_, hL, rfl⟩ entry_list_sort (list_sort_treeK strKind_oneLt (s := { s1 with heap := s1.heap.push (seqObj "list" vs.toArray 0) }) hL hv.keysOf (fun v₁ v₂ rest e => keyKind_strs (by rw [← e]; exact hv)) hl64 fun st' a1 a2 => ⟨_, rfl, ?_⟩) (args_list_sort _)))
  refine wpAny_pure ⟨_, rfl, ?_⟩
  obtain ⟨ys', h1, h2, h3⟩ := sorted_out_str hv a1 a2
  obtain ⟨n, hn⟩ := PyProof.Rows.sortedHeap_at (vs := vs) (out := (arrOf st').map (·.2)) hL
  refine hQ s1 _ ((arrOf st').map (·.2)).toList ys' n h1 (h2.trans hp) h3 G ⟨rfl, rfl, fun b u e1 => ?_⟩ (by rw [Array.toArray_toList]; exact hn)
  have hb : b ≠ s1.heap.objs.size := Nat.ne_of_lt (Heap.lt_size e1)
  show (sortedHeap (s1.heap.push (seqObj "list" vs.toArray 0)) s1.heap.objs.size vs _).get? b = some u
  rw [PyProof.Rows.sortedHeap_old hb (by rw [Heap.size_push]; exact Nat.lt_succ_of_lt (Heap.lt_size e1))]
  exact Heap.get?_push_of_some _ e1
end

/-! ### by the abstract heap -/
section
variable {X : Cx} {pins : List (Addr × Obj)} {σ : L2.St} {H : Hp} {s s' : Shared}
theorem inv_grown (I : Inv X pins σ H s) (G : Grown s s') : Inv X pins σ H s' := inv_more I G.2.2 G.2.1 (by rw [G.1]; exact I.bare)
theorem inv_laid {a : Addr} {o : HO} (I : Inv X pins σ H s) (G : Grown s s') (hp : s.heap.objs.size ≤ a) (new : ObjOk X.prog X.w (upd H a o) s'.heap a o) : Inv X pins σ (upd H a o) s' :=
  I.call' (ch := []) G.2.1 (Un.laid G.2.2 hp (I.hok.fresh hp)) (I.hok.laid G.2.2 hp new) (by rw [G.1]; exact I.bare) fun b z => absurd z (by simp)
/-- a set of texts, tracked -/
def setH (P : Program) (w : World) (a : Addr) (xs : List Str) : HO := .ext fun h => SetS P w h a xs
theorem setH_ok {P : Program} {w : World} {H : Hp} {h : Heap} {a : Addr} {xs : List Str} (S : SetS P w h a xs) : ObjOk P w H h a (setH P w a xs) :=
  ⟨S, let ⟨o, e, _⟩ := S; ⟨o, e⟩, fun _ _ S k => S.keep k⟩
theorem Inv.setS {a : Addr} {xs : List Str} (I : Inv X pins σ H s) (h : H a = some (setH X.prog X.w a xs)) : SetS X.prog X.w s.heap a xs := (I.hok a _ h).1

/-- set(xs), a list of texts -/
theorem call_setS (hc : X.calm = true) : CallR X (.type "set") (fun vs H Q => ∃ p ys, vs = [V.ref p] ∧ SqL X.K H p (ys.map V.str) ∧ ys.length ≤ 1000 ∧ ∀ l, H l = none → Q (.ref l) (upd H l (setH X.prog X.w l (dedupS ys)))) := by
  intro pins s σ H vs us Q I r h
  obtain ⟨a, ys, rfl, hs, hn, q⟩ := h
  obtain ⟨its, rv, hl, _⟩ := I.list hs
  rw [Vals.ref1 r]
  have hlen := rv.length
  rw [List.length_map] at hlen
  refine call_set_strs (I.ok.hd hc) hl.isList rv.strs (by
    rw [List.size_toArray, ← hlen]
    show ys.length + 1 < 4096
    omega) fun h' tk S' hk => ?_
  have G : Grown s { s with heap := h', toks := tk } := ⟨rfl, rfl, fun b u e => hk b u (Heap.lt_size e) e⟩
  exact ⟨.ref _, upd H s.heap.objs.size (setH X.prog X.w s.heap.objs.size (dedupS ys)), inv_laid I G (Nat.le_refl _) (setH_ok S'), rfl, q _ (I.hok.fresh (Nat.le_refl _))⟩
/-- sorted(s), a set of texts -/
theorem cr_sortedSet (hc : X.calm = true) : CallR X (.builtin "sorted") (fun vs H Q => ∃ a xs, vs = [V.ref a] ∧ H a = some (setH X.prog X.w a xs) ∧ xs.length < 64 ∧ ∀ (ys : List Str) (p : Addr), ys.Perm xs → sortedS ys = true → H p = none → Q (.ref p) (upd H p (.lst (ys.map V.str)))) := by
  intro pins s σ H vs us Q I r h
  obtain ⟨a, xs, rfl, ha, h64, q⟩ := h
  rw [Vals.ref1 r]
  have S := Inv.setS I ha
  refine sorted_by h64 (fun A' R e k => by subst e; exact collect_set (I.ok.hd hc) S (by omega) k) fun s1 s' vs ys n hv hp hs G1 G2 hL => ?_
  have hlen := hv.length
  have I1 := inv_grown I G1
  refine ⟨.ref _, upd H s1.heap.objs.size (.lst (ys.map V.str)), inv_laid I1 G2 (Nat.le_refl _) ⟨?_, vs, n, vals_of_strs hv, hL⟩, rfl, q ys _ hp hs (I1.hok.fresh (Nat.le_refl _))⟩
  rw [List.length_map, hp.length_eq]
  exact small64 h64
end
end MG

set_option Elab.async false
set_option linter.all false
set_option maxRecDepth 100000
namespace MG
open PySem PySem.Spec PyProof.Rows L2

/-! ### what a turn of a comprehension does with its item: acc at D -/
abbrev TEm := Addr → L2.St → Hp → (Hp → Prop) → Prop
def PEm (X : Cx) (em : Value → Env → Sem Unit) (t : TEm) : Prop :=
  ∀ (D : Addr) (pins : List (Addr × Obj)) (s : Shared) (σ : L2.St) (H : Hp) (N : Hp → Prop), Inv X pins σ H s → t D σ H N → wpAny (model X.prog X.w) X.A (em (.ref D) X.env) (fun _ s' => ∃ H', Inv X pins σ H' s' ∧ N H') X.xe s
/-- the reading of a comprehension: o0 the new thing at D -/
def tCm (wi : TI) (g : TG) (tt : TT) (em : TEm) (o0 : Addr → HO) (vs : List Nat) : TE := fun σ H Q => wi σ H fun J H1 => ∀ D, H1 D = none → ∃ W : Nat → Nat → Hp → Prop, (∃ m, W 0 m (upd H1 D (o0 D))) ∧ ∀ i m H, W i m H →
  (J.stop i H ∧ Q (.ref D) H) ∨ (J.go i H ∧ ∃ Nx : Hp → Prop, (∀ H', Nx H' → ∃ m', m' < m ∧ W (i + 1) m' H') ∧ ∀ x H', J.yld i H x H' → g x (wipe σ vs) H' fun σ2 H2 => wipe σ2 vs = wipe σ vs ∧ tt σ2 H2 fun b H3 =>
    if b = true then em D σ2 H3 Nx else Nx H3)
/-- how the new thing is laid -/
def PNew (X : Cx) (m : Sem Value) (o0 : Addr → HO) : Prop :=
  ∀ (pins : List (Addr × Obj)) (s : Shared) (σ : L2.St) (H : Hp) (Q : Value → Shared → Prop), Inv X pins σ H s → (∀ o : Obj, Inv X pins σ (upd H s.heap.objs.size (o0 s.heap.objs.size)) { s with heap := s.heap.push o } → Q (.ref s.heap.objs.size) { s with heap := s.heap.push o }) →
    wpAny (model X.prog X.w) X.A m Q X.xe s

section
variable {X : Cx}
end

section
variable {X : Cx}
abbrev emDc (kx vx : Expr) : Value → Env → Sem Unit := fun acc env => do
        let kv ← eval kx env
        let vv ← holding [kv] (eval vx env)
        match acc with
        | .ref d => do
          standAt { kx.pos with endLine := vx.pos.endLine, endCol := vx.pos.endCol }
          holding [kv, vv] (dictSet d kv vv)
        | _ => unsupported "internal:dictcomp"
theorem loopDc {prog : Program} {w : World} {A : Around} {R : Result → Shared → Prop} {s : Shared} {kx vx target iter : Expr} {ifs : List Expr} {scope : Scope} {pos : Pos} {it acc : Value} {env : Env} (I : Nat → Shared → Prop)
    (turn : ∀ n s, I n s → wpAny (model prog w) A (pyNext it) (fun r s₁ => match r with
      | none => R (.ok .next) s₁
      | some v => wpAny (model prog w) A (letOwnedTupleGo target it v) (fun _ s₁' => wpAny (model prog w) A (assign target env v) (fun _ s₂ =>
          wpAny (model prog w) A (forIn ifs true fun c r => if r = true then do let ok ← isTrue c env (eval c env); pure (ForInStep.yield ok) else pure (ForInStep.yield r)) (fun ok s₃ =>
            if ok = true then wpAny (model prog w) A (emDc kx vx acc env) (fun _ s₅ => ∃ m, m < n ∧ I m s₅) (notedBy (model prog w) A env fun e s' => R (.error e) s') s₃
            else ∃ m, m < n ∧ I m s₃) (notedBy (model prog w) A env fun e s' => R (.error e) s') s₂) (notedBy (model prog w) A env fun e s' => R (.error e) s') s₁') (notedBy (model prog w) A env fun e s' => R (.error e) s') s₁) (notedBy (model prog w) A env fun e s' => R (.error e) s') s)
    (n : Nat) (h : I n s) :
    codeAny (model prog w) A (.compLoop (.DictComp kx vx [⟨target, iter, ifs, 0⟩] scope pos) 0 it acc env) R s := by
  refine codeAny_loop rfl I (fun n s hI => ?_) n h
  show wpAny _ A ((compTurn (.DictComp kx vx [⟨target, iter, ifs, 0⟩] scope pos) 0 it acc env).onRaise (fun x => do noteFrame x env; theTreesLotGoes x)) _ _ s
  refine wpAny_noted ?_
  show wpAny _ A (standAt iter.pos >>= _) _ _ s
  refine wpAny_bind (wpAny_standAt (wpAny_bind (wpAny_mono (turn n s hI) (fun r s₁ h₁ => ?_) fun _ _ h' => h')))
  cases r with
  | none => exact wpAny_pure h₁
  | some v =>
    refine wpAny_bind (wpAny_mono h₁ (fun _ s₁' h₁' => ?_) fun _ _ h' => h')
    refine wpAny_bind (wpAny_mono h₁' (fun _ s₂ h₂ => wpAny_bind (wpAny_mono h₂ (fun ok s₃ h₃ => ?_) fun _ _ h' => h')) fun _ _ h' => h')
    cases ok with
    | false => exact wpAny_pure ⟨rfl, h₃⟩
    | true => exact wpAny_bind (wpAny_mono h₃ (fun _ s₅ h₅ => wpAny_pure ⟨rfl, h₅⟩) fun _ _ h' => h')
theorem startDc {prog : Program} {w : World} {A : Around} {R : Result → Shared → Prop} {s : Shared} {kx vx target iter : Expr} {ifs : List Expr} {scope : Scope} {pos : Pos} {it acc : Value} {env : Env}
    (h0 : codeAny (model prog w) A (.compLoop (.DictComp kx vx [⟨target, iter, ifs, 0⟩] scope pos) 0 it acc env) R s)
    (h : wpAny (model prog w) A (pyIter it) (fun it' s' => codeAny (model prog w) A (.compLoop (.DictComp kx vx [⟨target, iter, ifs, 0⟩] scope pos) 0 it' acc env) R s') (notedBy (model prog w) A env fun x s' => R (.error x) s') s) :
    codeAny (model prog w) A (.compStart (.DictComp kx vx [⟨target, iter, ifs, 0⟩] scope pos) 0 it acc env) R s := by
  refine codeAny_of_tree ?_
  show wpAny _ _ ((compStart (.DictComp kx vx [⟨target, iter, ifs, 0⟩] scope pos) 0 it acc env).onRaise (fun x => do noteFrame x env; standAt theWindowsPlace)) _ _ s
  refine wpAny_notedAt ?_
  unfold compStart
  show wpAny _ _ (ask >>= _) _ _ s
  refine wpAny_bind (wpAny_askSetting (wpAny_ite ?_))
  split
  · first
      | exact wpAny_bind (wpAny_pure (wpAny_pure (And.intro rfl h0)))
      | exact wpAny_pure (And.intro rfl h0)
  · first
      | exact wpAny_bind (wpAny_rule (wpAny_bind (wpAny_standAt (wpAny_bind (wpAny_mono h (fun _ _ h' => wpAny_pure (And.intro rfl h')) fun _ _ h' => h')))))
      | (refine wpAny_bind (wpAny_rule ?_); show wpAny _ _ (standAt iter.pos >>= _) _ _ s; exact wpAny_bind (wpAny_standAt (wpAny_bind (wpAny_mono h (fun _ _ h' => wpAny_pure (And.intro rfl h')) fun _ _ h' => h'))))
theorem coreDc {pins : List (Addr × Obj)} {s : Shared} {σ : L2.St} {H : Hp} {Q : VK} {kx vx tg iter : Expr} {ifs : List Expr} {scope : Scope} {own : List (Str × Nat)} {pos pos' : Pos} {wi : TI} {g : TG} {tt : TT} {te : TEm} {o0 : Addr → HO} {newAcc : Sem Value} {use : Option (Value → Sem Unit)} {Qf : Value → Shared → Prop}
    (hc : X.calm = true) (hN : X.N.Nodup) (I : Inv X pins σ H s) (hi : PI X tg iter wi) (ok : BlkOk X.N X.env.scope scope own) (hnew : PNew X newAcc o0)
    (hg : ∀ (s : Shared) (H : Hp) (C : Addr) (cl : List (Str × Addr)) (fp : List Addr), PG (X.blk s H scope (compEnvC scope cl C X.env) fp) tg g) (ht : ∀ (s : Shared) (H : Hp) (C : Addr) (cl : List (Str × Addr)) (fp : List Addr), PTs (X.blk s H scope (compEnvC scope cl C X.env) fp) ifs tt)
    (he : ∀ (s : Shared) (H : Hp) (C : Addr) (cl : List (Str × Addr)) (fp : List Addr), PEm (X.blk s H scope (compEnvC scope cl C X.env) fp) (emDc kx vx) te) (hs : ∀ x, foldedSetIterable iter X.env x = pure x)
    (h : tCm wi g tt te o0 (own.map (·.2)) σ H Q)
    (hRR : ∀ D C s' m H', Inv X pins σ H' s' → Q (.ref D) H' → s'.heap.Ns C m → FpOk X pins H' C → compPost (model X.prog X.w) X.A X.xe use Qf (.ref D) C (.ok .next) s') :
    wpAny (model X.prog X.w) X.A (comprehension (.DictComp kx vx [⟨tg, iter, ifs, 0⟩] scope pos) scope X.env pos' newAcc false (eval iter X.env) use) Qf X.xe s := by
  have hfree : ∀ y ∈ scope.names, y.2 = .free → ∃ c, X.env.cells.lookup y.1 = some c := fun y hy e => by
    rcases ok.free y hy e with k | k
    · exact I.ok.has _ (.inl k)
    · exact I.ok.has _ (.inr k)
  refine wpAny_comprehension_free (use := use) rfl hs (closure_ok hfree) ok.kind (fun y hy e => by rw [ok.uniq y hy, e])
    (thn (hi pins s σ H _ I h) fun xv s1 hx => thn hx fun itv s2 h2 => ?_)
  obtain ⟨it, fp, tn, J, H2, e, I2, T, st2, f2, q⟩ := h2
  subst e
  refine hnew pins s2 σ H2 _ I2 fun oD I3 => newEnv_comp ?_
  generalize hD : s2.heap.objs.size = D at I3
  have hDn : H2 D = none := I2.hok.fresh (Nat.le_of_eq hD)
  obtain ⟨W, ⟨m0, w0⟩, turn⟩ := q D hDn
  generalize hs3 : ({ s2 with heap := s2.heap.push oD } : Shared) = s3 at I3 ⊢
  have h3 : s3.heap = s2.heap.push oD := by rw [← hs3]
  have sz : ∀ b ∈ fp, b < s2.heap.objs.size := fun b hb => by
    obtain ⟨o, e, _⟩ := T.obj _ _ st2 b hb
    exact Heap.lt_size e
  have f3 : ∀ b ∈ fp, FpOk X pins (upd H2 D (o0 D)) b ∧ b < s3.heap.objs.size := fun b hb => by
    have hlt := sz b hb
    refine ⟨⟨?_, (f2 b hb).2⟩, by rw [h3, Heap.size_push]; exact Nat.lt_succ_of_lt hlt⟩
    rw [upd_ne (by rw [← hD]; exact Nat.ne_of_lt hlt)]
    exact (f2 b hb).1
  have st3 : tn 0 s3.heap := T.keep _ _ _ st2 fun b _ o e => by rw [h3]; exact Heap.get?_push_of_some _ e
  have I4 := block_start I3 ok hN f3
  have pg := hg s3 (upd H2 D (o0 D)) s3.heap.objs.size (cellsFrom (s3.heap.objs.size + 1) scope.names (cloFrom X.env.cells scope.names [])) fp
  have pt := ht s3 (upd H2 D (o0 D)) s3.heap.objs.size (cellsFrom (s3.heap.objs.size + 1) scope.names (cloFrom X.env.cells scope.names [])) fp
  have pe := he s3 (upd H2 D (o0 D)) s3.heap.objs.size (cellsFrom (s3.heap.objs.size + 1) scope.names (cloFrom X.env.cells scope.names [])) fp
  show codeAny _ _ (.compStart (.DictComp kx vx [⟨tg, iter, ifs, 0⟩] scope pos) 0 (.ref it) (.ref D) (compEnvC scope (cellsFrom (s3.heap.objs.size + 1) scope.names (cloFrom X.env.cells scope.names [])) s3.heap.objs.size X.env)) (compPost (model X.prog X.w) X.A X.xe use Qf (.ref D) s3.heap.objs.size) { s3 with heap := pushCells (s3.heap.push { cls := .type "dict", data := .dict #[] }) scope.names }
  have nfp : ∀ b ∈ fp, (upd H2 D (o0 D)) b = none := fun b hb => (f3 b hb).1.1
  generalize hce : compEnvC scope (cellsFrom (s3.heap.objs.size + 1) scope.names (cloFrom X.env.cells scope.names [])) s3.heap.objs.size X.env = ce at I4 pg pt pe ⊢
  have cL : ce.locals = s3.heap.objs.size := by subst hce; rfl
  generalize hH3 : upd H2 D (o0 D) = H3 at I3 I4 pg pt pe w0 nfp f3
  generalize hs4 : ({ s3 with heap := pushCells (s3.heap.push { cls := .type "dict", data := .dict #[] }) scope.names } : Shared) = s4 at I4 ⊢
  have st4 : tn 0 s4.heap := T.keep _ _ _ st3 fun b _ o e => by rw [← hs4]; exact pushCells_keeps _ _ _ _ (Heap.get?_push_of_some _ e)
  have stat : ∀ {σ' : L2.St} {H' : Hp} {s' : Shared}, Inv (X.blk s3 H3 scope ce fp) [] σ' H' s' → (∀ b ∈ fp, H' b = none) → ∀ b ∈ fp, FpOk (X.blk s3 H3 scope ce fp) [] H' b := fun {σ' H' s'} I' hn b hb =>
    ⟨hn b hb, (I'.ok.exf b hb).1, I'.ok.exfs b hb, .inl hb, fun x c e => (I'.ok.exf b hb).2 x c e, fun p hp => absurd (show p ∈ ([] : List (Addr × Obj)) ++ [] from hp) (by simp)⟩
  have loop : codeAny (model X.prog X.w) X.A (.compLoop (.DictComp kx vx [⟨tg, iter, ifs, 0⟩] scope pos) 0 (.ref it) (.ref D) ce) (compPost (model X.prog X.w) X.A X.xe use Qf (.ref D) s3.heap.objs.size) s4 := by
    refine loopDc (fun n s' => ∃ i H', Inv (X.blk s3 H3 scope ce fp) [] (wipe σ (own.map (·.2))) H' s' ∧ tn i s'.heap ∧ (∀ b ∈ fp, H' b = none) ∧ W i n H') ?_ m0 ⟨0, H3, I4, st4, nfp, w0⟩
    rintro n s5 ⟨i, H5, I5, st5, n5, w5⟩
    rcases turn i n H5 w5 with ⟨stop, qq⟩ | ⟨go, Nx, hNx, step⟩
    · have td := T.done (X.blk s3 H3 scope ce fp) rfl rfl rfl hc i [] s5 _ H5 (fun _ _ => False) I5 (stat I5 n5) st5 stop
      refine thnF td fun r s6 ⟨hr, I6⟩ => ?_
      subst hr
      have I7 : Inv X pins σ H5 s6 := I3.call' (ch := fp) I6.os I6.base I6.hok I6.bare fun b hb => ⟨(f3 b hb).1.2.2.2.1, (f3 b hb).1.2.1, (f3 b hb).1.2.2.2.2.1, (f3 b hb).1.2.2.2.2.2⟩
      have nC : H5 s3.heap.objs.size = none := by
        have z : H5 ce.locals = none := I6.free
        rw [cL] at z
        exact z
      obtain ⟨m, hn, _⟩ := I6.loc
      have hn : s6.heap.Ns ce.locals m := hn
      rw [cL] at hn
      exact hRR D s3.heap.objs.size s6 m H5 I7 qq hn (I3.fpOk (Nat.le_refl _) nC)
    · have ti := T.item (X.blk s3 H3 scope ce fp) rfl rfl rfl hc i [] s5 _ H5 (fun _ _ => False) I5 (stat I5 n5) st5 go
      refine thnF ti fun r s6 ⟨u, hr, h6⟩ => ?_
      subst hr
      refine thnF h6 fun _ s7 ⟨x, H7, I7, r7, y7, st7, n7⟩ => ?_
      have I7' := I7.pinned (stat I7 n7) (T.obj _ _ st7)
      refine thnF (pg _ s7 _ H7 x u _ I7' r7 (step x H7 y7)) fun _ s8 ⟨σ8, H8, I8, hw8, q8⟩ => ?_
      refine thnF (pt _ s8 σ8 H8 _ I8 q8) fun b s9 ⟨H9, I9, q9⟩ => ?_
      have fin : ∀ {s' : Shared} {H' : Hp}, Inv (X.blk s3 H3 scope ce fp) ([] ++ pinsAt fp s7.heap) σ8 H' s' → Nx H' → ∃ m, m < n ∧ ∃ i H', Inv (X.blk s3 H3 scope ce fp) [] (wipe σ (own.map (·.2))) H' s' ∧ tn i s'.heap ∧ (∀ b ∈ fp, H' b = none) ∧ W i m H' := fun {s' H'} I' nx => by
        obtain ⟨m', hm, w'⟩ := hNx H' nx
        have pin' : ∀ b ∈ fp, ∀ o, s7.heap.get? b = some o → s'.heap.get? b = some o ∧ H' b = none := fun b hb o e =>
          let z := I'.pin (b, o) (List.mem_append_right _ (List.mem_append_right _ (mem_pinsAt hb e)))
          ⟨z.1, z.2.1⟩
        have hl : (wipe σ (own.map (·.2))).length = σ8.length := by rw [← hw8, wipe_length]
        refine ⟨m', hm, i + 1, H', (I'.unpinned (pins := [])).weak hl (fun j v e => ?_), T.keep _ _ _ st7 fun b hb o e => (pin' b hb o e).1, fun b hb => ?_, w'⟩
        · rw [← hw8] at e
          exact (wipe_some e).1
        · obtain ⟨o, e, _⟩ := T.obj _ _ st7 b hb
          exact (pin' b hb o e).2
      cases b with
      | false =>
        simp only [Bool.false_eq_true, if_false] at q9 ⊢
        exact fin I9 q9
      | true =>
        simp only [if_true] at q9 ⊢
        refine thnF (pe D _ s9 σ8 H9 _ I9 q9) fun _ s10 ⟨H10, I10, nx⟩ => fin I10 nx
  exact startDc loop (T.self X.A 0 _ _ _ st4 loop)
/-- as a value -/
theorem pe_Dc {kx vx tg iter : Expr} {ifs : List Expr} {scope : Scope} {own : List (Str × Nat)} {pos : Pos} {wi : TI} {g : TG} {tt : TT} {te : TEm} {o0 : Addr → HO} (hc : X.calm = true) (hN : X.N.Nodup) (hnew : PNew X newDict o0) (hi : PI X tg iter wi) (ok : BlkOk X.N X.env.scope scope own)
    (hg : ∀ (s : Shared) (H : Hp) (C : Addr) (cl : List (Str × Addr)) (fp : List Addr), PG (X.blk s H scope (compEnvC scope cl C X.env) fp) tg g) (ht : ∀ (s : Shared) (H : Hp) (C : Addr) (cl : List (Str × Addr)) (fp : List Addr), PTs (X.blk s H scope (compEnvC scope cl C X.env) fp) ifs tt)
    (he : ∀ (s : Shared) (H : Hp) (C : Addr) (cl : List (Str × Addr)) (fp : List Addr), PEm (X.blk s H scope (compEnvC scope cl C X.env) fp) (emDc kx vx) te) (hs : ∀ x, foldedSetIterable iter X.env x = pure x := by intro _; rfl) :
    PE X (.DictComp kx vx [⟨tg, iter, ifs, 0⟩] scope pos) (tCm wi g tt te o0 (own.map (·.2))) := by
  intro pins s σ H Q I h
  rw [arm_eval_DictComp]
  show wpAny _ _ (comprehension (.DictComp kx vx [⟨tg, iter, ifs, 0⟩] scope pos) scope X.env _ newDict false (eval iter X.env) none) _ _ s
  refine coreDc hc hN I hi ok hnew hg ht he hs h fun D C s' m H' I' q hn f => ⟨m, hn, fun h'' sb => ?_⟩
  obtain ⟨f0, f1, f2, f3, f4, f5⟩ := f
  exact ⟨.ref D, H', I'.turned (t' := s'.toks) (fun b o hb e => (sb.2 b hb).trans e) f0 f1 f3 f4 f5, rfl, q⟩
end
end MG

set_option Elab.async false
set_option linter.all false
set_option maxRecDepth 100000
namespace MG
open PySem PySem.Spec PyProof.Rows L2

section
variable {X : Cx}
theorem pn_dict : PNew X newDict (fun _ => .dK []) := by
  intro pins s σ H Q I h
  refine wpAny_newObj_type ?_ (by size_fits)
  exact h _ (I.laid (t' := s.toks) (fun _ _ q => Heap.get?_push_of_some _ q) (Nat.le_refl _) (dk_empty s.heap I.big))
/-- {k: v ..}: a pair more -/
def tEmD (tk tv : TE) : TEm := fun D σ H N => tk σ H fun y H1 => tv σ H1 fun v H2 => ∃ k kvs, y = kV k ∧ H2 D = some (.dK kvs) ∧ kvs.length < sizeLine ∧ N (upd H2 D (.dK (putK kvs k v)))
theorem em_dict {kx vx : Expr} {tk tv : TE} (hk : PE X kx tk) (hv : PE X vx tv) : PEm X (emDc kx vx) (tEmD tk tv) := by
  intro D pins s σ H N I h
  show wpAny _ _ (eval kx X.env >>= _) _ _ s
  refine wpAny_bind (thn (hk pins s σ H _ I h) fun ku s1 ⟨y, H1, I1, r1, q1⟩ => ?_)
  refine wpAny_bind (wpAny_holding (thn (hv pins s1 σ H1 _ I1 q1) fun vu s2 ⟨v, H2, I2, r2, k, kvs, ey, hD, hz, n2⟩ => ?_))
  subst ey
  refine wpAny_bind (wpAny_standAt (wpAny_holding ?_))
  obtain ⟨z, hd, vs, rel, dd⟩ := dk_of I2.hok hD
  refine wpAny_dictSet_pairs (knd := mixKind X.prog X.w) (k := k) (kV_is r1) dd (fun h' dd' hs => ⟨_, ?_, n2⟩) (by rw [← rel.length]; exact z)
  have he : ∃ q, h'.get? D = some q := let ⟨q, _, _, hq, _⟩ := dd'; ⟨q, hq⟩
  have hl : (putK kvs k v).length ≤ sizeLine := by have := length_putK kvs k v; omega
  exact d_write I2 (by rw [hD]; exact True.intro) hs he (dk_new hl hd (rel.put k r2) dd')
end
end MG

set_option Elab.async false
set_option linter.all false
set_option maxRecDepth 100000
namespace MG
open PySem PySem.Spec PyProof.Rows L2

/-! ### enumerate(tuple) -/
section
variable {prog : Program} {w : World} {A : Around} {E : Value → Shared → Prop} {s : Shared}
end
/-! ### [*xs, ..], large products, name = {k: v ..} -/
section
variable {X : Cx}
/-- isinstance(x, C), C a built-in class -/
theorem call_isi : CallR X (.builtin "isinstance") (fun vs H Q => ∃ x t c b, vs = [x, .ty c] ∧ TyOf X.K H x (.type t) ∧ PySem.W.kitOne X.K (.type t) (.type c) = some b ∧ Q (.bl b) H) := by
  intro pins s σ H vs us Q I r h
  obtain ⟨x, t, c, b, rfl, ty, e, q⟩ := h
  cases r with
  | cons r1 rr =>
    cases rr with
    | cons r2 rr2 =>
      cases rr2
      cases r2
      exact isinst_ok I r1 ty e fun tk => ⟨.bl b, H, I.tok tk, rfl, q⟩
end
end MG

set_option Elab.async false
set_option linter.all false
set_option maxRecDepth 100000
namespace MG
open PySem PySem.Spec PyProof.Rows L2

/-! ### a def of the text, by its name -/
structure Cal (P : Program) (w : World) (K : PySem.W.Frag) (mg : Str → Option Value) (base : Heap) (x : Str) (k : Nat) (ps : List Str) (sp : Sp) : Prop where
  ex : ∃ f fd, mg x = some (.ref f) ∧ FnOk P w K mg base CX0 k f fd ps sp ∧ PySem.W.keepIn K (.ref f) = true ∧ Binds K fd ps []
section
variable {X : Cx} {x : Str} {k : Nat} {ps : List Str} {sp : Sp} {p pos : Pos} {e : Expr} {es : List Expr} {t : TA}
theorem pe_cal (C : Cal X.prog X.w X.K X.mg X.base x k ps sp) (hr : Room k X.A) (hg : Gl X x) (ha : PA X (e :: es) t) (hdb : (x == ("__debug__" : Str)) = false := by decide)
    (he : starEach (e :: es) X.env = (false, eval e X.env) :: starEach es X.env := by rfl) (hpl : (backTo pos (starEach es X.env)).any (·.1) = false := by rfl) : PE X (.Call (.Name x p) (e :: es) [] pos) (tCall sp [] E0 t) := by
  obtain ⟨f, fd, h1, h2, h3, h4⟩ := C.ex
  exact pe_call h2 hr hg h1 h3 h4 .nil pass0 ha hdb he hpl
end
/-- a def whose code's address and table are known: it lays generators -/
structure FunG (K : PySem.W.Frag) (x qual : Str) (st : Stmt) (f : Addr) (fd : FuncData) (c P : Addr) : Prop where
  ex : ∃ (oc : Value) (od : Option Addr) (kV doc pm : Value) (an : Option Addr) (ct : Value) (osl : Array (Option Value)),
    fd = PySem.W.fnOf x qual (defArgs st) (defBody st) (defScope st) .none kV doc pm an (.ref c) ct ∧ K.lookup f = some ⟨oc, od, .func fd, osl⟩ ∧ PySem.W.codeIn K (.ref c) qual = true
  hd : PySem.W.codeHdIn K c P = true
section
variable {P : Program} {w : World} {K : PySem.W.Frag} {mg : Str → Option Value} {base : Heap}
theorem FunG.ok {x qual : Str} {st : Stmt} {f c Pt : Addr} {fd : FuncData} {N ps : List Str} {k : Nat} {sp : Sp} (F : FunG K x qual st f fd c Pt) (S : FnScope N ps (defScope st)) (len : ∀ vs H Q E, sp vs H Q E → vs.length = ps.length)
    (hbody : ∀ (A : Around) (outer : List Env) (s : Shared) (H : Hp) (vs : List V) (Q : VK) (E : XK), Room k (A.deeper (envOfC qual (defScope st) s.heap.objs.size f (.ref c))) → sp vs H Q E →
      ∃ t, PSs (cxOf CX0 P w K mg base N qual (defScope st) f (.ref c) A outer s H E).nox (defBody st) t ∧ t { nx := fun _ H' => Q .non H', rt := Q } (start N vs) H) : FnOk P w K mg base CX0 (k + 1) f fd ps sp := by
  obtain ⟨oc, od, kV, doc, pm, an, ct, osl, rfl, lk, hcd⟩ := F.ex
  refine fn_of lk hcd S len fun A outer s H vs Q E hr hsp => ?_
  obtain ⟨t, h, q⟩ := hbody A outer s H vs Q E hr hsp
  exact ⟨t, h.nox, q⟩
end

/-! ### the heap: texts' lists and tuples -/
theorem supd {H H' : Hp} {a : Addr} {o : HO} (s : Same H H') (h : H' a = none) : Same H (upd H' a o) := fun b u e => by
  rw [upd_ne (ne_of_none (s b u e) h)]; exact s b u e
theorem same_upd {H : Hp} {a : Addr} {o : HO} (h : H a = none) : Same H (upd H a o) := supd (Same.refl H) h

/-! ### steps, bodies, books, changes, as plain data -/
inductive Stp where
  | say | hear | fin
  | plus (n : Int) | times (n : Int) | turn (n : Int)
  | ask (w : Str) | odd (w : Str)
  deriving DecidableEq
abbrev Body := List Stp
def Stp.vals : Stp → List V
  | .say => [.str "say"] | .hear => [.str "hear"] | .fin => [.str "end"]
  | .plus n => [.str "plus", .int n] | .times n => [.str "times", .int n] | .turn n => [.str "turn", .int n]
  | .ask w => [.str "ask", .str w] | .odd w => [.str "odd", .str w]
/-- a sign a to z -/
def isLow (c : Nat) : Bool := decide (97 ≤ c) && decide (c ≤ 122)
def WordOk (x : Str) : Prop := 1 ≤ x.length ∧ x.length ≤ 8 ∧ x.cps.toList.all isLow = true
def Stp.ok : Stp → Prop
  | .say => True | .hear => True | .fin => True
  | .plus n => -99 ≤ n ∧ n ≤ 99 | .times n => -99 ≤ n ∧ n ≤ 99 | .turn n => -99 ≤ n ∧ n ≤ 99
  | .ask w => WordOk w | .odd w => WordOk w
def BodyOk (b : Body) : Prop := b.length ≤ 9 ∧ ∀ s ∈ b, s.ok

def StepAt (H : Hp) (v : V) (s : Stp) : Prop := ∃ t, v = .ref t ∧ H t = some (.tup s.vals)
def BodyAt (H : Hp) (b : Addr) (ss : Body) : Prop := ∃ vs, H b = some (.lst vs) ∧ Paired (StepAt H) vs ss
/-- an entry of a book: its word, its body's address, its body -/
abbrev Ent := Str × Addr × Body
def EntAt (H : Hp) (v : V) (e : Ent) : Prop := ∃ t, v = .ref t ∧ H t = some (.tup [.str e.1, .ref e.2.1]) ∧ BodyAt H e.2.1 e.2.2
def BookAt (H : Hp) (L : Addr) (es : List Ent) : Prop := ∃ vs, H L = some (.lst vs) ∧ Paired (EntAt H) vs es
/-- an entry of changes -/
abbrev Cha := Str × Option (Addr × Body)
def chaV : Option (Addr × Body) → V
  | none => .non
  | some b => .ref b.1
def ChaAt (H : Hp) (v : V) (e : Cha) : Prop := ∃ t, v = .ref t ∧ H t = some (.tup [.str e.1, chaV e.2]) ∧ ∀ b ss, e.2 = some (b, ss) → BodyAt H b ss
def ChgAt (H : Hp) (L : Addr) (es : List Cha) : Prop := ∃ vs, H L = some (.lst vs) ∧ Paired (ChaAt H) vs es
section
variable {H H' : Hp}
theorem StepAt.same {v : V} {s : Stp} (h : StepAt H v s) (k : Same H H') : StepAt H' v s := let ⟨t, e, z⟩ := h; ⟨t, e, k _ _ z⟩
theorem BodyAt.same {b : Addr} {ss : Body} (h : BodyAt H b ss) (k : Same H H') : BodyAt H' b ss := let ⟨vs, e, z⟩ := h; ⟨vs, k _ _ e, L2.Paired.mapP z fun _ _ q => q.same k⟩
theorem EntAt.same {v : V} {e : Ent} (h : EntAt H v e) (k : Same H H') : EntAt H' v e := let ⟨t, q, z, r⟩ := h; ⟨t, q, k _ _ z, r.same k⟩
theorem BookAt.same {L : Addr} {es : List Ent} (h : BookAt H L es) (k : Same H H') : BookAt H' L es := let ⟨vs, e, z⟩ := h; ⟨vs, k _ _ e, L2.Paired.mapP z fun _ _ q => q.same k⟩
theorem ChaAt.same {v : V} {e : Cha} (h : ChaAt H v e) (k : Same H H') : ChaAt H' v e := let ⟨t, q, z, r⟩ := h; ⟨t, q, k _ _ z, fun b ss x => (r b ss x).same k⟩
theorem ChgAt.same {L : Addr} {es : List Cha} (h : ChgAt H L es) (k : Same H H') : ChgAt H' L es := let ⟨vs, e, z⟩ := h; ⟨vs, k _ _ e, L2.Paired.mapP z fun _ _ q => q.same k⟩
theorem paired_at {α β : Type} {F : α → β → Prop} : ∀ {l : List α} {m : List β} {i : Nat} {x : α}, Paired F l m → l[i]? = some x → ∃ y, m[i]? = some y ∧ F x y
  | _, _, i, x, .nil, h => by simp at h
  | _, _, 0, x, .cons r t, h => by
    have h : _ = x := Option.some.inj h
    subst h
    exact ⟨_, rfl, r⟩
  | _, _, i + 1, x, .cons r t, h => by
    obtain ⟨y, h1, h2⟩ := paired_at (i := i) t (by simpa using h)
    exact ⟨y, by simpa using h1, h2⟩
end
/-- all(..): n turns, each of which gives True -/
theorem all_by {J : It} {g : TG} {te : TE} {N : List Str} {Q : VK} {H1 : Hp} (Pv : Nat → Hp → Prop) (n : Nat) (h0 : Pv 0 H1)
    (hs : ∀ i H, i < n → Pv i H → J.go i H ∧ ∀ x H', J.yld i H x H' → g x (noSt N) H' fun σ2 H2 => te σ2 H2 fun y H3 => ∃ b, y = .bl b ∧ if b = true then Pv (i + 1) H3 else Q (.bl false) H3) (hd : ∀ H, Pv n H → J.stop n H ∧ Q (.bl true) H) :
    ∃ W : Nat → Nat → Hp → Prop, (∃ m, W 0 m H1) ∧ ∀ i m H, W i m H → (J.stop i H ∧ Q (.bl true) H) ∨ (J.go i H ∧ ∃ Nx : Hp → Prop, (∀ H', Nx H' → ∃ m', m' < m ∧ W (i + 1) m' H') ∧
      ∀ x H', J.yld i H x H' → g x (noSt N) H' fun σ2 H2 => te σ2 H2 fun y H3 => ∃ b, y = .bl b ∧ if b = true then Nx H3 else Q (.bl false) H3) := by
  refine ⟨fun i m H => i + m = n ∧ Pv i H, ⟨n, by omega, h0⟩, ?_⟩
  rintro i m H ⟨e, p⟩
  rcases Nat.lt_or_ge i n with z | z
  · obtain ⟨h1, h2⟩ := hs i H z p
    exact .inr ⟨h1, Pv (i + 1), fun H' p' => ⟨m - 1, by omega, by omega, p'⟩, h2⟩
  · have ei : i = n := by omega
    subst ei
    exact .inl (hd H p)
/-- the builtins that the text uses under their own names -/
def blts : List Str := ["isinstance", "int", "bool", "str", "tuple", "list", "len", "all", "sorted", "set", "range", "enumerate", "zip"]
end MG

set_option Elab.async false
set_option linter.all false
set_option maxRecDepth 100000
namespace MG
open PySem PySem.Spec PyProof.Rows L2
/-- a before or with b -/
def leS (a b : Str) : Prop := ltCps b.cps.toList a.cps.toList = false
theorem leS_trans {a b c : Str} (h1 : leS a b) (h2 : leS b c) : leS a c := by
  unfold leS at *
  rw [ltCps_eq] at *
  cases h : decide (c.cps.toList < a.cps.toList) with
  | false => rfl
  | true =>
    rcases PyProof.Rows.strKind.negTrans c.cps.toList b.cps.toList a.cps.toList h with k | k
    · exact absurd (h2.symm.trans k) (by decide)
    · exact absurd (h1.symm.trans k) (by decide)
theorem leS_anti {a b : Str} (h1 : leS a b) (h2 : leS b a) : a = b := by
  unfold leS at *
  rw [ltCps_eq] at *
  have e : a.cps.toList = b.cps.toList := PyProof.Rows.strKind.total _ _ h2 h1
  have e2 : a.cps = b.cps := Array.toList_inj.mp e
  cases a; cases b
  simp only at e2
  rw [e2]
theorem rising_pw : ∀ {r : List Str} {x : Str}, risingS x r = true → (x :: r).Pairwise leS
  | [], x, _ => by simp
  | y :: r, x, h => by
    have h' : (!ltCps y.cps.toList x.cps.toList && risingS y r) = true := h
    rw [Bool.and_eq_true] at h'
    have h1 : leS x y := by
      have := h'.1
      unfold leS
      simpa using this
    have h2 := rising_pw h'.2
    refine List.pairwise_cons.mpr ⟨fun z hz => ?_, h2⟩
    rcases List.mem_cons.mp hz with e | hz
    · rw [e]; exact h1
    · exact leS_trans h1 ((List.pairwise_cons.mp h2).1 z hz)
theorem sorted_pw : ∀ {l : List Str}, sortedS l = true → l.Pairwise leS
  | [], _ => .nil
  | x :: r, h => rising_pw h
theorem sorted_eq {xs ys : List Str} (p : xs.Perm ys) (h1 : sortedS xs = true) (h2 : sortedS ys = true) : xs = ys :=
  List.Perm.eq_of_pairwise (fun _ _ _ _ a b => leS_anti a b) (sorted_pw h1) (sorted_pw h2) p
/-! ### members once -/
theorem mem_addS {xs : List Str} {y z : Str} : z ∈ addS xs y ↔ z ∈ xs ∨ z = y := by
  unfold addS
  split
  · rename_i h
    exact ⟨.inl, fun k => k.elim id fun e => e ▸ h⟩
  · rw [List.mem_append, List.mem_singleton]
theorem nd_addS {xs : List Str} {y : Str} (h : xs.Nodup) : (addS xs y).Nodup := by
  unfold addS
  split
  · exact h
  · rename_i k; exact nd_snoc h k
theorem mem_fold {z : Str} : ∀ {ys xs : List Str}, z ∈ ys.foldl addS xs ↔ z ∈ xs ∨ z ∈ ys
  | [], xs => by simp
  | y :: r, xs => by
    show z ∈ r.foldl addS (addS xs y) ↔ _
    rw [mem_fold, mem_addS, List.mem_cons, or_assoc]
theorem nd_fold : ∀ {ys xs : List Str}, xs.Nodup → (ys.foldl addS xs).Nodup
  | [], _, h => h
  | y :: r, xs, h => nd_fold (ys := r) (nd_addS h)
theorem mem_dedup {z : Str} {ys : List Str} : z ∈ dedupS ys ↔ z ∈ ys := by unfold dedupS; rw [mem_fold]; simp
theorem nd_dedup (ys : List Str) : (dedupS ys).Nodup := nd_fold List.nodup_nil
theorem perm_of_mem {xs ys : List Str} (h1 : xs.Nodup) (h2 : ys.Nodup) (h : ∀ z, z ∈ xs ↔ z ∈ ys) : xs.Perm ys := (List.perm_ext_iff_of_nodup h1 h2).mpr h
theorem dedup_nodup {ys : List Str} (h : ys.Nodup) : (dedupS ys).Perm ys := perm_of_mem (nd_dedup ys) h fun _ => mem_dedup
/-! ### data that a comparison reads -/
theorem dp_strs {K : PySem.W.Frag} {H : Hp} : ∀ (xs : List Str), DpAll K H (xs.map V.str) (xs.map PyData.str)
  | [] => .nil
  | x :: r => .cons (.str x) (dp_strs r)
end MG

set_option Elab.async false
set_option linter.all false
set_option maxRecDepth 100000
namespace MG
open PySem PySem.Spec PyProof.Rows L2
/-! ### data: of what depth, and plain -/
def Flat (d : PyData) (n : Nat) : Prop := d.canLay0 = true ∧ d.depth ≤ n
theorem Flat.mono {d : PyData} {n m : Nat} (h : Flat d n) (k : n ≤ m) : Flat d m := ⟨h.1, Nat.le_trans h.2 k⟩
theorem Flat.shaped {d : PyData} {n : Nat} (h : Flat d n) (k : n ≤ 64 := by decide) : SeqAt.shaped d = true := by
  unfold SeqAt.shaped
  rw [Bool.and_eq_true, decide_eq_true_eq]
  exact ⟨h.1, Nat.le_trans h.2 k⟩
theorem Flat.refl {d : PyData} {n : Nat} (h : Flat d n) : d.eqv d = true := SeqAt.eqv_refl d h.1
theorem flat_int (i : Int) : Flat (.int i) 1 := ⟨by simp [PyData.canLay0], by unfold PyData.depth; omega⟩
theorem flat_bool (i : Bool) : Flat (.bool i) 1 := ⟨by simp [PyData.canLay0], by unfold PyData.depth; omega⟩
theorem flat_str {x : Str} (h : PyData.strOk x = true) : Flat (.str x) 1 := ⟨by simp [PyData.canLay0, h], by unfold PyData.depth; omega⟩
theorem flat_all : ∀ {ds : List PyData} {n : Nat}, (∀ d ∈ ds, Flat d n) → PyData.canLayAll0 ds = true ∧ PyData.depthAll ds ≤ n
  | [], _, _ => ⟨by simp [PyData.canLayAll0], Nat.zero_le _⟩
  | d :: r, n, h => by
    obtain ⟨h1, h2⟩ := flat_all (ds := r) fun x hx => h x (List.mem_cons_of_mem _ hx)
    obtain ⟨h3, h4⟩ := h d (List.mem_cons_self ..)
    refine ⟨by simp [PyData.canLayAll0, h1, h3], ?_⟩
    show max (PyData.depth d) (PyData.depthAll r) ≤ n
    omega
theorem flat_list {ds : List PyData} {n : Nat} (h : ∀ d ∈ ds, Flat d n) : Flat (.list ds) (n + 1) := by
  obtain ⟨h1, h2⟩ := flat_all h
  exact ⟨by simp [PyData.canLay0, h1], by unfold PyData.depth; omega⟩
theorem flat_tuple {ds : List PyData} {n : Nat} (h : ∀ d ∈ ds, Flat d n) : Flat (.tuple ds) (n + 1) := by
  obtain ⟨h1, h2⟩ := flat_all h
  exact ⟨by simp [PyData.canLay0, h1], by unfold PyData.depth; omega⟩
theorem flat_two {a b : PyData} {n : Nat} (h : Flat a n) (k : Flat b n) : ∀ d ∈ [a, b], Flat d n := by
  intro d hd
  rcases List.mem_cons.mp hd with e | hd
  · rw [e]; exact h
  · rw [List.mem_singleton.mp hd]; exact k
theorem flat_one {a : PyData} {n : Nat} (h : Flat a n) : ∀ d ∈ [a], Flat d n := by
  intro d hd; rw [List.mem_singleton.mp hd]; exact h
theorem word_ok {x : Str} (h : WordOk x) : PyData.strOk x = true := by
  have h := h.2.2
  unfold PyData.strOk
  rw [← Array.all_toList]
  refine List.all_eq_true.mpr fun c hc => ?_
  have := List.all_eq_true.mp h c hc
  simp only [isLow, Bool.and_eq_true, decide_eq_true_eq] at this
  exact decide_eq_true (by omega)
/-! ### of steps, bodies, books, changes -/
def Stp.dat : Stp → PyData
  | .say => .tuple [.str "say"] | .hear => .tuple [.str "hear"] | .fin => .tuple [.str "end"]
  | .plus n => .tuple [.str "plus", .int n] | .times n => .tuple [.str "times", .int n] | .turn n => .tuple [.str "turn", .int n]
  | .ask w => .tuple [.str "ask", .str w] | .odd w => .tuple [.str "odd", .str w]
def bodyD (b : Body) : PyData := .list (b.map Stp.dat)
def entD (e : Ent) : PyData := .tuple [.str e.1, bodyD e.2.2]
def bookD (es : List Ent) : PyData := .list (es.map entD)
def optD : Option (Addr × Body) → PyData
  | none => .none
  | some b => bodyD b.2
def chaD (e : Cha) : PyData := .tuple [.str e.1, optD e.2]
def chgD (es : List Cha) : PyData := .list (es.map chaD)
theorem Stp.flat {s : Stp} (h : s.ok) : Flat s.dat 2 := by
  cases s with
  | say => exact flat_tuple (flat_one (flat_str (by decide +kernel)))
  | hear => exact flat_tuple (flat_one (flat_str (by decide +kernel)))
  | fin => exact flat_tuple (flat_one (flat_str (by decide +kernel)))
  | plus n => exact flat_tuple (flat_two (flat_str (by decide +kernel)) (flat_int _))
  | times n => exact flat_tuple (flat_two (flat_str (by decide +kernel)) (flat_int _))
  | turn n => exact flat_tuple (flat_two (flat_str (by decide +kernel)) (flat_int _))
  | ask x => exact flat_tuple (flat_two (flat_str (by decide +kernel)) (flat_str (word_ok h)))
  | odd x => exact flat_tuple (flat_two (flat_str (by decide +kernel)) (flat_str (word_ok h)))
def EntOk (e : Ent) : Prop := WordOk e.1 ∧ BodyOk e.2.2
def ChaOk (e : Cha) : Prop := WordOk e.1 ∧ ∀ b ss, e.2 = some (b, ss) → BodyOk ss
section
variable {K : PySem.W.Frag} {H : Hp}
theorem dp_all {α : Type} {F : V → α → Prop} {f : α → PyData} (hf : ∀ v x, F v x → Dp K H v (f x)) : ∀ {vs : List V} {xs : List α}, Paired F vs xs → DpAll K H vs (xs.map f)
  | _, _, .nil => .nil
  | _, _, .cons r t => .cons (hf _ _ r) (dp_all hf t)
theorem dp_two {v u : V} {a b : PyData} (h : Dp K H v a) (k : Dp K H u b) : DpAll K H [v, u] [a, b] := .cons h (.cons k .nil)
theorem StepAt.dp {v : V} {s : Stp} (h : StepAt H v s) : Dp K H v s.dat := by
  obtain ⟨t, rfl, ht⟩ := h
  cases s with
  | say => exact .tup (SqT.of ht) (.cons (.str _) .nil)
  | hear => exact .tup (SqT.of ht) (.cons (.str _) .nil)
  | fin => exact .tup (SqT.of ht) (.cons (.str _) .nil)
  | plus n => exact .tup (SqT.of ht) (dp_two (.str _) (.int _))
  | times n => exact .tup (SqT.of ht) (dp_two (.str _) (.int _))
  | turn n => exact .tup (SqT.of ht) (dp_two (.str _) (.int _))
  | ask x => exact .tup (SqT.of ht) (dp_two (.str _) (.str _))
  | odd x => exact .tup (SqT.of ht) (dp_two (.str _) (.str _))
theorem BodyAt.dp {b : Addr} {ss : Body} (h : BodyAt H b ss) : Dp K H (.ref b) (bodyD ss) := let ⟨_, e, z⟩ := h; .lst (SqL.of e) (dp_all (fun _ _ q => StepAt.dp q) z)
theorem EntAt.dp {v : V} {e : Ent} (h : EntAt H v e) : Dp K H v (entD e) := by
  obtain ⟨t, rfl, ht, hb⟩ := h
  exact .tup (SqT.of ht) (dp_two (.str _) hb.dp)
theorem BookAt.dp {L : Addr} {es : List Ent} (h : BookAt H L es) : Dp K H (.ref L) (bookD es) := let ⟨_, e, z⟩ := h; .lst (SqL.of e) (dp_all (fun _ _ q => EntAt.dp q) z)
theorem cha_opt {o : Option (Addr × Body)} (h : ∀ b ss, o = some (b, ss) → BodyAt H b ss) : Dp K H (chaV o) (optD o) := by
  cases o with
  | none => exact .non
  | some b => exact (h b.1 b.2 rfl).dp
theorem ChaAt.dp {v : V} {e : Cha} (h : ChaAt H v e) : Dp K H v (chaD e) := by
  obtain ⟨t, rfl, ht, hb⟩ := h
  exact .tup (SqT.of ht) (dp_two (.str _) (cha_opt hb))
theorem ChgAt.dp {L : Addr} {es : List Cha} (h : ChgAt H L es) : Dp K H (.ref L) (chgD es) := let ⟨_, e, z⟩ := h; .lst (SqL.of e) (dp_all (fun _ _ q => ChaAt.dp q) z)
end
/-! ### books and changes that are none but good -/
structure BookOk (es : List Ent) : Prop where
  each : ∀ e ∈ es, EntOk e
  up : sortedS (es.map (·.1)) = true
  once : (es.map (·.1)).Nodup
  few : es.length ≤ 20
structure ChgOk (es : List Cha) : Prop where
  each : ∀ e ∈ es, ChaOk e
  once : (es.map (·.1)).Nodup
  few : es.length ≤ 20
/-- the tables that generator expressions write their code to -/
structure TB where
  (w b k c : Addr)
def TB.on (T : TB) (H : Hp) : Prop := H T.w = some (tabH T.w) ∧ H T.b = some (tabH T.b) ∧ H T.k = some (tabH T.k) ∧ H T.c = some (tabH T.c)
theorem TB.on.same {T : TB} {H H' : Hp} (h : T.on H) (k : Same H H') : T.on H' := ⟨k _ _ h.1, k _ _ h.2.1, k _ _ h.2.2.1, k _ _ h.2.2.2⟩
/-! ### rules within a block: K by name -/
theorem pg_tupK {X : Cx} {K : PySem.W.Frag} (hK : X.K = K) {es : List Expr} {k n : Nat} {t : TGs} {pos : Pos} (hc : X.calm = true) (h : PGs X es t)
    (hn : (assignEach es X.env).length = n := by rfl) (hst : (assignEach es X.env).findIdx? (·.1) = none := by rfl) : PG X (.Tuple es k pos) (gTup K n t) := hK ▸ pg_tup hc h hn hst
theorem call_list_ofK {X : Cx} {K : PySem.W.Frag} (hK : X.K = K) : CallR X (.type "list") (fun xs H Q => ∃ p ys, xs = [.ref p] ∧ (SqL K H p ys ∨ SqT K H p ys) ∧ ∀ l, H l = none → Q (.ref l) (upd H l (.lst ys))) := hK ▸ call_list_of
/-! ### comprehensions over a list whose turns leave the heap as it is -/
theorem lc_pick {K : PySem.W.Frag} {a : Addr} {xs : List V} {g : TG} {tt : TT} {te : TE} {vs : List Nat} {σ : L2.St} {H1 : Hp} {D : Addr} {Qd : Hp → Prop} (f : V → List V) (hD : H1 D = none) (ha : SqL K H1 a xs) (hn : (xs.flatMap f).length < sizeLine)
    (hs : ∀ x acc (Nx : Hp → Prop), x ∈ xs → acc.length < sizeLine → Nx (upd H1 D (.lst (acc ++ f x))) → g x (wipe σ vs) (upd H1 D (.lst acc)) fun σ2 H2 => wipe σ2 vs = wipe σ vs ∧ tt σ2 H2 fun b H3 =>
      if b = true then te σ2 H3 fun y H4 => ∃ acc, H4 D = some (.lst acc) ∧ acc.length < sizeLine ∧ Nx (upd H4 D (.lst (acc ++ [y]))) else Nx H3)
    (hd : Qd (upd H1 D (.lst (xs.flatMap f)))) :
    ∃ W : Nat → Nat → Hp → Prop, (∃ m, W 0 m (upd H1 D (.lst []))) ∧ ∀ i m H, W i m H →
      ((Itl K a).stop i H ∧ Qd H) ∨ ((Itl K a).go i H ∧ ∃ Nx : Hp → Prop, (∀ H', Nx H' → ∃ m', m' < m ∧ W (i + 1) m' H') ∧ ∀ x H', (Itl K a).yld i H x H' → g x (wipe σ vs) H' fun σ2 H2 => wipe σ2 vs = wipe σ vs ∧ tt σ2 H2 fun b H3 =>
        if b = true then te σ2 H3 fun y H4 => ∃ acc, H4 D = some (.lst acc) ∧ acc.length < sizeLine ∧ Nx (upd H4 D (.lst (acc ++ [y]))) else Nx H3) := by
  have hS : ∀ o, Same H1 (upd H1 D o) := fun o => same_upd hD
  refine lc_list (xs := xs) (fun i H => H = upd H1 D (.lst ((xs.take i).flatMap f))) (by simp) (fun i H _ e => by rw [e]; exact (hS _).seq ha) (fun i x H hx e => ?_) (fun H e => ?_)
  · subst e
    have ht : xs.take (i + 1) = xs.take i ++ [x] := by rw [List.take_succ, hx]; rfl
    refine hs x _ _ (List.mem_of_getElem? hx) ?_ ?_
    · refine Nat.lt_of_le_of_lt ?_ hn
      have : xs.flatMap f = (xs.take i).flatMap f ++ (xs.drop i).flatMap f := by rw [← List.flatMap_append, List.take_append_drop]
      rw [this, List.length_append]; omega
    · rw [ht, List.flatMap_append]; simp
  · rw [e, List.take_length]; exact hd
theorem allG_by {K : PySem.W.Frag} {Pt L : Addr} {j : Nat} {N : List Str} {us : List V} {g : TG} {te : TE} {σ : L2.St} {H : Hp} {Q : VK} (Pv : Nat → Hp → Prop) (h1 : σ[j]? = some (some (.ref L))) (hl : SqL K H L us) (hP : H Pt = some (tabH Pt)) (h0 : Pv 0 H)
    (hs : ∀ i y H, us[i]? = some y → Pv i H → SqL K H L us ∧ g y (noSt N) H fun σ2 H2 => te σ2 H2 fun y H3 => ∃ b, y = .bl b ∧ if b = true then Pv (i + 1) H3 else Q (.bl false) H3) (hd : ∀ H, Pv us.length H → SqL K H L us ∧ Q (.bl true) H) :
    tAllG Pt (iList K (tVar j)) g te N σ H Q := by
  refine ⟨_, h1, L, rfl, ⟨_, hl⟩, hP, all_by (J := Itl K L) Pv us.length h0 (fun i H1 hi p => ?_) (fun H1 p => ?_)⟩
  · obtain ⟨q, z⟩ := hs i us[i] H1 (List.getElem?_eq_getElem hi) p
    refine ⟨⟨_, _, q, List.getElem?_eq_getElem hi⟩, ?_⟩
    rintro y H2 ⟨rfl, hy⟩
    have hy := hy _ q
    rw [List.getElem?_eq_getElem hi] at hy
    have e : us[i] = y := Option.some.inj hy
    subst e
    exact z
  · obtain ⟨q, z⟩ := hd H1 p
    exact ⟨⟨_, q, Nat.le_refl _⟩, z⟩
theorem tLc_pick {K : PySem.W.Frag} {ti : TE} {g : TG} {tt : TT} {te : TE} {vs : List Nat} {σ : L2.St} {H : Hp} {Q : VK} (a : Addr) (xs : List V) (H1 : Hp) (f : V → List V) (hi : ti σ H fun v H' => v = .ref a ∧ H' = H1) (ha : SqL K H1 a xs) (hn : (xs.flatMap f).length < sizeLine)
    (hmono : ∀ {Q Q' : VK}, ti σ H Q → (∀ v H', Q v H' → Q' v H') → ti σ H Q')
    (hs : ∀ D x acc (Nx : Hp → Prop), H1 D = none → x ∈ xs → acc.length < sizeLine → Nx (upd H1 D (.lst (acc ++ f x))) → g x (wipe σ vs) (upd H1 D (.lst acc)) fun σ2 H2 => wipe σ2 vs = wipe σ vs ∧ tt σ2 H2 fun b H3 =>
      if b = true then te σ2 H3 fun y H4 => ∃ acc, H4 D = some (.lst acc) ∧ acc.length < sizeLine ∧ Nx (upd H4 D (.lst (acc ++ [y]))) else Nx H3)
    (hd : ∀ D, H1 D = none → Q (.ref D) (upd H1 D (.lst (xs.flatMap f)))) : tLc (iList K ti) g tt te vs σ H Q := by
  refine hmono hi ?_
  rintro v H' ⟨rfl, rfl⟩
  refine ⟨a, rfl, ⟨_, ha⟩, fun D hD => ?_⟩
  exact lc_pick f hD ha hn (fun x acc Nx hx h1 h2 => hs D x acc Nx hD hx h1 h2) (hd D hD)
theorem tVar_mono {i : Nat} {σ : L2.St} {H : Hp} : ∀ {Q Q' : VK}, tVar i σ H Q → (∀ v H', Q v H' → Q' v H') → tVar i σ H Q' := fun ⟨v, e, q⟩ k => ⟨v, e, k _ _ q⟩
/-- as tLc_pick, over a name -/
theorem tLc_pickV {K : PySem.W.Frag} {j : Nat} {g : TG} {tt : TT} {te : TE} {vs : List Nat} {σ : L2.St} {H : Hp} {Q : VK} (a : Addr) (xs : List V) (f : V → List V) (hi : σ[j]? = some (some (.ref a))) (ha : SqL K H a xs) (hn : (xs.flatMap f).length < sizeLine)
    (hs : ∀ D x acc (Nx : Hp → Prop), H D = none → x ∈ xs → acc.length < sizeLine → Nx (upd H D (.lst (acc ++ f x))) → g x (wipe σ vs) (upd H D (.lst acc)) fun σ2 H2 => wipe σ2 vs = wipe σ vs ∧ tt σ2 H2 fun b H3 =>
      if b = true then te σ2 H3 fun y H4 => ∃ acc, H4 D = some (.lst acc) ∧ acc.length < sizeLine ∧ Nx (upd H4 D (.lst (acc ++ [y]))) else Nx H3)
    (hd : ∀ D, H D = none → Q (.ref D) (upd H D (.lst (xs.flatMap f)))) : tLc (iList K (tVar j)) g tt te vs σ H Q :=
  tLc_pick a xs H f ⟨_, hi, rfl, rfl⟩ ha hn tVar_mono hs hd
/-! ### a pair's first part, its second -/
def tupAt (H : Hp) (v : V) : List V := match v with
  | .ref t => match H t with
    | some (.tup xs) => xs
    | _ => []
  | _ => []
theorem tupAt_of {H : Hp} {t : Addr} {xs : List V} (h : H t = some (.tup xs)) : tupAt H (.ref t) = xs := by unfold tupAt; simp only [h]
def fstV (H : Hp) (v : V) : List V := (tupAt H v).take 1
theorem paired_mem {α β : Type} {F : α → β → Prop} : ∀ {l : List α} {m : List β} {x : α}, Paired F l m → x ∈ l → ∃ y, y ∈ m ∧ F x y
  | _, _, x, .nil, h => absurd h (by simp)
  | _, _, x, .cons r t, h => by
    rcases List.mem_cons.mp h with e | h
    · subst e; exact ⟨_, List.mem_cons_self .., r⟩
    · obtain ⟨y, h1, h2⟩ := paired_mem t h
      exact ⟨y, List.mem_cons_of_mem _ h1, h2⟩
end MG

set_option Elab.async false
set_option linter.all false
set_option maxRecDepth 100000
namespace MG
open PySem PySem.Spec PyProof.Rows L2
/-! ### heaps that differ at some lists -/
def But (S : List Addr) (H H' : Hp) : Prop := ∀ a o, a ∉ S → H a = some o → H' a = some o
def Lists (S : List Addr) (H : Hp) : Prop := ∀ a ∈ S, ∃ xs, H a = some (.lst xs)
theorem Same.but {S : List Addr} {H H' : Hp} (h : Same H H') : But S H H' := fun a o _ e => h a o e
theorem But.trans {S : List Addr} {H H1 H2 : Hp} (h : But S H H1) (k : But S H1 H2) : But S H H2 := fun a o n e => k a o n (h a o n e)
theorem But.upd {H : Hp} {a : Addr} {o : HO} : But [a] H (upd H a o) := fun b u n e => by rw [upd_ne (by simpa using n)]; exact e
theorem But.mono {S S' : List Addr} {H H' : Hp} (h : But S H H') (k : ∀ a ∈ S, a ∈ S') : But S' H H' := fun a o n e => h a o (fun z => n (k a z)) e
section
variable {S : List Addr} {H H' : Hp}
theorem StepAt.but {v : V} {s : Stp} (h : StepAt H v s) (l : Lists S H) (k : But S H H') : StepAt H' v s := by
  obtain ⟨t, e, z⟩ := h
  refine ⟨t, e, k _ _ (fun m => ?_) z⟩
  obtain ⟨xs, q⟩ := l t m
  rw [z] at q; cases q
theorem BodyAt.but {b : Addr} {ss : Body} (h : BodyAt H b ss) (l : Lists S H) (k : But S H H') (n : b ∉ S) : BodyAt H' b ss := let ⟨vs, e, z⟩ := h; ⟨vs, k _ _ n e, L2.Paired.mapP z fun _ _ q => q.but l k⟩
theorem tup_but {t : Addr} {xs : List V} (h : H t = some (.tup xs)) (l : Lists S H) (k : But S H H') : H' t = some (.tup xs) := by
  refine k _ _ (fun m => ?_) h
  obtain ⟨xs, q⟩ := l t m
  rw [h] at q; cases q
theorem EntAt.but {v : V} {e : Ent} (h : EntAt H v e) (l : Lists S H) (k : But S H H') (n : e.2.1 ∉ S) : EntAt H' v e := let ⟨t, q, z, r⟩ := h; ⟨t, q, tup_but z l k, r.but l k n⟩
theorem ChaAt.but {v : V} {e : Cha} (h : ChaAt H v e) (l : Lists S H) (k : But S H H') (n : ∀ b ss, e.2 = some (b, ss) → b ∉ S) : ChaAt H' v e := let ⟨t, q, z, r⟩ := h; ⟨t, q, tup_but z l k, fun b ss x => (r b ss x).but l k (n b ss x)⟩
theorem TB.on.but {T : TB} (h : T.on H) (l : Lists S H) (k : But S H H') : T.on H' := by
  have f : ∀ a, H a = some (tabH a) → H' a = some (tabH a) := fun a e => k _ _ (fun m => by
    obtain ⟨xs, q⟩ := l a m
    rw [e] at q; cases q) e
  exact ⟨f _ h.1, f _ h.2.1, f _ h.2.2.1, f _ h.2.2.2⟩
theorem paired_imp {α β : Type} {F G : α → β → Prop} : ∀ {l : List α} {m : List β}, Paired F l m → (∀ a b, b ∈ m → F a b → G a b) → Paired G l m
  | _, _, .nil, _ => .nil
  | _, _, .cons r t, h => .cons (h _ _ (List.mem_cons_self ..) r) (paired_imp t fun a b hb => h a b (List.mem_cons_of_mem _ hb))
theorem paired_snoc {α β : Type} {F : α → β → Prop} {x : α} {y : β} (q : F x y) : ∀ {l : List α} {m : List β}, Paired F l m → Paired F (l ++ [x]) (m ++ [y])
  | _, _, .nil => .cons q .nil
  | _, _, .cons r t => .cons r (paired_snoc q t)
end
/-! ### a book that is being built at D -/
structure Built (H0 : Hp) (D : Addr) (H : Hp) (fs : List Ent) : Prop where
  same : Same H0 H
  fresh : H0 D = none
  here : BookAt H D fs
  nd : (D :: fs.map (·.2.1)).Nodup
  new : ∀ a ∈ fs.map (·.2.1), H0 a = none
theorem Built.start {H0 : Hp} {D : Addr} (h : H0 D = none) : Built H0 D (upd H0 D (.lst [])) [] := ⟨same_upd h, h, ⟨[], upd_same, .nil⟩, by simp, by simp⟩
theorem Built.grow {H0 H H' : Hp} {D : Addr} {fs : List Ent} (h : Built H0 D H fs) (k : Same H H') : Built H0 D H' fs := ⟨h.same.trans k, h.fresh, h.here.same k, h.nd, h.new⟩
/-- a pair more: l the body's copy, p the pair -/
theorem Built.push {H0 H : Hp} {D l p : Addr} {fs : List Ent} {x : Str} {ss : Body} {vs ws : List V} (h : Built H0 D H fs) (hv : H D = some (.lst vs)) (hw : Paired (StepAt H) ws ss) (hl : H l = none) (hp : upd H l (.lst ws) p = none) :
    Built H0 D (upd (upd (upd H l (.lst ws)) p (.tup [.str x, .ref l])) D (.lst (vs ++ [.ref p]))) (fs ++ [(x, l, ss)]) := by
  have s1 : Same H (upd (upd H l (.lst ws)) p (.tup [.str x, .ref l])) := supd (same_upd hl) hp
  have hDl : l ≠ D := fun e => by rw [e, hv] at hl; cases hl
  have hD2 := s1 _ _ hv
  have Ls : Lists [D] (upd (upd H l (.lst ws)) p (.tup [.str x, .ref l])) := fun a ha => by rw [List.mem_singleton.mp ha]; exact ⟨_, hD2⟩
  have B := But.upd (H := upd (upd H l (.lst ws)) p (.tup [.str x, .ref l])) (a := D) (o := .lst (vs ++ [.ref p]))
  have hlb : upd (upd H l (.lst ws)) p (.tup [.str x, .ref l]) l = some (.lst ws) := (same_upd hp) _ _ upd_same
  have hpb : upd (upd H l (.lst ws)) p (.tup [.str x, .ref l]) p = some (.tup [.str x, .ref l]) := upd_same
  have hnl : l ∉ fs.map (·.2.1) := fun m => by
    obtain ⟨e, he, rfl⟩ := List.mem_map.mp m
    obtain ⟨us, hu, hP⟩ := h.here
    have : ∀ {l : List V} {m : List Ent} {e : Ent}, Paired (EntAt H) l m → e ∈ m → ∃ v, EntAt H v e := by
      intro l m e r
      induction r with
      | nil => intro z; simp at z
      | cons r t ih =>
        intro z
        rcases List.mem_cons.mp z with z | z
        · rw [z]; exact ⟨_, r⟩
        · exact ih z
    obtain ⟨v, t, _, _, ⟨ws', hb, _⟩⟩ := this hP he
    rw [hb] at hl; cases hl
  refine ⟨fun b u e => ?_, h.fresh, ⟨_, upd_same, ?_⟩, ?_, ?_⟩
  · have e1 := s1 _ _ (h.same b u e)
    exact B _ _ (by simpa using ne_of_none e h.fresh) e1
  · obtain ⟨us, hu, hP⟩ := h.here
    rw [hv] at hu
    cases hu
    refine paired_snoc ⟨p, rfl, tup_but hpb Ls B, ⟨ws, B _ _ (by simpa using hDl) hlb, ?_⟩⟩ (paired_imp hP fun v e he q => (q.same s1).but Ls B ?_)
    · have hn := (List.nodup_cons.mp h.nd).1
      intro z
      exact hn (List.mem_singleton.mp z ▸ List.mem_map.mpr ⟨e, he, rfl⟩)
    · exact L2.Paired.mapP hw fun _ _ q => (q.same s1).but Ls B
  · have hn := List.nodup_cons.mp h.nd
    rw [List.map_append, ← List.cons_append]
    refine List.nodup_append.mpr ⟨h.nd, by simp, ?_⟩
    intro a ha b hb
    have hb : b = l := by simpa using hb
    rw [hb]
    rcases List.mem_cons.mp ha with e | ha
    · rw [e]; exact hDl.symm
    · exact fun e => hnl (e ▸ ha)
  · intro a ha
    rw [List.map_append, List.mem_append] at ha
    rcases ha with ha | ha
    · exact h.new a ha
    · have : a = l := by simpa using ha
      rw [this]; exact h.same.free hl
/-! ### what a book, changes tell of a word -/
def bodyOf (es : List Ent) (x : Str) : Option (Addr × Body) := (es.find? fun e => decide (e.1 = x)).map (·.2)
/-! ### the dict of the words -/
def putS (d : List (Key × V)) (p : Str × V) : List (Key × V) := putK d (Sum.inr p.1) p.2
def dOf (ps : List (Str × V)) : List (Key × V) := ps.foldl putS []
theorem keys_put {d : List (Key × V)} {ks : List Str} (h : d.map (·.1) = ks.map Sum.inr) (p : Str × V) : (putS d p).map (·.1) = (addS ks p.1).map Sum.inr := by
  have hany : (d.any fun kv => decide (kv.1 = (Sum.inr p.1 : Key))) = decide (p.1 ∈ ks) := by
    rw [Bool.eq_iff_iff, List.any_eq_true, decide_eq_true_iff]
    constructor
    · rintro ⟨kv, h1, h2⟩
      have h3 : (Sum.inr p.1 : Key) ∈ ks.map Sum.inr := by rw [← h]; exact List.mem_map.mpr ⟨kv, h1, of_decide_eq_true h2⟩
      obtain ⟨y, h4, h5⟩ := List.mem_map.mp h3
      rw [← Sum.inr.inj h5]; exact h4
    · intro m
      have h3 : (Sum.inr p.1 : Key) ∈ d.map (·.1) := by rw [h]; exact List.mem_map.mpr ⟨_, m, rfl⟩
      obtain ⟨kv, h4, h5⟩ := List.mem_map.mp h3
      exact ⟨kv, h4, decide_eq_true h5⟩
  unfold putS putK addS
  rw [hany]
  by_cases m : p.1 ∈ ks
  · rw [if_pos m, if_pos (decide_eq_true m), List.map_map, ← h]
    apply List.map_congr_left
    intro kv _
    show (if kv.1 = _ then (kv.1, p.2) else kv).1 = kv.1
    split <;> rfl
  · rw [if_neg m, if_neg (by simpa using m), List.map_append, List.map_append, h]; rfl
theorem keys_fold : ∀ (ps : List (Str × V)) (d : List (Key × V)) (ks : List Str), d.map (·.1) = ks.map Sum.inr → (ps.foldl putS d).map (·.1) = ((ps.map (·.1)).foldl addS ks).map Sum.inr
  | [], _, _, h => h
  | p :: r, d, ks, h => keys_fold r _ _ (keys_put h p)
theorem keys_dOf (ps : List (Str × V)) : (dOf ps).map (·.1) = (dedupS (ps.map (·.1))).map Sum.inr := keys_fold ps [] [] rfl
def findS (ps : List (Str × V)) (x : Str) : Option V := (ps.find? fun p => decide (p.1 = x)).map (·.2)
theorem findS_none {ps : List (Str × V)} {x : Str} (h : x ∉ ps.map (·.1)) : findS ps x = none := by
  unfold findS
  rw [Option.map_eq_none_iff, List.find?_eq_none]
  intro p hp e
  exact h (List.mem_map.mpr ⟨p, hp, of_decide_eq_true e⟩)
theorem val_fold (x : Str) : ∀ (ps : List (Str × V)) (d : List (Key × V)), (ps.map (·.1)).Nodup → valV (ps.foldl putS d) (Sum.inr x) = match findS ps x with | some v => some v | none => valV d (Sum.inr x)
  | [], _, _ => rfl
  | p :: r, d, h => by
    have h' := List.nodup_cons.mp (show (p.1 :: r.map (·.1)).Nodup from h)
    show valV (r.foldl putS (putS d p)) (Sum.inr x) = _
    rw [val_fold x r _ h'.2]
    unfold putS
    rw [valV_put]
    by_cases e : p.1 = x
    · have e1 : findS (p :: r) x = some p.2 := by unfold findS; rw [List.find?_cons_of_pos (by simpa using e)]; rfl
      rw [e1, findS_none (e ▸ h'.1), if_pos (by rw [e])]
    · have e1 : findS (p :: r) x = findS r x := by unfold findS; rw [List.find?_cons_of_neg (by simpa using e)]
      rw [e1, if_neg (fun z => e (Sum.inr.inj z).symm)]
def entP (e : Ent) : Str × V := (e.1, .ref e.2.1)
def chaP (e : Cha) : Str × V := (e.1, chaV e.2)
theorem findS_ent (es : List Ent) (x : Str) : findS (es.map entP) x = (bodyOf es x).map fun b => V.ref b.1 := by
  unfold findS bodyOf
  rw [List.find?_map]
  show Option.map _ (Option.map entP (es.find? fun e => decide (e.1 = x))) = _
  cases es.find? fun e => decide (e.1 = x) <;> rfl
theorem bodyOf_some {es : List Ent} {x : Str} {b : Addr × Body} (h : bodyOf es x = some b) : (x, b) ∈ es := by
  unfold bodyOf at h
  obtain ⟨e, h1, rfl⟩ := Option.map_eq_some_iff.mp h
  have h2 := List.find?_some h1
  have h3 : e.1 = x := of_decide_eq_true h2
  rw [← h3]; exact List.mem_of_find?_eq_some h1
def PairAt (H : Hp) (v : V) (p : Str × V) : Prop := ∃ t, v = .ref t ∧ H t = some (.tup [.str p.1, p.2])
theorem PairAt.same {H H' : Hp} {v : V} {p : Str × V} (h : PairAt H v p) (k : Same H H') : PairAt H' v p := let ⟨t, e, z⟩ := h; ⟨t, e, k _ _ z⟩
theorem EntAt.pair {H : Hp} {v : V} {e : Ent} (h : EntAt H v e) : PairAt H v (entP e) := let ⟨t, e, z, _⟩ := h; ⟨t, e, z⟩
theorem ChaAt.pair {H : Hp} {v : V} {e : Cha} (h : ChaAt H v e) : PairAt H v (chaP e) := let ⟨t, e, z, _⟩ := h; ⟨t, e, z⟩
theorem paired_memR {α β : Type} {F : α → β → Prop} : ∀ {l : List α} {m : List β} {y : β}, Paired F l m → y ∈ m → ∃ x, x ∈ l ∧ F x y
  | _, _, y, .nil, h => absurd h (by simp)
  | _, _, y, .cons r t, h => by
    rcases List.mem_cons.mp h with e | h
    · subst e; exact ⟨_, List.mem_cons_self .., r⟩
    · obtain ⟨x, h1, h2⟩ := paired_memR t h
      exact ⟨x, List.mem_cons_of_mem _ h1, h2⟩
theorem Built.weaken {H0 H1 H : Hp} {D : Addr} {fs : List Ent} (h : Built H1 D H fs) (k : Same H0 H1) : Built H0 D H fs := ⟨k.trans h.same, k.free h.fresh, h.here, h.nd, fun a ha => k.free (h.new a ha)⟩
/-- a list comprehension over a list, behind its iterable, by an invariant -/
theorem lc_by {K : PySem.W.Frag} {g : TG} {tt : TT} {te : TE} {vs : List Nat} {σ : L2.St} {a : Addr} {xs : List V} {H1 : Hp} {Qd : Addr → Hp → Prop} (Pv : Addr → Nat → Hp → Prop) (h0 : ∀ D, H1 D = none → Pv D 0 (upd H1 D (.lst []))) (hl : ∀ D i H, i ≤ xs.length → Pv D i H → SqL K H a xs)
    (hs : ∀ D i x H, H1 D = none → xs[i]? = some x → Pv D i H → g x (wipe σ vs) H fun σ2 H2 => wipe σ2 vs = wipe σ vs ∧ tt σ2 H2 fun b H3 =>
      if b = true then te σ2 H3 fun y H4 => ∃ acc, H4 D = some (.lst acc) ∧ acc.length < sizeLine ∧ Pv D (i + 1) (upd H4 D (.lst (acc ++ [y]))) else Pv D (i + 1) H3) (hd : ∀ D H, H1 D = none → Pv D xs.length H → Qd D H) :
    ∀ D, H1 D = none → ∃ W : Nat → Nat → Hp → Prop, (∃ m, W 0 m (upd H1 D (.lst []))) ∧ ∀ i m H, W i m H →
      ((Itl K a).stop i H ∧ Qd D H) ∨ ((Itl K a).go i H ∧ ∃ Nx : Hp → Prop, (∀ H', Nx H' → ∃ m', m' < m ∧ W (i + 1) m' H') ∧ ∀ x H', (Itl K a).yld i H x H' → g x (wipe σ vs) H' fun σ2 H2 => wipe σ2 vs = wipe σ vs ∧ tt σ2 H2 fun b H3 =>
        if b = true then te σ2 H3 fun y H4 => ∃ acc, H4 D = some (.lst acc) ∧ acc.length < sizeLine ∧ Nx (upd H4 D (.lst (acc ++ [y]))) else Nx H3) :=
  fun D hD => lc_list (Pv D) (h0 D hD) (hl D) (fun i x H hx p => hs D i x H hD hx p) (fun H p => hd D H hD p)
end MG

set_option Elab.async false
set_option linter.all false
set_option maxRecDepth 100000
namespace MG
open PySem PySem.Spec PyProof.Rows L2
def entSB (e : Ent) : Str × Body := (e.1, e.2.2)
theorem bodyOf_sb : ∀ {fs es : List Ent}, fs.map entSB = es.map entSB → ∀ x, (bodyOf fs x).map (·.2) = (bodyOf es x).map (·.2)
  | [], [], _, _ => rfl
  | [], _ :: _, h, _ => by simp at h
  | _ :: _, [], h, _ => by simp at h
  | f :: fs, e :: es, h, x => by
    rw [List.map_cons, List.map_cons] at h
    injection h with h1 h2
    have h3 : f.1 = e.1 := congrArg (fun p : Str × Body => p.1) h1
    have h4 : f.2.2 = e.2.2 := congrArg (fun p : Str × Body => p.2) h1
    have ih := bodyOf_sb h2 x
    unfold bodyOf at ih ⊢
    by_cases k : e.1 = x
    · rw [List.find?_cons_of_pos (by rw [h3]; simpa using k), List.find?_cons_of_pos (by simpa using k)]
      show some f.2.2 = some e.2.2
      rw [h4]
    · rw [List.find?_cons_of_neg (by rw [h3]; simpa using k), List.find?_cons_of_neg (by simpa using k)]
      exact ih
/-! ### what steps may use -/
def Stp.named : Stp → List Str
  | .ask w => [w] | .odd w => [w]
  | _ => []
def namesB (ss : Body) : List Str := ss.flatMap Stp.named
def nexts (es : List Ent) (x : Str) : List Str := match bodyOf es x with
  | some b => namesB b.2
  | none => []
inductive Reach (es : List Ent) (ss : Body) : Str → Prop
  | base {x : Str} : x ∈ namesB ss → Reach es ss x
  | step {x y : Str} : Reach es ss y → x ∈ nexts es y → Reach es ss x
structure MayIs (es : List Ent) (ss : Body) (ys : List Str) : Prop where
  nd : ys.Nodup
  up : sortedS ys = true
  mem : ∀ x, x ∈ ys ↔ Reach es ss x
/-- all words of the steps and the book are among W -/
structure InW (W : List Str) (es : List Ent) (ss : Body) : Prop where
  st : ∀ x ∈ namesB ss, x ∈ W
  bk : ∀ e ∈ es, ∀ x ∈ namesB e.2.2, x ∈ W
theorem InW.nexts {W : List Str} {es : List Ent} {ss : Body} (h : InW W es ss) (y x : Str) (hx : x ∈ nexts es y) : x ∈ W := by
  unfold MG.nexts at hx
  cases e : bodyOf es y with
  | none => rw [e] at hx; exact absurd hx (by simp)
  | some b =>
    rw [e] at hx
    exact h.bk _ (bodyOf_some e) x hx
theorem InW.reach {W : List Str} {es : List Ent} {ss : Body} (h : InW W es ss) {x : Str} (r : Reach es ss x) : x ∈ W := by
  cases r with
  | base k => exact h.st _ k
  | step _ k => exact h.nexts _ _ k
/-! ### one more word, each once -/
/-! ### a dict's keys -/
theorem val_isSome {kvs : List (Key × V)} {ks : List Str} (h : kvs.map (·.1) = ks.map Sum.inr) (x : Str) : (valV kvs (Sum.inr x)).isSome = decide (x ∈ ks) := by
  have hm : x ∈ ks ↔ (Sum.inr x : Key) ∈ kvs.map (·.1) := by
    rw [h]
    constructor
    · intro m; exact List.mem_map.mpr ⟨x, m, rfl⟩
    · intro m
      obtain ⟨y, h1, h2⟩ := List.mem_map.mp m
      rw [← Sum.inr.inj h2]; exact h1
  unfold valV
  rw [Bool.eq_iff_iff, decide_eq_true_iff, hm, Option.isSome_map, List.find?_isSome]
  constructor
  · rintro ⟨p, h1, h2⟩
    exact List.mem_map.mpr ⟨p, h1, of_decide_eq_true h2⟩
  · intro m
    obtain ⟨p, h1, h2⟩ := List.mem_map.mp m
    exact ⟨p, h1, decide_eq_true h2⟩
section
variable {X : Cx}
/-! ### every second one -/
end
end MG

set_option Elab.async false
set_option linter.all false
set_option maxRecDepth 100000
namespace MG
open PySem PySem.Spec PyProof.Rows L2
/-! ### the fields of a runner, in the turn in which they are first stored -/
theorem lk_ne {a k : Str} {v : V} {r : List (Str × V)} (h : a ≠ k) : ((k, v) :: r).lookup a = r.lookup a := by
  rw [List.lookup_cons]
  have : (a == k) = false := by simpa using h
  rw [this]
theorem lk_eq {a : Str} {v : V} {r : List (Str × V)} : ((a, v) :: r).lookup a = some v := by rw [List.lookup_cons]; simp
theorem pf_ne {f k : Str} {v y : V} {r : List (Str × V)} (h : k ≠ f) : putF f y ((k, v) :: r) = (k, v) :: putF f y r := by
  show (if k = f then _ else _) = _
  rw [if_neg h]
theorem pf_eq {f : Str} {v y : V} {r : List (Str × V)} : putF f y ((f, v) :: r) = (f, y) :: r := by
  show (if f = f then _ else _) = _
  rw [if_pos rfl]
def flds (d : Addr) (z : Int) (ah : Addr) (st tk : Int) (sd en us bg : Addr) : List (Str × V) := [("bodies", .ref d), ("in_hand", .int z), ("heard", .ref ah), ("strength", .int st), ("taken", .int tk), ("said", .ref sd), ("ended", .ref en), ("uses", .ref us), ("begun", .ref bg)]
theorem ne_in_hand_bodies : ("in_hand" : Str) ≠ "bodies" := by decide +kernel
theorem ne_heard_bodies : ("heard" : Str) ≠ "bodies" := by decide +kernel
theorem ne_heard_in_hand : ("heard" : Str) ≠ "in_hand" := by decide +kernel
theorem ne_strength_bodies : ("strength" : Str) ≠ "bodies" := by decide +kernel
theorem ne_strength_in_hand : ("strength" : Str) ≠ "in_hand" := by decide +kernel
theorem ne_strength_heard : ("strength" : Str) ≠ "heard" := by decide +kernel
theorem ne_taken_bodies : ("taken" : Str) ≠ "bodies" := by decide +kernel
theorem ne_taken_in_hand : ("taken" : Str) ≠ "in_hand" := by decide +kernel
theorem ne_taken_heard : ("taken" : Str) ≠ "heard" := by decide +kernel
theorem ne_taken_strength : ("taken" : Str) ≠ "strength" := by decide +kernel
theorem ne_said_bodies : ("said" : Str) ≠ "bodies" := by decide +kernel
theorem ne_said_in_hand : ("said" : Str) ≠ "in_hand" := by decide +kernel
theorem ne_said_heard : ("said" : Str) ≠ "heard" := by decide +kernel
theorem ne_said_strength : ("said" : Str) ≠ "strength" := by decide +kernel
theorem ne_said_taken : ("said" : Str) ≠ "taken" := by decide +kernel
theorem ne_ended_bodies : ("ended" : Str) ≠ "bodies" := by decide +kernel
theorem ne_ended_in_hand : ("ended" : Str) ≠ "in_hand" := by decide +kernel
theorem ne_ended_heard : ("ended" : Str) ≠ "heard" := by decide +kernel
theorem ne_ended_strength : ("ended" : Str) ≠ "strength" := by decide +kernel
theorem ne_ended_taken : ("ended" : Str) ≠ "taken" := by decide +kernel
theorem ne_ended_said : ("ended" : Str) ≠ "said" := by decide +kernel
theorem ne_uses_bodies : ("uses" : Str) ≠ "bodies" := by decide +kernel
theorem ne_uses_in_hand : ("uses" : Str) ≠ "in_hand" := by decide +kernel
theorem ne_uses_heard : ("uses" : Str) ≠ "heard" := by decide +kernel
theorem ne_uses_strength : ("uses" : Str) ≠ "strength" := by decide +kernel
theorem ne_uses_taken : ("uses" : Str) ≠ "taken" := by decide +kernel
theorem ne_uses_said : ("uses" : Str) ≠ "said" := by decide +kernel
theorem ne_uses_ended : ("uses" : Str) ≠ "ended" := by decide +kernel
theorem ne_begun_bodies : ("begun" : Str) ≠ "bodies" := by decide +kernel
theorem ne_begun_in_hand : ("begun" : Str) ≠ "in_hand" := by decide +kernel
theorem ne_begun_heard : ("begun" : Str) ≠ "heard" := by decide +kernel
theorem ne_begun_strength : ("begun" : Str) ≠ "strength" := by decide +kernel
theorem ne_begun_taken : ("begun" : Str) ≠ "taken" := by decide +kernel
theorem ne_begun_said : ("begun" : Str) ≠ "said" := by decide +kernel
theorem ne_begun_ended : ("begun" : Str) ≠ "ended" := by decide +kernel
theorem ne_begun_uses : ("begun" : Str) ≠ "uses" := by decide +kernel
theorem fl_bodies (d : Addr) (z : Int) (ah : Addr) (st tk : Int) (sd en us bg : Addr) : (flds d z ah st tk sd en us bg).lookup ("bodies" : Str) = some (V.ref d) := by
  unfold flds
  exact lk_eq
theorem fl_in_hand (d : Addr) (z : Int) (ah : Addr) (st tk : Int) (sd en us bg : Addr) : (flds d z ah st tk sd en us bg).lookup ("in_hand" : Str) = some (V.int z) := by
  unfold flds
  rw [lk_ne ne_in_hand_bodies]
  exact lk_eq
theorem fl_heard (d : Addr) (z : Int) (ah : Addr) (st tk : Int) (sd en us bg : Addr) : (flds d z ah st tk sd en us bg).lookup ("heard" : Str) = some (V.ref ah) := by
  unfold flds
  rw [lk_ne ne_heard_bodies, lk_ne ne_heard_in_hand]
  exact lk_eq
theorem fl_strength (d : Addr) (z : Int) (ah : Addr) (st tk : Int) (sd en us bg : Addr) : (flds d z ah st tk sd en us bg).lookup ("strength" : Str) = some (V.int st) := by
  unfold flds
  rw [lk_ne ne_strength_bodies, lk_ne ne_strength_in_hand, lk_ne ne_strength_heard]
  exact lk_eq
theorem fl_taken (d : Addr) (z : Int) (ah : Addr) (st tk : Int) (sd en us bg : Addr) : (flds d z ah st tk sd en us bg).lookup ("taken" : Str) = some (V.int tk) := by
  unfold flds
  rw [lk_ne ne_taken_bodies, lk_ne ne_taken_in_hand, lk_ne ne_taken_heard, lk_ne ne_taken_strength]
  exact lk_eq
theorem fl_said (d : Addr) (z : Int) (ah : Addr) (st tk : Int) (sd en us bg : Addr) : (flds d z ah st tk sd en us bg).lookup ("said" : Str) = some (V.ref sd) := by
  unfold flds
  rw [lk_ne ne_said_bodies, lk_ne ne_said_in_hand, lk_ne ne_said_heard, lk_ne ne_said_strength, lk_ne ne_said_taken]
  exact lk_eq
theorem fl_ended (d : Addr) (z : Int) (ah : Addr) (st tk : Int) (sd en us bg : Addr) : (flds d z ah st tk sd en us bg).lookup ("ended" : Str) = some (V.ref en) := by
  unfold flds
  rw [lk_ne ne_ended_bodies, lk_ne ne_ended_in_hand, lk_ne ne_ended_heard, lk_ne ne_ended_strength, lk_ne ne_ended_taken, lk_ne ne_ended_said]
  exact lk_eq
theorem fl_uses (d : Addr) (z : Int) (ah : Addr) (st tk : Int) (sd en us bg : Addr) : (flds d z ah st tk sd en us bg).lookup ("uses" : Str) = some (V.ref us) := by
  unfold flds
  rw [lk_ne ne_uses_bodies, lk_ne ne_uses_in_hand, lk_ne ne_uses_heard, lk_ne ne_uses_strength, lk_ne ne_uses_taken, lk_ne ne_uses_said, lk_ne ne_uses_ended]
  exact lk_eq
theorem fl_begun (d : Addr) (z : Int) (ah : Addr) (st tk : Int) (sd en us bg : Addr) : (flds d z ah st tk sd en us bg).lookup ("begun" : Str) = some (V.ref bg) := by
  unfold flds
  rw [lk_ne ne_begun_bodies, lk_ne ne_begun_in_hand, lk_ne ne_begun_heard, lk_ne ne_begun_strength, lk_ne ne_begun_taken, lk_ne ne_begun_said, lk_ne ne_begun_ended, lk_ne ne_begun_uses]
  exact lk_eq
theorem pt_in_hand (d : Addr) (z : Int) (ah : Addr) (st tk : Int) (sd en us bg : Addr) (y : Int) : putF "in_hand" (V.int y) (flds d z ah st tk sd en us bg) = flds d y ah st tk sd en us bg := by
  unfold flds
  rw [pf_ne ne_in_hand_bodies.symm, pf_eq]
theorem pt_taken (d : Addr) (z : Int) (ah : Addr) (st tk : Int) (sd en us bg : Addr) (y : Int) : putF "taken" (V.int y) (flds d z ah st tk sd en us bg) = flds d z ah st y sd en us bg := by
  unfold flds
  rw [pf_ne ne_taken_bodies.symm, pf_ne ne_taken_in_hand.symm, pf_ne ne_taken_heard.symm, pf_ne ne_taken_strength.symm, pf_eq]
theorem pt_ended (d : Addr) (z : Int) (ah : Addr) (st tk : Int) (sd en us bg : Addr) (y : Addr) : putF "ended" (V.ref y) (flds d z ah st tk sd en us bg) = flds d z ah st tk sd y us bg := by
  unfold flds
  rw [pf_ne ne_ended_bodies.symm, pf_ne ne_ended_in_hand.symm, pf_ne ne_ended_heard.symm, pf_ne ne_ended_strength.symm, pf_ne ne_ended_taken.symm, pf_ne ne_ended_said.symm, pf_eq]
theorem fl_no (d : Addr) (z : Int) (ah : Addr) (st tk : Int) (sd en us bg : Addr) {m : Str} (h : (["bodies", "in_hand", "heard", "strength", "taken", "said", "ended", "uses", "begun"] : List Str).all (fun k => decide (m ≠ k)) = true) : (flds d z ah st tk sd en us bg).lookup m = none := by
  simp only [List.all_cons, List.all_nil, Bool.and_true, Bool.and_eq_true, decide_eq_true_eq] at h
  obtain ⟨h0, h1, h2, h3, h4, h5, h6, h7, h8⟩ := h
  unfold flds
  rw [lk_ne h0, lk_ne h1, lk_ne h2, lk_ne h3, lk_ne h4, lk_ne h5, lk_ne h6, lk_ne h7, lk_ne h8]
  rfl
theorem fl_len (d : Addr) (z : Int) (ah : Addr) (st tk : Int) (sd en us bg : Addr) : (flds d z ah st tk sd en us bg).length = 9 := rfl
/-- what `__init__` stores, field by field -/
theorem fl_made (d : Addr) (z : Int) (ah : Addr) (st tk : Int) (sd en us bg : Addr) : putF "begun" (V.ref bg) (putF "uses" (V.ref us) (putF "ended" (V.ref en) (putF "said" (V.ref sd) (putF "taken" (V.int tk) (putF "strength" (V.int st) (putF "heard" (V.ref ah) (putF "in_hand" (V.int z) (putF "bodies" (V.ref d) [])))))))) = flds d z ah st tk sd en us bg := by
  have p0 : ∀ (f : Str) (y : V), putF f y [] = [(f, y)] := fun _ _ => rfl
  unfold flds
  rw [p0]
  rw [pf_ne ne_in_hand_bodies.symm, p0]
  rw [pf_ne ne_heard_bodies.symm, pf_ne ne_heard_in_hand.symm, p0]
  rw [pf_ne ne_strength_bodies.symm, pf_ne ne_strength_in_hand.symm, pf_ne ne_strength_heard.symm, p0]
  rw [pf_ne ne_taken_bodies.symm, pf_ne ne_taken_in_hand.symm, pf_ne ne_taken_heard.symm, pf_ne ne_taken_strength.symm, p0]
  rw [pf_ne ne_said_bodies.symm, pf_ne ne_said_in_hand.symm, pf_ne ne_said_heard.symm, pf_ne ne_said_strength.symm, pf_ne ne_said_taken.symm, p0]
  rw [pf_ne ne_ended_bodies.symm, pf_ne ne_ended_in_hand.symm, pf_ne ne_ended_heard.symm, pf_ne ne_ended_strength.symm, pf_ne ne_ended_taken.symm, pf_ne ne_ended_said.symm, p0]
  rw [pf_ne ne_uses_bodies.symm, pf_ne ne_uses_in_hand.symm, pf_ne ne_uses_heard.symm, pf_ne ne_uses_strength.symm, pf_ne ne_uses_taken.symm, pf_ne ne_uses_said.symm, pf_ne ne_uses_ended.symm, p0]
  rw [pf_ne ne_begun_bodies.symm, pf_ne ne_begun_in_hand.symm, pf_ne ne_begun_heard.symm, pf_ne ne_begun_strength.symm, pf_ne ne_begun_taken.symm, pf_ne ne_begun_said.symm, pf_ne ne_begun_ended.symm, pf_ne ne_begun_uses.symm, p0]
/-! ### a runner's data -/
inductive En where
  | no | deaf | spent | drop
  | lost (w : Str) | done (n : Int)
def En.vals : En → List V
  | .no => [] | .deaf => [.str "deaf"] | .spent => [.str "spent"] | .drop => [.str "dropped"] | .lost w => [.str "lost", .str w] | .done n => [.str "done", .int n]
structure Rn where
  hand : Int
  heard : List Int
  str : Int
  taken : Int
  said : List Int
  fin : En
  uses : List (Str × Option Body)
  begun : List Body
/-- a dict of bodies by their words, as the book has them -/
def DicAt (H : Hp) (d : Addr) (es : List Ent) : Prop := ∃ fs : List Ent, H d = some (.dK (dOf (fs.map entP))) ∧ fs.map entSB = es.map entSB ∧ ∀ e ∈ fs, BodyAt H e.2.1 e.2.2
theorem DicAt.same {H H' : Hp} {d : Addr} {es : List Ent} (h : DicAt H d es) (k : Same H H') : DicAt H' d es := let ⟨fs, a, b, c⟩ := h; ⟨fs, k _ _ a, b, fun e he => (c e he).same k⟩
/-- what was used, in the dict -/
def UseAt (H : Hp) (kv : Key × V) (u : Str × Option Body) : Prop := kv.1 = Sum.inr u.1 ∧ match u.2 with
  | none => kv.2 = .non
  | some ss => ∃ b, kv.2 = .ref b ∧ BodyAt H b ss
/-- two bases: b, in which the bodies stand that may be used; f, all that stays as it is -/
structure FB where
  b : Hp
  f : Hp
  le : Same b f
abbrev FB.one (H : Hp) : FB := ⟨H, H, Same.refl H⟩
/-- a runner at a: the base H0 stays as it is; all that the runner changes is new over it -/
structure RunAt (C : Addr) (H0 : FB) (H : Hp) (a dx d ah sd en us bg : Addr) (bs : List Addr) (kvs : List (Key × V)) (R : Rn) : Prop where
  same : Same H0.f H
  ob : H a = some (.ins C dx (flds d R.hand ah R.str R.taken sd en us bg))
  he : H ah = some (.lst (R.heard.map V.int))
  sa : H sd = some (.lst (R.said.map V.int))
  fi : H en = some (.tup R.fin.vals)
  du : H us = some (.dK kvs)
  uo : Paired (UseAt H0.b) kvs R.uses
  be : H bg = some (.lst (bs.map V.ref))
  bo : Paired (BodyAt H) bs R.begun
  nd : (ah :: sd :: bg :: bs).Nodup
  new : ∀ u ∈ a :: us :: ah :: sd :: bg :: bs, H0.f u = none
section
variable {C : Addr} {H0 : FB} {H : Hp} {a dx d ah sd en us bg : Addr} {bs : List Addr} {kvs : List (Key × V)} {R : Rn}
/-- bodies behind a write to something that is no tuple and none of them -/
theorem body_upd {H : Hp} {b m : Addr} {ss : Body} {o : HO} (h : BodyAt H b ss) (n : b ≠ m) (k : ∀ xs, H m ≠ some (.tup xs)) : BodyAt (upd H m o) b ss := by
  obtain ⟨vs, h1, h2⟩ := h
  refine ⟨vs, by rw [upd_ne n]; exact h1, L2.Paired.mapP h2 fun v s ⟨t, e, z⟩ => ⟨t, e, ?_⟩⟩
  rw [upd_ne (fun y => k _ (y ▸ z))]; exact z
theorem bodies_upd {H : Hp} {m : Addr} {o : HO} {bs : List Addr} {ss : List Body} (h : Paired (BodyAt H) bs ss) (n : m ∉ bs) (k : ∀ xs, H m ≠ some (.tup xs)) : Paired (BodyAt (upd H m o)) bs ss := by
  induction h with
  | nil => exact .nil
  | cons r t ih => exact .cons (body_upd r (fun e => n (e ▸ List.mem_cons_self ..)) k) (ih fun z => n (List.mem_cons_of_mem _ z))
theorem RunAt.sameB (h : RunAt C H0 H a dx d ah sd en us bg bs kvs R) : Same H0.b H := H0.le.trans h.same
theorem same_new {H0 : Hp} {m : Addr} {o : HO} (s : Same H0 H) (n : H0 m = none) : Same H0 (upd H m o) := fun b u e => by rw [upd_ne (ne_of_none e n)]; exact s b u e
theorem RunAt.list_not (h : RunAt C H0 H a dx d ah sd en us bg bs kvs R) {b : Addr} (hb : b ∈ bs) : ∃ xs, H b = some (.lst xs) := by
  obtain ⟨ss, _, vs, e, _⟩ := paired_mem h.bo hb
  exact ⟨vs, e⟩
/-- growth of the heap -/
theorem RunAt.grow {H' : Hp} (h : RunAt C H0 H a dx d ah sd en us bg bs kvs R) (k : Same H H') : RunAt C H0 H' a dx d ah sd en us bg bs kvs R :=
  ⟨h.same.trans k, k _ _ h.ob, k _ _ h.he, k _ _ h.sa, k _ _ h.fi, k _ _ h.du, h.uo, k _ _ h.be, L2.Paired.mapP h.bo fun _ _ z => z.same k, h.nd, h.new⟩
/-- a field of the object is stored -/
theorem RunAt.field {en' : Addr} {R' : Rn} (h : RunAt C H0 H a dx d ah sd en us bg bs kvs R) (hf : H en' = some (.tup R'.fin.vals)) (e1 : R'.heard = R.heard) (e2 : R'.said = R.said) (e3 : R'.uses = R.uses) (e4 : R'.begun = R.begun) :
    RunAt C H0 (upd H a (.ins C dx (flds d R'.hand ah R'.str R'.taken sd en' us bg))) a dx d ah sd en' us bg bs kvs R' := by
  have nA : ∀ {b : Addr} {o : HO}, H b = some o → (∀ C dx fs, o ≠ .ins C dx fs) → b ≠ a := fun {b o} e k z => by
    rw [z, h.ob] at e
    exact k _ _ _ (Option.some.inj e).symm
  have kt : ∀ xs, H a ≠ some (.tup xs) := fun xs z => by rw [h.ob] at z; cases z
  refine ⟨same_new h.same (h.new a (List.mem_cons_self ..)), upd_same, ?_, ?_, ?_, ?_, by rw [e3]; exact h.uo, ?_, ?_, h.nd, h.new⟩
  · rw [upd_ne (nA h.he (by intro _ _ _ z; cases z)), e1]; exact h.he
  · rw [upd_ne (nA h.sa (by intro _ _ _ z; cases z)), e2]; exact h.sa
  · rw [upd_ne (nA hf (by intro _ _ _ z; cases z))]; exact hf
  · rw [upd_ne (nA h.du (by intro _ _ _ z; cases z))]; exact h.du
  · rw [upd_ne (nA h.be (by intro _ _ _ z; cases z))]; exact h.be
  · rw [e4]
    refine bodies_upd h.bo (fun z => ?_) kt
    obtain ⟨xs, e⟩ := h.list_not z
    rw [h.ob] at e; cases e
/-- what is said -/
theorem RunAt.say (h : RunAt C H0 H a dx d ah sd en us bg bs kvs R) (z : Int) : RunAt C H0 (upd H sd (.lst (R.said.map V.int ++ [.int z]))) a dx d ah sd en us bg bs kvs { R with said := R.said ++ [z] } := by
  have n := h.nd
  simp only [List.nodup_cons, List.mem_cons, not_or] at n
  obtain ⟨⟨n1, n2, n3⟩, ⟨n4, n5⟩, n6, n7⟩ := n
  have nK : ∀ {b : Addr} {o : HO}, H b = some o → (∀ xs, o ≠ .lst xs) → b ≠ sd := fun {b o} e k z => by
    rw [z, h.sa] at e
    exact k _ (Option.some.inj e).symm
  refine ⟨same_new h.same (h.new sd (by simp)), ?_, ?_, ?_, ?_, ?_, h.uo, ?_, bodies_upd h.bo n5 (fun xs z => by rw [h.sa] at z; cases z), h.nd, h.new⟩
  · rw [upd_ne (nK h.ob (by intro _ z; cases z))]; exact h.ob
  · rw [upd_ne n1]; exact h.he
  · rw [upd_same, List.map_append]; rfl
  · rw [upd_ne (nK h.fi (by intro _ z; cases z))]; exact h.fi
  · rw [upd_ne (nK h.du (by intro _ z; cases z))]; exact h.du
  · rw [upd_ne (Ne.symm n4)]; exact h.be
/-- a heard number is taken -/
theorem RunAt.hear {xs : List Int} (h : RunAt C H0 H a dx d ah sd en us bg bs kvs R) : RunAt C H0 (upd H ah (.lst (xs.map V.int))) a dx d ah sd en us bg bs kvs { R with heard := xs } := by
  have n := h.nd
  simp only [List.nodup_cons, List.mem_cons, not_or] at n
  obtain ⟨⟨n1, n2, n3⟩, ⟨n4, n5⟩, n6, n7⟩ := n
  have nK : ∀ {b : Addr} {o : HO}, H b = some o → (∀ xs, o ≠ .lst xs) → b ≠ ah := fun {b o} e k z => by
    rw [z, h.he] at e
    exact k _ (Option.some.inj e).symm
  refine ⟨same_new h.same (h.new ah (by simp)), ?_, ?_, ?_, ?_, ?_, h.uo, ?_, bodies_upd h.bo n3 (fun xs z => by rw [h.he] at z; cases z), h.nd, h.new⟩
  · rw [upd_ne (nK h.ob (by intro _ z; cases z))]; exact h.ob
  · exact upd_same
  · rw [upd_ne (Ne.symm n1)]; exact h.sa
  · rw [upd_ne (nK h.fi (by intro _ z; cases z))]; exact h.fi
  · rw [upd_ne (nK h.du (by intro _ z; cases z))]; exact h.du
  · rw [upd_ne (Ne.symm n2)]; exact h.be
end
end MG

set_option Elab.async false
set_option linter.all false
set_option maxRecDepth 100000
namespace MG
open PySem PySem.Spec PyProof.Rows L2
section
variable {C : Addr} {H0 : FB} {H : Hp} {a dx d ah sd en us bg : Addr} {bs : List Addr} {kvs : List (Key × V)} {R : Rn}
theorem paired_snocR {α β : Type} {F : α → β → Prop} {y : β} : ∀ {l : List α} {m : List β}, Paired F l (m ++ [y]) → ∃ l' x, l = l' ++ [x] ∧ Paired F l' m ∧ F x y
  | _, [], .cons r t => by
    cases t
    exact ⟨[], _, rfl, .nil, r⟩
  | _, _ :: _, .cons r t => by
    obtain ⟨l', x, rfl, h1, h2⟩ := paired_snocR t
    exact ⟨_ :: l', x, rfl, .cons r h1, h2⟩
theorem paired_snocL {α β : Type} {F : α → β → Prop} {x : α} : ∀ {l : List α} {m : List β}, Paired F (l ++ [x]) m → ∃ m' y, m = m' ++ [y] ∧ Paired F l m' ∧ F x y
  | [], _, .cons r t => by
    cases t
    exact ⟨[], _, rfl, .nil, r⟩
  | _ :: _, _, .cons r t => by
    obtain ⟨m', y, rfl, h1, h2⟩ := paired_snocL t
    exact ⟨_ :: m', y, rfl, .cons r h1, h2⟩
/-- the list of what is begun is written -/
theorem RunAt.setBg {bs' : List Addr} {B : List Body} (h : RunAt C H0 H a dx d ah sd en us bg bs kvs R) (hb : Paired (BodyAt H) bs' B) (nd : (ah :: sd :: bg :: bs').Nodup) (nw : ∀ u ∈ bs', H0.f u = none) :
    RunAt C H0 (upd H bg (.lst (bs'.map V.ref))) a dx d ah sd en us bg bs' kvs { R with begun := B } := by
  have n := nd
  simp only [List.nodup_cons, List.mem_cons, not_or] at n
  obtain ⟨⟨n1, n2, n3⟩, ⟨n4, n5⟩, n6, n7⟩ := n
  have nK : ∀ {b : Addr} {o : HO}, H b = some o → (∀ xs, o ≠ .lst xs) → b ≠ bg := fun {b o} e k z => by
    rw [z, h.be] at e
    exact k _ (Option.some.inj e).symm
  refine ⟨same_new h.same (h.new bg (by simp)), ?_, ?_, ?_, ?_, ?_, h.uo, upd_same, bodies_upd hb n6 (fun xs z => by rw [h.be] at z; cases z), nd, fun u hu => ?_⟩
  · rw [upd_ne (nK h.ob (by intro _ z; cases z))]; exact h.ob
  · rw [upd_ne n2]; exact h.he
  · rw [upd_ne n4]; exact h.sa
  · rw [upd_ne (nK h.fi (by intro _ z; cases z))]; exact h.fi
  · rw [upd_ne (nK h.du (by intro _ z; cases z))]; exact h.du
  · simp only [List.mem_cons] at hu
    rcases hu with e | e | e | e | e | e
    · exact h.new u (by simp [e])
    · exact h.new u (by simp [e])
    · exact h.new u (by simp [e])
    · exact h.new u (by simp [e])
    · exact h.new u (by simp [e])
    · exact nw u e
/-- a body is begun: l its copy -/
theorem RunAt.begin {l : Addr} {ws : List V} {ss : Body} (h : RunAt C H0 H a dx d ah sd en us bg bs kvs R) (hl : H l = none) (hw : Paired (StepAt H) ws ss) :
    RunAt C H0 (upd (upd H l (.lst ws)) bg (.lst ((bs ++ [l]).map V.ref))) a dx d ah sd en us bg (bs ++ [l]) kvs { R with begun := R.begun ++ [ss] } := by
  have g := h.grow (same_upd (o := .lst ws) hl)
  have hlb : BodyAt (upd H l (.lst ws)) l ss := ⟨ws, upd_same, L2.Paired.mapP hw fun _ _ z => z.same (same_upd hl)⟩
  refine g.setBg (paired_snoc hlb g.bo) ?_ fun u hu => ?_
  · have n := h.nd
    have e : ah :: sd :: bg :: (bs ++ [l]) = (ah :: sd :: bg :: bs) ++ [l] := rfl
    rw [e]
    refine List.nodup_append.mpr ⟨n, by simp, fun u hu v hv z => ?_⟩
    rw [List.mem_singleton.mp hv] at z
    simp only [List.mem_cons] at hu
    rcases hu with e | e | e | e
    · rw [← z, e, h.he] at hl; cases hl
    · rw [← z, e, h.sa] at hl; cases hl
    · rw [← z, e, h.be] at hl; cases hl
    · obtain ⟨xs, e'⟩ := h.list_not e
      rw [← z, e'] at hl; cases hl
  · rcases List.mem_append.mp hu with hu | hu
    · exact h.new u (by simp [hu])
    · rw [List.mem_singleton.mp hu]; exact h.same.free hl
/-- the last one begun is let go -/
theorem RunAt.unbegin {bs' : List Addr} {b : Addr} {B : List Body} {x : Body} (h : RunAt C H0 H a dx d ah sd en us bg bs kvs R) (e : bs = bs' ++ [b]) (eB : R.begun = B ++ [x]) : RunAt C H0 (upd H bg (.lst (bs'.map V.ref))) a dx d ah sd en us bg bs' kvs { R with begun := B } := by
  have hb := h.bo
  rw [e, eB] at hb
  obtain ⟨m', y, e2, h1, _⟩ := paired_snocL hb
  have e3 : B = m' := List.append_inj_left' e2 rfl
  subst e3
  refine h.setBg h1 ?_ fun u hu => h.new u (by rw [e]; simp [hu])
  have n := h.nd
  rw [e] at n
  have e4 : ah :: sd :: bg :: (bs' ++ [b]) = (ah :: sd :: bg :: bs') ++ [b] := rfl
  rw [e4] at n
  exact (List.nodup_append.mp n).1
/-- steps of the last one begun are taken -/
theorem RunAt.last {bs' : List Addr} {b : Addr} {B : List Body} {x ss : Body} {ws : List V} (h : RunAt C H0 H a dx d ah sd en us bg bs kvs R) (e : bs = bs' ++ [b]) (eB : R.begun = B ++ [x]) (hw : Paired (StepAt H) ws ss) :
    RunAt C H0 (upd H b (.lst ws)) a dx d ah sd en us bg bs kvs { R with begun := B ++ [ss] } := by
  have hbm : b ∈ bs := by rw [e]; simp
  obtain ⟨xs, hbl⟩ := h.list_not hbm
  have kt : ∀ ys, H b ≠ some (.tup ys) := fun ys z => by rw [hbl] at z; cases z
  have nK : ∀ {u : Addr} {o : HO}, H u = some o → (∀ xs, o ≠ .lst xs) → u ≠ b := fun {u o} e k z => by
    rw [z, hbl] at e
    exact k _ (Option.some.inj e).symm
  have n := h.nd
  simp only [List.nodup_cons, List.mem_cons, not_or] at n
  obtain ⟨⟨n1, n2, n3⟩, ⟨n4, n5⟩, n6, n7⟩ := n
  have hb := h.bo
  rw [e, eB] at hb
  obtain ⟨m', y, e2, h1, _⟩ := paired_snocL hb
  have e3 : B = m' := List.append_inj_left' e2 rfl
  subst e3
  have nb : b ∉ bs' := by
    rw [e] at n7
    have := (List.nodup_append.mp n7).2.2
    exact fun z => this b z b (List.mem_singleton.mpr rfl) rfl
  refine ⟨same_new h.same (h.new b (by simp [hbm])), ?_, ?_, ?_, ?_, ?_, h.uo, ?_, ?_, h.nd, h.new⟩
  · rw [upd_ne (nK h.ob (by intro _ z; cases z))]; exact h.ob
  · rw [upd_ne (fun z : ah = b => n3 (by rw [z]; exact hbm))]; exact h.he
  · rw [upd_ne (fun z : sd = b => n5 (by rw [z]; exact hbm))]; exact h.sa
  · rw [upd_ne (nK h.fi (by intro _ z; cases z))]; exact h.fi
  · rw [upd_ne (nK h.du (by intro _ z; cases z))]; exact h.du
  · rw [upd_ne (fun z : bg = b => n6 (by rw [z]; exact hbm))]; exact h.be
  · rw [e]
    refine paired_snoc ⟨ws, upd_same, L2.Paired.mapP hw fun v s ⟨t, e, z⟩ => ⟨t, e, ?_⟩⟩ (bodies_upd h1 nb kt)
    rw [upd_ne (fun y => kt _ (y ▸ z))]; exact z
/-- a word more is used -/
theorem RunAt.useD {w : Str} {v : V} {o : Option Body} (h : RunAt C H0 H a dx d ah sd en us bg bs kvs R) (hn : (valV kvs (Sum.inr w)).isSome = false) (hv : UseAt H0.b (Sum.inr w, v) (w, o)) :
    RunAt C H0 (upd H us (.dK (putK kvs (Sum.inr w) v))) a dx d ah sd en us bg bs (putK kvs (Sum.inr w) v) { R with uses := R.uses ++ [(w, o)] } := by
  have nK : ∀ {b : Addr} {o : HO}, H b = some o → (∀ xs, o ≠ .dK xs) → b ≠ us := fun {b o} e k z => by
    rw [z, h.du] at e
    exact k _ (Option.some.inj e).symm
  have ep : putK kvs (Sum.inr w) v = kvs ++ [(Sum.inr w, v)] := putK_new _ (by
    cases e : valV kvs (Sum.inr w) with
    | none => rfl
    | some x => rw [e] at hn; cases hn)
  refine ⟨same_new h.same (h.new us (by simp)), ?_, ?_, ?_, ?_, upd_same, ?_, ?_, ?_, h.nd, h.new⟩
  · rw [upd_ne (nK h.ob (by intro _ z; cases z))]; exact h.ob
  · rw [upd_ne (nK h.he (by intro _ z; cases z))]; exact h.he
  · rw [upd_ne (nK h.sa (by intro _ z; cases z))]; exact h.sa
  · rw [upd_ne (nK h.fi (by intro _ z; cases z))]; exact h.fi
  · rw [ep]; exact paired_snoc hv h.uo
  · rw [upd_ne (nK h.be (by intro _ z; cases z))]; exact h.be
  · refine bodies_upd h.bo (fun z => ?_) (fun xs z => by rw [h.du] at z; cases z)
    obtain ⟨xs, e⟩ := h.list_not z
    rw [h.du] at e; cases e
end
/-! ### a def of a class, by its name -/
structure MCal (P : Program) (w : World) (K : PySem.W.Frag) (mg : Str → Option Value) (base : Heap) (C : Addr) (m : Str) (k : Nat) (ps : List Str) (sp : Sp) : Prop where
  ex : ∃ f fd, Meth K C m f ∧ FnOk P w K mg base CX0 k f fd ps sp ∧ Binds K fd ps []
section
variable {X : Cx} {C : Addr} {m : Str} {k : Nat} {ps : List Str} {sp : Sp} {apos pos : Pos} {o e : Expr} {es : List Expr} {t : TA} {ta : TE}
theorem pe_mcal {pl : Sem Bool} (M : MCal X.prog X.w X.K X.mg X.base C m k ps sp) (c : Cls X.K C) (he : PE X o ta) (hr : Room k X.A) (ha : PA X (e :: es) t)
    (hst : starEach (e :: es) X.env = (false, eval e X.env) :: starEach es X.env := by rfl) (hpl : (backTo pos (starEach es X.env)).any (·.1) = false := by rfl)
    (ht : eval (.Call (.Attribute o m apos) (e :: es) [] pos) X.env = (do
      let ov ← eval o X.env
      standAt apos.atName
      let (f, first) ← holding [ov] (getMethod ov m pl)
      callWith pos f first (backTo pos (starEach (e :: es) X.env)) (backToKw pos (keywordEach [] X.env))) := by rfl) :
    PE X (.Call (.Attribute o m apos) (e :: es) [] pos) (tMeth C m sp [] E0 ta t) := by
  obtain ⟨f, fd, h1, h2, h3⟩ := M.ex
  exact pe_meth (pl := pl) he c h1 h2 hr h3 .nil pass0 ha hst hpl ht
theorem pe_mcal0 {pl : Sem Bool} (M : MCal X.prog X.w X.K X.mg X.base C m k ps sp) (c : Cls X.K C) (he : PE X o ta) (hr : Room k X.A)
    (ht : eval (.Call (.Attribute o m apos) [] [] pos) X.env = (do
      let ov ← eval o X.env
      standAt apos.atName
      let (f, first) ← holding [ov] (getMethod ov m pl)
      callWith pos f first (backTo pos (starEach [] X.env)) (backToKw pos (keywordEach [] X.env))) := by rfl) :
    PE X (.Call (.Attribute o m apos) [] [] pos) (tMeth C m sp [] E0 ta tNil) := by
  obtain ⟨f, fd, h1, h2, h3⟩ := M.ex
  exact pe_meth0 (pl := pl) he c h1 h2 hr h3 .nil pass0 ht
end
end MG

set_option Elab.async false
set_option linter.all false
set_option maxRecDepth 100000
namespace MG
open PySem PySem.Spec PyProof.Rows L2
/-! ### displays within displays: what is spliced, without looking into the parts -/
theorem star_tup (es : List Expr) (k : Nat) (p : Pos) (rest : List Expr) (env : Env) : starEach (.Tuple es k p :: rest) env = (false, eval (.Tuple es k p) env) :: starEach rest env := rfl
theorem star_lst (es : List Expr) (p : Pos) (rest : List Expr) (env : Env) : starEach (.List es p :: rest) env = (false, eval (.List es p) env) :: starEach rest env := rfl
section
variable {X : Cx}
theorem pa_consT {es rest : List Expr} {k : Nat} {p : Pos} {te : TE} {t : TA} (ha : PE X (.Tuple es k p) te) (hr : PA X rest t) : PA X (.Tuple es k p :: rest) (tCons te t) := pa_cons ha hr (star_tup ..)
theorem pa_consL {es rest : List Expr} {p : Pos} {te : TE} {t : TA} (ha : PE X (.List es p) te) (hr : PA X rest t) : PA X (.List es p :: rest) (tCons te t) := pa_cons ha hr (star_lst ..)
end
end MG

set_option Elab.async false
set_option linter.all false
set_option maxRecDepth 100000
namespace MG
open PySem PySem.Spec PyProof.Rows L2
def top (i : Nat) : Stmt := PySem.Challenge.pw_midstride_k31_refused_calls.main.body.getD i (.Pass ⟨0, 0, 0, 0⟩)
abbrev s_is_number : Stmt := top 21
abbrev N_is_number : List Str := ["thing"]
theorem sc_is_number : FnScope N_is_number ["thing"] (defScope s_is_number) := ⟨rfl, rfl, rfl, by decide +kernel, rfl, by decide +kernel, by decide +kernel⟩
abbrev s_is_word : Stmt := top 22
abbrev N_is_word : List Str := ["thing"]
theorem sc_is_word : FnScope N_is_word ["thing"] (defScope s_is_word) := ⟨rfl, rfl, rfl, by decide +kernel, rfl, by decide +kernel, by decide +kernel⟩
abbrev s_is_step : Stmt := top 23
abbrev N_is_step : List Str := ["thing", "name", "part"]
theorem sc_is_step : FnScope N_is_step ["thing"] (defScope s_is_step) := ⟨rfl, rfl, rfl, by decide +kernel, rfl, by decide +kernel, by decide +kernel⟩
abbrev s_is_steps : Stmt := top 24
abbrev N_is_steps : List Str := ["thing"]
theorem sc_is_steps : FnScope N_is_steps ["thing"] (defScope s_is_steps) := ⟨rfl, rfl, rfl, by decide +kernel, rfl, by decide +kernel, by decide +kernel⟩
abbrev s_is_body : Stmt := top 25
abbrev N_is_body : List Str := ["thing"]
theorem sc_is_body : FnScope N_is_body ["thing"] (defScope s_is_body) := ⟨rfl, rfl, rfl, by decide +kernel, rfl, by decide +kernel, by decide +kernel⟩
abbrev s_is_book : Stmt := top 26
abbrev N_is_book : List Str := ["thing", "words", "word", "body"]
theorem sc_is_book : FnScope N_is_book ["thing"] (defScope s_is_book) := ⟨rfl, rfl, rfl, by decide +kernel, rfl, by decide +kernel, by decide +kernel⟩
abbrev s_has_word : Stmt := top 27
abbrev N_has_word : List Str := ["thing"]
theorem sc_has_word : FnScope N_has_word ["thing"] (defScope s_has_word) := ⟨rfl, rfl, rfl, by decide +kernel, rfl, by decide +kernel, by decide +kernel⟩
abbrev s_has_body : Stmt := top 28
abbrev N_has_body : List Str := ["thing"]
theorem sc_has_body : FnScope N_has_body ["thing"] (defScope s_has_body) := ⟨rfl, rfl, rfl, by decide +kernel, rfl, by decide +kernel, by decide +kernel⟩
abbrev s_need_book : Stmt := top 29
abbrev N_need_book : List Str := ["book"]
theorem sc_need_book : FnScope N_need_book ["book"] (defScope s_need_book) := ⟨rfl, rfl, rfl, by decide +kernel, rfl, by decide +kernel, by decide +kernel⟩
abbrev s_bodies_of : Stmt := top 30
abbrev N_bodies_of : List Str := ["book", "word", "body"]
theorem sc_bodies_of : FnScope N_bodies_of ["book"] (defScope s_bodies_of) := ⟨rfl, rfl, rfl, by decide +kernel, rfl, by decide +kernel, by decide +kernel⟩
abbrev s_copied : Stmt := top 31
abbrev N_copied : List Str := ["pairs", "word", "body"]
theorem sc_copied : FnScope N_copied ["pairs"] (defScope s_copied) := ⟨rfl, rfl, rfl, by decide +kernel, rfl, by decide +kernel, by decide +kernel⟩
abbrev s_is_heard : Stmt := top 36
abbrev N_is_heard : List Str := ["thing"]
theorem sc_is_heard : FnScope N_is_heard ["thing"] (defScope s_is_heard) := ⟨rfl, rfl, rfl, by decide +kernel, rfl, by decide +kernel, by decide +kernel⟩
abbrev s_is_strength : Stmt := top 37
abbrev N_is_strength : List Str := ["thing"]
theorem sc_is_strength : FnScope N_is_strength ["thing"] (defScope s_is_strength) := ⟨rfl, rfl, rfl, by decide +kernel, rfl, by decide +kernel, by decide +kernel⟩
abbrev s_is_call : Stmt := top 38
abbrev N_is_call : List Str := ["thing", "word", "in_hand", "heard", "strength"]
theorem sc_is_call : FnScope N_is_call ["thing"] (defScope s_is_call) := ⟨rfl, rfl, rfl, by decide +kernel, rfl, by decide +kernel, by decide +kernel⟩
abbrev s_checked_call : Stmt := top 39
abbrev N_checked_call : List Str := ["call", "word", "in_hand", "heard", "strength"]
theorem sc_checked_call : FnScope N_checked_call ["call"] (defScope s_checked_call) := ⟨rfl, rfl, rfl, by decide +kernel, rfl, by decide +kernel, by decide +kernel⟩
abbrev s_plain_run : Stmt := top 43
abbrev N_plain_run : List Str := ["book", "call", "runner"]
theorem sc_plain_run : FnScope N_plain_run ["book", "call"] (defScope s_plain_run) := ⟨rfl, rfl, rfl, by decide +kernel, rfl, by decide +kernel, by decide +kernel⟩
abbrev s_run : Stmt := top 44
abbrev N_run : List Str := ["book", "call", "runner"]
theorem sc_run : FnScope N_run ["book", "call"] (defScope s_run) := ⟨rfl, rfl, rfl, by decide +kernel, rfl, by decide +kernel, by decide +kernel⟩
abbrev s_used : Stmt := top 45
abbrev N_used : List Str := ["book", "call"]
theorem sc_used : FnScope N_used ["book", "call"] (defScope s_used) := ⟨rfl, rfl, rfl, by decide +kernel, rfl, by decide +kernel, by decide +kernel⟩
abbrev s_steps_of : Stmt := top 46
abbrev N_steps_of : List Str := ["book", "call"]
theorem sc_steps_of : FnScope N_steps_of ["book", "call"] (defScope s_steps_of) := ⟨rfl, rfl, rfl, by decide +kernel, rfl, by decide +kernel, by decide +kernel⟩
abbrev s_law_kinds : Stmt := top 48
abbrev N_law_kinds : List Str := ["_law_error", "_law_found"]
theorem sc_law_kinds : FnScope N_law_kinds ["_law_error"] (defScope s_law_kinds) := ⟨rfl, rfl, rfl, by decide +kernel, rfl, by decide +kernel, by decide +kernel⟩
abbrev s_law_told_refusal : Stmt := top 49
abbrev N_law_told_refusal : List Str := ["_law_ask", "_law_thing", "_law_error"]
theorem sc_law_told_refusal : FnScope N_law_told_refusal ["_law_ask", "_law_thing"] (defScope s_law_told_refusal) := ⟨rfl, rfl, rfl, by decide +kernel, rfl, by decide +kernel, by decide +kernel⟩
abbrev s_law_all_refused : Stmt := top 50
abbrev N_law_all_refused : List Str := ["_law_ask", "_law_things", "_law_which", "_law_due", "_law_at", "_law_thing"]
theorem sc_law_all_refused : FnScope N_law_all_refused ["_law_ask", "_law_things", "_law_which"] (defScope s_law_all_refused) := ⟨rfl, rfl, rfl, by decide +kernel, rfl, by decide +kernel, by decide +kernel⟩
abbrev s_law_bad_words : Stmt := top 51
abbrev N_law_bad_words : List Str := ["_law_far", "_law_found"]
theorem sc_law_bad_words : FnScope N_law_bad_words ["_law_far"] (defScope s_law_bad_words) := ⟨rfl, rfl, rfl, by decide +kernel, rfl, by decide +kernel, by decide +kernel⟩
abbrev s_law_bad_steps : Stmt := top 52
abbrev N_law_bad_steps : List Str := ["_law_far", "_law_found"]
theorem sc_law_bad_steps : FnScope N_law_bad_steps ["_law_far"] (defScope s_law_bad_steps) := ⟨rfl, rfl, rfl, by decide +kernel, rfl, by decide +kernel, by decide +kernel⟩
abbrev s_law_bad_bodies : Stmt := top 53
abbrev N_law_bad_bodies : List Str := ["_law_far", "_law_found", "_law_at", "_law_step", "_law_good"]
theorem sc_law_bad_bodies : FnScope N_law_bad_bodies ["_law_far"] (defScope s_law_bad_bodies) := ⟨rfl, rfl, rfl, by decide +kernel, rfl, by decide +kernel, by decide +kernel⟩
abbrev s_law_bad_books : Stmt := top 54
abbrev N_law_bad_books : List Str := ["_law_far", "_law_found", "_law_word", "_law_body"]
theorem sc_law_bad_books : FnScope N_law_bad_books ["_law_far"] (defScope s_law_bad_books) := ⟨rfl, rfl, rfl, by decide +kernel, rfl, by decide +kernel, by decide +kernel⟩
abbrev s_law_bad_calls : Stmt := top 55
abbrev N_law_bad_calls : List Str := ["_law_far", "_law_found", "_law_word", "_law_one"]
theorem sc_law_bad_calls : FnScope N_law_bad_calls ["_law_far"] (defScope s_law_bad_calls) := ⟨rfl, rfl, rfl, by decide +kernel, rfl, by decide +kernel, by decide +kernel⟩
abbrev s_law : Stmt := top 56
abbrev N_law : List Str := ["_law_script", "_law_far", "_law_books", "_law_good", "_law_calls", "_law_great", "_law_cell"]
theorem sc_law : FnScope N_law ["_law_script"] (defScope s_law) := ⟨rfl, rfl, rfl, by decide +kernel, rfl, by decide +kernel, by decide +kernel⟩
abbrev s_Runner_init : Stmt := inClass (top 41) 0
abbrev N_Runner_init : List Str := ["self", "bodies", "call", "word", "in_hand", "heard", "strength"]
theorem sc_Runner_init : FnScope N_Runner_init ["self", "bodies", "call"] (defScope s_Runner_init) := ⟨rfl, rfl, rfl, by decide +kernel, rfl, by decide +kernel, by decide +kernel⟩
abbrev s_Runner_take_step : Stmt := inClass (top 41) 2
abbrev N_Runner_take_step : List Str := ["self", "before", "step"]
theorem sc_Runner_take_step : FnScope N_Runner_take_step ["self"] (defScope s_Runner_take_step) := ⟨rfl, rfl, rfl, by decide +kernel, rfl, by decide +kernel, by decide +kernel⟩
abbrev s_Runner_act : Stmt := inClass (top 41) 3
abbrev N_Runner_act : List Str := ["self", "step", "name"]
theorem sc_Runner_act : FnScope N_Runner_act ["self", "step"] (defScope s_Runner_act) := ⟨rfl, rfl, rfl, by decide +kernel, rfl, by decide +kernel, by decide +kernel⟩
abbrev s_Runner_hear : Stmt := inClass (top 41) 4
abbrev N_Runner_hear : List Str := ["self"]
theorem sc_Runner_hear : FnScope N_Runner_hear ["self"] (defScope s_Runner_hear) := ⟨rfl, rfl, rfl, by decide +kernel, rfl, by decide +kernel, by decide +kernel⟩
abbrev s_Runner_use : Stmt := inClass (top 41) 5
abbrev N_Runner_use : List Str := ["self", "word", "body"]
theorem sc_Runner_use : FnScope N_Runner_use ["self", "word"] (defScope s_Runner_use) := ⟨rfl, rfl, rfl, by decide +kernel, rfl, by decide +kernel, by decide +kernel⟩
abbrev s_Runner_settle : Stmt := inClass (top 41) 6
abbrev N_Runner_settle : List Str := ["self"]
theorem sc_Runner_settle : FnScope N_Runner_settle ["self"] (defScope s_Runner_settle) := ⟨rfl, rfl, rfl, by decide +kernel, rfl, by decide +kernel, by decide +kernel⟩
abbrev s_Runner_told_uses : Stmt := inClass (top 41) 8
abbrev N_Runner_told_uses : List Str := ["self"]
theorem sc_Runner_told_uses : FnScope N_Runner_told_uses ["self"] (defScope s_Runner_told_uses) := ⟨rfl, rfl, rfl, by decide +kernel, rfl, by decide +kernel, by decide +kernel⟩
end MG

set_option Elab.async false
set_option linter.all false
set_option maxRecDepth 100000
namespace L2
open PySem PySem.Spec PyProof.Rows

theorem ObjOk.has {P : Program} {w : World} {H : Hp} {h : Heap} {a : Addr} {o : HO} (x : ObjOk P w H h a o) : ∃ u, h.get? a = some u := by
  cases o with
  | lst xs => obtain ⟨_, _, _, _, e⟩ := x; exact ⟨_, e⟩
  | tup xs => obtain ⟨_, _, _, ob, e, _⟩ := x; exact ⟨_, e⟩
  | dK kvs => obtain ⟨_, _, _, _, ob, _, _, e, _⟩ := x; exact ⟨_, e⟩
  | dT kvs => obtain ⟨_, _, _, _, ob, _, _, e, _⟩ := x; exact ⟨_, e⟩
  | set S n => obtain ⟨ob, _, _, _, e, _⟩ := x; exact ⟨_, e⟩
  | ins C dx fs => obtain ⟨_, _, _, e, _⟩ := x; exact ⟨_, e⟩
  | own y => exact x
  | xd fs => obtain ⟨_, ⟨ob, _, _, e, _⟩, _⟩ := x; exact ⟨_, e⟩
  | rng lo hi => obtain ⟨_, _, _, e⟩ := x; exact ⟨_, e⟩
  | frz ob u => exact ⟨_, x.1⟩
  | tbl ps => exact ⟨_, x⟩
  | met f y => exact ⟨_, x⟩
  | ext φ => exact x.2.1

/-- an exception in flight: its object, its trace entry; both are not tracked, and neither stood in h0 -/
structure Aloft (h0 : Heap) (H : Hp) (ea : Addr) (C : Value) (h : Heap) : Prop where
  at' : ∃ oe vs a0 T oT ts, h.get? ea = some oe ∧ oe.cls = C ∧ oe.data = .fields vs ∧ vs[0]? = some a0 ∧ vs[1]? = some (.ref T) ∧ T ≠ ea ∧ h.get? T = some oT ∧ oT.data = .fields ts ∧ ts[3]? = some .none ∧ h0.get? T = none ∧ H T = none
  new : h0.get? ea = none
  free : H ea = none

/-- how an exception lies behind a call that it left -/
def CXE (P : Program) (w : World) : CXT := fun outer H s E e s' => ∃ ea C H', e = .ref ea ∧ s'.os = s.os ∧ AllBare s'.gens ∧ Un (frs outer) [] H H' s.heap s'.heap ∧ HOk P w H' s'.heap ∧ Aloft s.heap H' ea C s'.heap ∧ E C none H'

/-- the frames of a list, all -/
theorem frs_mem {l : List Env} {env : Env} {a : Addr} (he : env ∈ l) (hf : env.frame = some a) : a ∈ frs l := List.mem_filterMap.mpr ⟨env, he, hf⟩
/-- frames stay frames where their slots alone change -/
theorem funs_slot {h h' base : Heap} : ∀ {l : List Env}, h.FunFrames base l → (∀ b ∈ frs l, ∀ o, h.get? b = some o → ∃ sl, h'.get? b = some { o with slots := sl }) → h'.FunFrames base l
  | [], _, _ => trivial
  | env :: r, ⟨hk, ⟨L, o, hf, hn, ho, hd⟩, hr⟩, k => by
    obtain ⟨sl, e⟩ := k L (frs_mem (List.mem_cons_self) hf) o ho
    refine ⟨hk, ⟨L, _, hf, hn, e, hd⟩, funs_slot hr fun b hb => k b ?_⟩
    obtain ⟨v, hv, hvf⟩ := List.mem_filterMap.mp hb
    exact List.mem_filterMap.mpr ⟨v, List.mem_cons_of_mem _ hv, hvf⟩

/-- all but the frames, the error and its entry, as a base -/
def skyB (h : Heap) (l : List Env) (ea T : Addr) : Heap := PySem.W.hideAll h (ea :: T :: frs l)
theorem skyB_get {h : Heap} {l : List Env} {ea T b : Addr} {o : Obj} (e : h.get? b = some o) (h1 : b ≠ ea) (h2 : b ≠ T) (h3 : b ∉ frs l) : (skyB h l ea T).get? b = some o :=
  PySem.W.hideAll_get _ e fun m => by
    rcases List.mem_cons.mp m with z | m
    · exact h1 z
    · rcases List.mem_cons.mp m with z | m
      · exact h2 z
      · exact h3 m
theorem skyB_of {h : Heap} {l : List Env} {ea T b : Addr} {o : Obj} (e : (skyB h l ea T).get? b = some o) : h.get? b = some o := PySem.W.of_hideAll _ e
theorem skyB_none {h : Heap} {l : List Env} {ea T b : Addr} (e : (skyB h l ea T).get? b = none) : h.get? b = none ∨ b = ea ∨ b = T ∨ b ∈ frs l := by
  cases q : h.get? b with
  | none => exact .inl rfl
  | some o =>
    refine .inr ?_
    by_cases h1 : b = ea
    · exact .inl h1
    · by_cases h2 : b = T
      · exact .inr (.inl h2)
      · by_cases h3 : b ∈ frs l
        · exact .inr (.inr h3)
        · rw [skyB_get q h1 h2 h3] at e; cases e
theorem skyB_funs {h base : Heap} {l : List Env} {ea T : Addr} (f : h.FunFrames base l) : h.FunFrames (skyB h l ea T) l :=
  PySem.W.funFrames_hide f fun env he a hf => List.mem_cons_of_mem _ (List.mem_cons_of_mem _ (frs_mem he hf))

/-- it flies over that base -/
theorem Aloft.fly {h0 h base : Heap} {H : Hp} {ea : Addr} {C : Value} {l : List Env} (a : Aloft h0 H ea C h) (f : h.FunFrames base l) : ∃ T a0, T ≠ ea ∧ h0.get? T = none ∧ H T = none ∧ Heap.FlyingW (skyB h l ea T) l ea C a0 h := by
  obtain ⟨oe, vs, a0, T, oT, ts, e1, e2, e3, e4, e5, e6, e7, e8, e9, e10, e11⟩ := a.at'
  refine ⟨T, a0, e6, e10, e11, fun b o q => skyB_of q, PySem.W.hideAll_none _ List.mem_cons_self, skyB_funs f, oe, vs, T, oT, ts, e1, ⟨e2, e4⟩, e3, e5, ?_, e6, e7, e8, e9⟩
  exact PySem.W.hideAll_none _ (List.mem_cons_of_mem _ List.mem_cons_self)

/-- behind a note in it: what stands in g0, but the frames, is kept -/
theorem fly_back {h h' base h0 : Heap} {l l' : List Env} {ea T : Addr} {C a0 : Value} {H : Hp} (x : Heap.FlyingW (skyB h l ea T) l' ea C a0 h') (sm : h.UpToSlots h') (f : h.FunFrames base l)
    (ne : h0.get? ea = none) (nT : h0.get? T = none) (sub : ∀ b o, h0.get? b = some o → ∃ o', h.get? b = some o') (hk : ∀ b o, H b = some o → h.get? b ≠ none) (hE : H ea = none) (hT : H T = none) (hF : ∀ b ∈ frs l, H b = none) : Aloft h0 H ea C h' := by
  obtain ⟨k1, k2, k3, oe, vs, T', oT, ts, a1, ⟨a2, a3⟩, a4, a5, a6, a7, a8, a9, a10⟩ := x
  have nofr : ∀ b ∈ frs l, b ≠ T' := fun b hb z => by
    subst z
    obtain ⟨_, o, ho, hd⟩ := f.mem hb
    obtain ⟨sl, e⟩ := sm b o ho hd
    rw [a8] at e; cases e; exact hd ts a9
  refine ⟨⟨oe, vs, a0, T', oT, ts, a1, a2, a4, a3, a5, a7, a8, a9, a10, ?_, ?_⟩, ne, hE⟩
  · cases q : h0.get? T' with
    | none => rfl
    | some o =>
      obtain ⟨o', e'⟩ := sub T' o q
      rcases skyB_none a6 with z | z | z | z
      · rw [e'] at z; cases z
      · exact absurd z a7
      · rw [z, nT] at q; cases q
      · exact absurd rfl (nofr T' z)
  · cases q : H T' with
    | none => rfl
    | some o =>
      rcases skyB_none a6 with z | z | z | z
      · exact absurd z (hk T' o q)
      · exact absurd z a7
      · rw [z, hT] at q; cases q
      · exact absurd rfl (nofr T' z)

/-- a def's body, or a lambda's: an exception leaves its frame -/
structure Fl (X : Cx) (E : XK) : Prop where
  stk : X.stack = X.env :: X.outer
  frm : X.env.frame = some X.env.locals
  ex : X.ex = []
  xe : X.xe = fun e s' => wpAny (model X.prog X.w) X.A (leaving X.env e) (fun _ s'' => CXE X.prog X.w X.outer X.H_0 X.s_0 E e s'') (fun e' s'' => CXE X.prog X.w X.outer X.H_0 X.s_0 E e' s'') s'

section
variable {X : Cx} {E : XK}

/-- the last of it: the exception leaves the frame of a def -/
theorem leave_fly {pins : List (Addr × Obj)} {σ : St} {H H' : Hp} {s s' : Shared} {ea : Addr} {C : Value} (F : Fl X E) (I : Inv X pins σ H s)
    (os : s'.os = s.os) (bare : AllBare s'.gens) (un : Un (frs (X.env :: X.outer)) [] H H' s.heap s'.heap) (hok : HOk X.prog X.w H' s'.heap) (al : Aloft s.heap H' ea C s'.heap) (hE : E C none H') :
    X.xe (.ref ea) s' := by
  rw [F.xe]
  show wpAny (model X.prog X.w) X.A (leaving X.env (.ref ea)) _ _ s'
  have fs : s.heap.FunFrames X.base (X.env :: X.outer) := by rw [← F.stk]; exact I.stack
  have fr0 : ∀ b ∈ frs (X.env :: X.outer), H b = none := by rw [← F.stk]; exact I.stkFree
  have fs' : s'.heap.FunFrames X.base (X.env :: X.outer) := funs_slot fs fun b hb o e => un.slot b o e (fr0 b hb) hb (by simp)
  have frN : ∀ b ∈ frs (X.env :: X.outer), H' b = none := fun b hb => by
    obtain ⟨_, o, ho, _⟩ := fs.mem hb
    exact un.free b o ho (fr0 b hb) (by simp)
  obtain ⟨T, a0, n1, n2, n3, fl⟩ := al.fly fs'
  have frames : X.A.frames = some (X.env :: X.outer) := by rw [← F.stk]; exact I.ok.frames
  refine wpAny_leaves_onW (L := X.env.locals) frames F.frm fl fun h2 fl2 sm => ?_
  have al2 : Aloft X.s_0.heap H' ea C h2 := by
    have sub0 : ∀ b o, X.s_0.heap.get? b = some o → ∃ o', s.heap.get? b = some o' := fun b o e => I.base.there b o e (by rw [F.ex]; exact fun z => nomatch z)
    refine fly_back (h0 := X.s_0.heap) fl2 sm fs' ?_ ?_ (fun b o e => ?_) (fun b o e z => ?_) al.free n3 frN
    · cases q : X.s_0.heap.get? ea with
      | none => rfl
      | some o =>
        obtain ⟨o', e'⟩ := sub0 ea o q
        rw [al.new] at e'; cases e'
    · cases q : X.s_0.heap.get? T with
      | none => rfl
      | some o =>
        obtain ⟨o', e'⟩ := sub0 T o q
        rw [n2] at e'; cases e'
    · obtain ⟨o', e'⟩ := sub0 b o e
      exact un.there b o' e' (by simp)
    · obtain ⟨u, hu⟩ := (hok b o e).has
      rw [hu] at z; cases z
  have kp : ∀ b o, s'.heap.get? b = some o → b ≠ ea → b ≠ T → b ∉ frs (X.env :: X.outer) → h2.get? b = some o := fun b o e c1 c2 c3 => fl2.1 b o (skyB_get e c1 c2 c3)
  have neE : ∀ b o, s.heap.get? b = some o → b ≠ ea ∧ b ≠ T := fun b o e => ⟨fun z => (by rw [z, al.new] at e; cases e), fun z => (by rw [z, n2] at e; cases e)⟩
  have inF : ∀ b, b ∈ frs (X.env :: X.outer) → b = X.env.locals ∨ b ∈ frs X.outer := fun b hb => List.mem_cons.mp (I.stkSub b (by rw [F.stk]; exact hb))
  have hok2 : HOk X.prog X.w H' h2 := fun b o e => (hok b o e).stay (fun c v hc q => by
      have tr : H' c ≠ none := by
        rcases hc with z | z
        · rw [z, e]; exact fun y => nomatch y
        · rw [z]; exact fun y => nomatch y
      exact kp c v q (fun z => tr (z ▸ al.free)) (fun z => tr (z ▸ n3)) fun z => tr (frN c z)) (fun _ q => q) fun _ _ q => q
  have hun : Un (frs X.outer) [] X.H_0 H' X.s_0.heap h2 := by
    have nx : ∀ b : Addr, b ∉ X.ex := fun b z => by rw [F.ex] at z; exact nomatch z
    have ne0 : ∀ b o, X.s_0.heap.get? b = some o → b ≠ X.env.locals := fun b o e => Nat.ne_of_lt (Nat.lt_of_lt_of_le (Heap.lt_size e) I.ok.above)
    refine ⟨fun b o e n hb hx => ?_, fun b o e n hb hx => ?_, fun b o e n hx => ?_, fun b o e hx => ?_, fun b xs e => un.tups b xs (I.base.tups b xs e), fun b o u e => un.frzs b o u (I.base.frzs b o u e), fun b ps e => ?_⟩
    · have e1 := I.base.keep b o e n hb (nx b)
      have f1 := I.base.free b o e n (nx b)
      have nf : b ∉ frs (X.env :: X.outer) := fun z => (inF b z).elim (ne0 b o e) hb
      exact kp b o (un.keep b o e1 f1 nf (by simp)) (neE b o e1).1 (neE b o e1).2 nf
    · obtain ⟨sl1, e1⟩ := I.base.slot b o e n hb (nx b)
      have f1 := I.base.free b o e n (nx b)
      obtain ⟨sl2, e2⟩ := un.any e1 f1 (by simp)
      have hd : ∀ vs, o.data ≠ .fields vs := by
        obtain ⟨_, o', ho', hd'⟩ := I.ok.funs.mem hb
        have ho'' : X.s_0.heap.get? b = some o' := ho'
        rw [e] at ho''; cases ho''; exact hd'
      obtain ⟨sl3, e3⟩ := sm b _ e2 hd
      exact ⟨sl3, e3⟩
    · obtain ⟨o1, e1⟩ := I.base.there b o e (nx b)
      exact un.free b o1 e1 (I.base.free b o e n (nx b)) (by simp)
    · obtain ⟨o1, e1⟩ := I.base.there b o e (nx b)
      obtain ⟨o2, e2⟩ := un.there b o1 e1 (by simp)
      by_cases hF : b ∈ frs (X.env :: X.outer)
      · obtain ⟨_, o', ho', hd'⟩ := fs'.mem hF
        obtain ⟨sl3, e3⟩ := sm b o' ho' hd'
        exact ⟨_, e3⟩
      · exact ⟨o2, kp b o2 e2 (neE b o1 e1).1 (neE b o1 e1).2 hF⟩
    · obtain ⟨m1, e1⟩ := I.base.tbls b ps e
      obtain ⟨m2, e2⟩ := un.tbls b _ e1
      exact ⟨m1 ++ m2, by rw [e2, Array.append_assoc]⟩
  exact ⟨ea, C, H', rfl, os.trans I.os, bare, hun, hok2, al2, hE⟩

/-- an exception of a callee leaves the frame, too -/
theorem passE (F : Fl X E) : Passes (CXE X.prog X.w) X E := fun pins σ H s e s' I h => by
  obtain ⟨ea, C, H', rfl, os, bare, un, hok, al, hE⟩ := h
  exact leave_fly F I os bare (by rw [← F.stk]; exact un) hok al hE
end
end L2

set_option Elab.async false
set_option linter.all false
set_option maxRecDepth 100000
namespace L2
open PySem PySem.Spec PyProof.Rows

section
variable {X : Cx} {E : XK}

/-- what was kept since a point within a def, kept since its entry -/
theorem un_out {pins : List (Addr × Obj)} {σ : St} {H H' : Hp} {s : Shared} {h2 : Heap} (F : Fl X E) (I : Inv X pins σ H s)
    (un : Un (frs (X.env :: X.outer)) [] H H' s.heap h2) : Un (frs X.outer) [] X.H_0 H' X.s_0.heap h2 := by
  have nx : ∀ b : Addr, b ∉ X.ex := fun b z => by rw [F.ex] at z; exact nomatch z
  have ne0 : ∀ b o, X.s_0.heap.get? b = some o → b ≠ X.env.locals := fun b o e => Nat.ne_of_lt (Nat.lt_of_lt_of_le (Heap.lt_size e) I.ok.above)
  have inF : ∀ b, b ∈ frs (X.env :: X.outer) → b = X.env.locals ∨ b ∈ frs X.outer := fun b hb => List.mem_cons.mp (I.stkSub b (by rw [F.stk]; exact hb))
  refine ⟨fun b o e n hb hx => ?_, fun b o e n hb hx => ?_, fun b o e n hx => ?_, fun b o e hx => ?_, fun b xs e => un.tups b xs (I.base.tups b xs e), fun b o u e => un.frzs b o u (I.base.frzs b o u e), fun b ps e => ?_⟩
  · exact un.keep b o (I.base.keep b o e n hb (nx b)) (I.base.free b o e n (nx b)) (fun z => (inF b z).elim (ne0 b o e) hb) (by simp)
  · obtain ⟨sl1, e1⟩ := I.base.slot b o e n hb (nx b)
    obtain ⟨sl2, e2⟩ := un.any e1 (I.base.free b o e n (nx b)) (by simp)
    exact ⟨sl2, e2⟩
  · obtain ⟨o1, e1⟩ := I.base.there b o e (nx b)
    exact un.free b o1 e1 (I.base.free b o e n (nx b)) (by simp)
  · obtain ⟨o1, e1⟩ := I.base.there b o e (nx b)
    exact un.there b o1 e1 (by simp)
  · obtain ⟨m1, e1⟩ := I.base.tbls b ps e
    obtain ⟨m2, e2⟩ := un.tbls b _ e1
    exact ⟨m1 ++ m2, by rw [e2, Array.append_assoc]⟩

/-- a new exception leaves the frame of the def that raises it -/
theorem leave_made {pins : List (Addr × Obj)} {σ : St} {H : Hp} {s : Shared} {h1 : Heap} {ea : Addr} {C : Value} {us : List Value} (F : Fl X E) (I : Inv X pins σ H s)
    (mk : Heap.MadeExcOf s.heap h1 ea C us) (hE : E C none H) :
    X.xe (.ref ea) { s with heap := h1 } := by
  rw [F.xe]
  show wpAny (model X.prog X.w) X.A (leaving X.env (.ref ea)) _ _ _
  have fs : s.heap.FunFrames X.base (X.env :: X.outer) := by rw [← F.stk]; exact I.stack
  have fr0 : ∀ b ∈ frs (X.env :: X.outer), H b = none := by rw [← F.stk]; exact I.stkFree
  have frames : X.A.frames = some (X.env :: X.outer) := by rw [← F.stk]; exact I.ok.frames
  have hidF : s.heap.FunFrames (PySem.W.hideAll s.heap (frs (X.env :: X.outer))) (X.env :: X.outer) :=
    PySem.W.funFrames_hide fs fun env he a hf => frs_mem he hf
  refine wpAny_leaves_madeW (L := X.env.locals) (h := s.heap) frames F.frm (fun b o q => PySem.W.of_hideAll _ q) hidF mk fun h2 t fl tup nt sm => ?_
  have kp : ∀ b o, s.heap.get? b = some o → b ∉ frs (X.env :: X.outer) → h2.get? b = some o := fun b o e nf => fl.1 b o (PySem.W.hideAll_get _ e nf)
  have sl : ∀ b ∈ frs (X.env :: X.outer), ∀ o, s.heap.get? b = some o → ∃ sl, h2.get? b = some { o with slots := sl } := fun b hb o e => by
    obtain ⟨_, o', ho', hd'⟩ := fs.mem hb
    rw [e] at ho'; cases ho'
    exact sm b o (mk.keeps b o e) hd'
  have hun : Un (frs (X.env :: X.outer)) [] H H s.heap h2 := ⟨fun b o e _ hb _ => kp b o e hb, fun b o e _ hb _ => sl b hb o e, fun b o e n _ => n, fun b o e _ => by
      by_cases hF : b ∈ frs (X.env :: X.outer)
      · obtain ⟨_, q⟩ := sl b hF o e; exact ⟨_, q⟩
      · exact ⟨o, kp b o e hF⟩, fun _ _ e => e, fun _ _ _ e => e, fun b ps e => ⟨#[], by rw [e]; simp⟩⟩
  have hok : HOk X.prog X.w H h2 := fun b o e => (I.hok b o e).stay (fun c v hc q => by
      have tr : H c ≠ none := by
        rcases hc with z | z
        · rw [z, e]; exact fun y => nomatch y
        · rw [z]; exact fun y => nomatch y
      exact kp c v q fun z => tr (fr0 c z)) (fun _ q => q) fun _ _ q => q
  have sub0 : ∀ b, s.heap.get? b = none → X.s_0.heap.get? b = none := fun b e => by
    cases q : X.s_0.heap.get? b with
    | none => rfl
    | some o =>
      obtain ⟨o', e'⟩ := I.base.there b o q (by rw [F.ex]; exact fun z => nomatch z)
      rw [e] at e'; cases e'
  have subH : ∀ b, s.heap.get? b = none → H b = none := fun b e => by
    cases q : H b with
    | none => rfl
    | some o =>
      obtain ⟨u, hu⟩ := (I.hok b o q).has
      rw [e] at hu; cases hu
  refine ⟨ea, C, H, rfl, I.os, I.bare, un_out F I hun, hok, ?_, hE⟩
  obtain ⟨k1, k2, k3, oe, vs, T', oT, ts, a1, ⟨a2, a3⟩, a4, a5, a6, a7, a8, a9, a10⟩ := fl
  have nT : s.heap.get? T' = none := by
    cases q : s.heap.get? T' with
    | none => rfl
    | some o =>
      by_cases hF : T' ∈ frs (X.env :: X.outer)
      · obtain ⟨_, o', ho', hd'⟩ := fs.mem hF
        obtain ⟨_, e'⟩ := sl T' hF o' ho'
        rw [a8] at e'; cases e'; exact absurd a9 (hd' ts)
      · rw [PySem.W.hideAll_get _ q hF] at a6; cases a6
  exact ⟨⟨oe, vs, _, T', oT, ts, a1, a2, a4, a3, a5, a7, a8, a9, a10, sub0 T' nT, subH T' nT⟩, sub0 ea mk.new, subH ea mk.new⟩
end

/-- what stands behind ValueError -/
abbrev veL : List Value := [.type "ValueError", .type "Exception", .type "BaseException", .type "object"]
/-- a class of errors of the program's own, over ValueError -/
structure Exc (K : PySem.W.Frag) (C : Addr) : Prop where
  is : PySem.W.excIn K C veL "ValueError.__new__" = true
theorem Exc.obj {K : PySem.W.Frag} {C : Addr} (c : Exc K C) {h : Heap} (X : K.In h) :
    ∃ bm Nn nm q bs hdct sn sub ab col dd k0 k1 k2 k3 k5 mN, h.get? C = some (excClassObj nm q C Nn bs bm hdct sn sub ab col dd k0 k1 k2 k3 k5 "ValueError.__new__") ∧ h.Ns Nn mN ∧ mN "__init__" = none ∧ OwnTail h veL bm := by
  have e := c.is
  unfold PySem.W.excIn at e
  cases hl : K.lookup C with
  | none => rw [hl] at e; cases e
  | some o =>
    rw [hl] at e
    split at e
    · rename_i od cdt slt heq
      cases heq
      split at e
      · rename_i Cx bmx y0 y1 y2 y3 nn y5 hm hsl
        simp only [Bool.and_eq_true, beq_iff_eq, Bool.not_eq_true'] at e
        obtain ⟨⟨⟨⟨⟨g1, g2⟩, g3⟩, g4⟩, g5⟩, g6⟩ := e
        subst g1 g2
        obtain ⟨c1, c2, c3, c4, c5, c6, c7, c8, c9, c10, c11⟩ := cdt
        simp only at hm g3 g5 g6
        subst hm g3
        have hs2 : slt = #[y0, y1, y2, y3, some (.builtin "ValueError.__new__"), y5] := Array.toList_inj.mp hsl
        subst hs2
        exact ⟨bmx, _, _, _, _, _, _, _, _, _, _, y0, y1, y2, y3, y5, _, X _ _ hl, .of_isNs (PySem.W.isNs_of_in X g5), PySem.W.nsMap_none_of_in X g5 g6, PySem.W.tail_of_in X g4⟩
      · cases e
    · cases e

/-- raise C(e, ..): it leaves the def -/
def tRaise (C : Addr) (E : XK) (t : TA) : TS := fun _ σ H => t σ H fun vs H1 => vs.length ≤ sizeLine ∧ E (.ref C) none H1
section
variable {X : Cx} {E : XK}
theorem ps_raise {x : Str} {np cpos pos : Pos} {C : Addr} {e : Expr} {es : List Expr} {t : TA} (F : Fl X E) (hc : X.calm = true) (c : Exc X.K C) (hm : X.mg x = some (.ref C)) (hg : Gl X x) (ha : PA X (e :: es) t)
    (hdb : (x == ("__debug__" : Str)) = false := by decide) (he : starEach (e :: es) X.env = (false, eval e X.env) :: starEach es X.env := by rfl)
    (hpl : (backTo cpos (starEach es X.env)).any (·.1) = false := by rfl) :
    PS X (.Raise (some (.Call (.Name x np) (e :: es) [] cpos)) none pos) (tRaise C E t) := by
  intro pins s σ H D I h
  obtain ⟨bm, Nn, nm, q, bs, hdct, sn, sub, ab, col, dd, k0, k1, k2, k3, k5, mN, hC, hN, hni, T⟩ := c.obj I.ok.mod.kin
  have bmB : bm.contains (.type "BaseException") = true := T.hasType (by decide)
  refine wpAny_Raise_call_subT (C := C) (nm := nm) (q := q) (N := Nn) (bs := bs) (bm := bm) (hdct := hdct) (sn := sn) (sub := sub) (ab := ab) (col := col) (dd := dd) (k0 := k0) (k1 := k1) (k2 := k2) (k3 := k3) (k5 := k5)
    PySem.F.excBase_ValueError (mN := mN) bmB (I.ok.hd hc) (by rw [he]; show (false || (backTo cpos (starEach es _)).any (·.1)) = false; rw [hpl]; rfl) hni (ld_glob I hg hm ⟨rfl, ?_⟩ hdb)
  have q1 := ha cpos pins s σ H _ I h
  rw [he] at q1 ⊢
  refine Calls.evalArgs_plain (wpAny_mono q1 (fun us s2 ⟨vs, H2, I2, r, z, hE⟩ => ?_) fun _ _ y => y)
  exact ⟨rfl, by show us.length ≤ _; rw [← r.length]; exact z, I2.bk _ _ hC, hN.keeps I2.bk, T.keeps I2.bk, fun h' ea mk => leave_made F I2 mk hE⟩

end
section
variable {P : Program} {w : World} {K : PySem.W.Frag} {mg : Str → Option Value} {base : Heap}
theorem fl_of {N : List Str} {qual : Str} {scope : Scope} {f : Addr} {cd : Value} {A : Around} {outer : List Env} {s0 : Shared} {H0 : Hp} {E : XK} : Fl (cxOf (CXE P w) P w K mg base N qual scope f cd A outer s0 H0 E) E := ⟨rfl, rfl, rfl, rfl⟩
/-- a def that may raise: its body as a term of rules -/
theorem Fun.okE {x qual : Str} {st : Stmt} {f : Addr} {fd : FuncData} {N ps : List Str} {k : Nat} {sp : Sp} (F : Fun K x qual st f fd) (S : FnScope N ps (defScope st)) (len : ∀ vs H Q E, sp vs H Q E → vs.length = ps.length)
    (hbody : ∀ (cdv : Value) (A : Around) (outer : List Env) (s : Shared) (H : Hp) (vs : List V) (Q : VK) (E : XK), Room k (A.deeper (envOfC qual (defScope st) s.heap.objs.size f cdv)) → sp vs H Q E →
      ∃ t, PSs (cxOf (CXE P w) P w K mg base N qual (defScope st) f cdv A outer s H E) (defBody st) t ∧ t { nx := fun _ H' => Q .non H', rt := Q } (start N vs) H) : FnOk P w K mg base (CXE P w) (k + 1) f fd ps sp := by
  obtain ⟨oc, od, kV, doc, pm, an, cdv, ct, osl, rfl, lk, hcd⟩ := F.ex
  exact fn_of lk hcd S len fun A outer s H vs Q E hr hsp => hbody cdv A outer s H vs Q E hr hsp
end
end L2

set_option Elab.async false
set_option linter.all false
set_option maxRecDepth 100000
namespace L2
open PySem PySem.Spec PyProof.Rows

/-- behind a note in a flight: all but the frames, the error and its entry are kept -/
theorem fly_un {P : Program} {w : World} {h1 h h2 base : Heap} {l l' : List Env} {H1 H' : Hp} {ea T : Addr} {C a0 : Value} (un : Un (frs l) [] H1 H' h1 h) (hok : HOk P w H' h) (al : Aloft h1 H' ea C h) (fs : h1.FunFrames base l) (fr : ∀ b ∈ frs l, H1 b = none)
    (n2 : h1.get? T = none) (n3 : H' T = none) (fl : Heap.FlyingW (skyB h l ea T) l' ea C a0 h2) (sm : h.UpToSlots h2) : Un (frs l) [] H1 H' h1 h2 ∧ HOk P w H' h2 ∧ Aloft h1 H' ea C h2 := by
  have fs' : h.FunFrames base l := funs_slot fs fun b hb o e => un.slot b o e (fr b hb) hb (by simp)
  have frN : ∀ b ∈ frs l, H' b = none := fun b hb => by
    obtain ⟨_, o, ho, _⟩ := fs.mem hb
    exact un.free b o ho (fr b hb) (by simp)
  have kp : ∀ b o, h.get? b = some o → b ≠ ea → b ≠ T → b ∉ frs l → h2.get? b = some o := fun b o e c1 c2 c3 => fl.1 b o (skyB_get e c1 c2 c3)
  have neE : ∀ b o, h1.get? b = some o → b ≠ ea ∧ b ≠ T := fun b o e => ⟨fun z => (by rw [z, al.new] at e; cases e), fun z => (by rw [z, n2] at e; cases e)⟩
  refine ⟨⟨fun b o e n hb hx => ?_, fun b o e n hb hx => ?_, un.free, fun b o e hx => ?_, un.tups, un.frzs, un.tbls⟩, fun b o e => (hok b o e).stay (fun c v hc q => ?_) (fun _ q => q) (fun _ _ q => q), ?_⟩
  · exact kp b o (un.keep b o e n hb hx) (neE b o e).1 (neE b o e).2 hb
  · obtain ⟨sl, e1⟩ := un.slot b o e n hb hx
    obtain ⟨_, o', ho', hd'⟩ := fs.mem hb
    rw [e] at ho'; cases ho'
    obtain ⟨sl3, e3⟩ := sm b _ e1 hd'
    exact ⟨sl3, e3⟩
  · obtain ⟨o2, e2⟩ := un.there b o e hx
    by_cases hF : b ∈ frs l
    · obtain ⟨_, o', ho', hd'⟩ := fs'.mem hF
      obtain ⟨sl3, e3⟩ := sm b o' ho' hd'
      exact ⟨_, e3⟩
    · exact ⟨o2, kp b o2 e2 (neE b o e).1 (neE b o e).2 hF⟩
  · have tr : H' c ≠ none := by
      rcases hc with z | z
      · rw [z, e]; exact fun y => nomatch y
      · rw [z]; exact fun y => nomatch y
    exact kp c v q (fun z => tr (z ▸ al.free)) (fun z => tr (z ▸ n3)) fun z => tr (frN c z)
  · exact fly_back (h0 := h1) fl sm fs' al.new n2 (fun b o e => un.there b o e (by simp)) (fun b o e z => by
      obtain ⟨u, hu⟩ := (hok b o e).has
      rw [hu] at z; cases z) al.free n3 frN

/-- what is known of a caught error: its class -/
def ErrO (ea : Addr) (C : Value) : HO := .ext fun h => ∃ oe, h.get? ea = some oe ∧ oe.cls = C

/-- the same body with other wishes of exceptions and more pins -/
def Cx.tryX (X : Cx) (pn : List (Addr × Obj)) (xe : Value → Shared → Prop) : Cx := { X with pn := pn, xe := xe }
/-- within an except suite -/
def Cx.mrk (X : Cx) (ea : Addr) : Cx := { X with A := X.A.mark (some (.ref ea)), calm := false, xe := fun _ _ => False }

section
variable {X : Cx} {pins : List (Addr × Obj)} {σ : St} {H H' : Hp} {s : Shared}
theorem Inv.toTry {xe : Value → Shared → Prop} (I : Inv X pins σ H s) : Inv (X.tryX (X.pn ++ pins) xe) [] σ H s :=
  ⟨⟨I.ok.mod, I.ok.kind, I.ok.glob, I.ok.blt, I.ok.above, I.ok.inj, I.ok.has, I.ok.cab, I.ok.hd, I.ok.frames, I.ok.stk, I.ok.exf, I.ok.bs, I.ok.bsz, I.ok.noex, I.ok.exfs, I.ok.funs, I.ok.frf⟩, I.os, I.bare, I.base, I.loc, I.cell, I.free, I.freeC, fun p hp => by
    have hp' : p ∈ (X.pn ++ pins) ++ [] := hp
    rw [List.append_nil] at hp'
    exact I.pin p hp', I.hok, I.len⟩
theorem Inv.ofTry {xe : Value → Shared → Prop} {pins' : List (Addr × Obj)} (ok : X.Ok) (I : Inv (X.tryX (X.pn ++ pins) xe) pins' σ H s) : Inv X pins σ H s :=
  ⟨ok, I.os, I.bare, I.base, I.loc, I.cell, I.free, I.freeC, fun p hp => I.pin p (List.mem_append_left _ hp), I.hok, I.len⟩
theorem Inv.toMrk {ea : Addr} (I : Inv X pins σ H s) : Inv (X.mrk ea) pins σ H s :=
  ⟨⟨I.ok.mod, I.ok.kind, I.ok.glob, I.ok.blt, I.ok.above, I.ok.inj, I.ok.has, I.ok.cab, (fun z => nomatch z), I.ok.frames, I.ok.stk, I.ok.exf, I.ok.bs, I.ok.bsz, I.ok.noex, I.ok.exfs, I.ok.funs, I.ok.frf⟩, I.os, I.bare, I.base, I.loc, I.cell, I.free, I.freeC, I.pin, I.hok, I.len⟩
theorem Inv.ofMrk {ea : Addr} (ok : X.Ok) (I : Inv (X.mrk ea) pins σ H s) : Inv X pins σ H s :=
  ⟨ok, I.os, I.bare, I.base, I.loc, I.cell, I.free, I.freeC, I.pin, I.hok, I.len⟩

/-- a local name goes -/
theorem Inv.goes {h' : Heap} {t' : Nat} {i : Nat} {n : Str} {m : Str → Option Value} {v : Option Value} (I : Inv X pins σ H s) (hN : X.N.Nodup) (hi : X.N[i]? = some n) (hn : s.heap.Ns X.env.locals m)
    (hl : ∀ (j : Nat) (x : Str) (v : V), X.N[j]? = some x → σ[j]? = some (some v) → Vis X.env.scope x → ∃ u, RelV v u ∧ Look X.env s.heap m x u) (hn' : h'.Ns X.env.locals (fun x => if x = n then v else m x)) (hs : Heap.SameBut X.env.locals s.heap h') :
    Inv X pins (σ.set i none) H { s with heap := h', toks := t' } := by
  have neL : ∀ b o, X.s_0.heap.get? b = some o → b ≠ X.env.locals := fun b o e => Nat.ne_of_lt (Nat.lt_of_lt_of_le (Heap.lt_size e) I.ok.above)
  have cK : ∀ y c, X.env.cells.lookup y = some c → ∀ w', s.heap.IsCell c w' → h'.IsCell c w' := fun y c e w' ⟨o, ho, hd⟩ => ⟨o, (hs.2 c (I.cne y c e)).trans ho, hd⟩
  refine ⟨I.ok, I.os, I.bare, ⟨fun b o e nn hb hx => ?_, fun b o e nn hb hx => ?_, I.base.free, fun b o e hx => ?_, I.base.tups, I.base.frzs, I.base.tbls⟩, ⟨_, hn', fun j y v' e1 e2 e3 => ?_⟩, fun y c e => ?_, I.free, I.freeC, fun p hp => ?_, fun b ob e => ?_, ?_⟩
  · exact (hs.2 b (neL b o e)).trans (I.base.keep b o e nn hb hx)
  · obtain ⟨sl, e1⟩ := I.base.slot b o e nn hb hx
    exact ⟨sl, (hs.2 b (neL b o e)).trans e1⟩
  · obtain ⟨o', e1⟩ := I.base.there b o e hx
    exact ⟨o', (hs.2 b (neL b o e)).trans e1⟩
  · by_cases hj : j = i
    · subst hj
      by_cases hlt : j < σ.length
      · rw [List.getElem?_set_self hlt] at e2; cases e2
      · rw [List.getElem?_eq_none (by simpa using hlt)] at e2; cases e2
    · rw [List.getElem?_set_ne (Ne.symm hj)] at e2
      obtain ⟨u, r, q⟩ := hl j y v' e1 e2 e3
      refine ⟨u, r, ?_⟩
      have ny : y ≠ n := fun e => hj (nodup_ix hN e1 (e ▸ hi))
      rcases q with ⟨k, e⟩ | ⟨k, c, e, z⟩
      · exact .inl ⟨k, by simp [ny, e]⟩
      · exact .inr ⟨k, c, e, cK y c e _ z⟩
  · obtain ⟨w', z⟩ := I.cell y c e
    exact ⟨w', cK y c e _ z⟩
  · obtain ⟨e, n', ne, nf, d⟩ := I.pin p hp
    exact ⟨(hs.2 p.1 ne).trans e, n', ne, nf, d⟩
  · refine (I.hok b ob e).stay (fun c w' hc q => (hs.2 c ?_).trans q) (fun _ q => q) fun _ _ q => q
    intro z
    rcases hc with hc | hc
    · rw [← hc, z, I.free] at e; cases e
    · rw [z, I.free] at hc; cases hc
  · rw [List.length_set]; exact I.len

/-- a caught error is tracked -/
theorem Inv.caught {h0 : Heap} {ea : Addr} {C : Value} (I : Inv X pins σ H' s) (al : Aloft h0 H' ea C s.heap) (i0 : ∀ p ∈ X.pn ++ pins, p.1 ≠ ea) (i1 : X.env.locals ≠ ea) (i2 : ∀ y c, X.env.cells.lookup y = some c → c ≠ ea) (i3 : ∀ b o, X.s_0.heap.get? b = some o → b ∉ X.ex → b ≠ ea) :
    Inv X pins σ (upd H' ea (ErrO ea C)) s := by
  have hk : ∀ b o, H' b = some o → b ≠ ea := fun b o e z => by rw [z, al.free] at e; cases e
  obtain ⟨oe, vs, a0, T, oT, ts, e1, e2, e3, e4, e5, e6, e7, e8, e9, e10, e11⟩ := al.at'
  refine ⟨I.ok, I.os, I.bare, ⟨I.base.keep, I.base.slot, fun b o e n hx => ?_, I.base.there, fun b xs e => ?_, fun b o u e => ?_, fun b ps e => ?_⟩, I.loc, I.cell, ?_, fun y c e => ?_, fun p hp => ?_, fun b o e => ?_, I.len⟩
  · rw [upd_ne (i3 b o e hx)]; exact I.base.free b o e n hx
  · have q := I.base.tups b xs e; rw [upd_ne (hk b _ q)]; exact q
  · have q := I.base.frzs b o u e; rw [upd_ne (hk b _ q)]; exact q
  · obtain ⟨more, q⟩ := I.base.tbls b ps e; exact ⟨more, by rw [upd_ne (hk b _ q)]; exact q⟩
  · rw [upd_ne i1]; exact I.free
  · rw [upd_ne (i2 y c e)]; exact I.freeC y c e
  · obtain ⟨c1, c2, c3⟩ := I.pin p hp
    exact ⟨c1, by rw [upd_ne (i0 p hp)]; exact c2, c3⟩
  · by_cases hb : b = ea
    · subst hb
      rw [upd_same] at e; cases e
      exact ⟨⟨oe, e1, e2⟩, ⟨oe, e1⟩, fun h1 h2 ⟨o, q1, q2⟩ k => ⟨o, k o q1, q2⟩⟩
    · rw [upd_ne hb] at e
      exact (I.hok b o e).stay (fun _ _ _ q => q) (fun c q => by rw [upd_ne (hk c _ q)]; exact q) fun c xs q => by rw [upd_ne (hk c _ q)]; exact q
end

/-- try: body; except B as n (slot i): suite -/
def tTry (K : PySem.W.Frag) (B : Value) (i : Nat) (tb : XK → TS) (ts : TS) : TS := fun D σ H => tb (fun C _ H' => PySem.W.exmOne K C B = some true ∧
  ∀ (ea : Addr) (σ' : St), H' ea = none → σ'.length = σ.length → ts { nx := fun σ2 H2 => D.nx (σ2.set i none) H2, rt := D.rt, bk := fun σ2 H2 => D.bk (σ2.set i none) H2, ct := fun σ2 H2 => D.ct (σ2.set i none) H2 } (σ'.set i (some (.ref ea))) (upd H' ea (ErrO ea C))) D σ H

theorem ps_try {X : Cx} {body suite : List Stmt} {b₀ : Stmt} {x n : Str} {np hpos pos : Pos} {B : Addr} {i : Nat} {tb : XK → TS} {ts : TS} (hst : X.stack = X.env :: X.outer) (hfr : X.env.frame = some X.env.locals) (hN : X.N.Nodup) (hi : X.N[i]? = some n) (hn : X.env.scope.names.lookup n = some .local)
    (hg : Gl X x) (hm : X.mg x = some (.ref B))
    (hb : ∀ pn xe Ec, Passes (CXE X.prog X.w) (X.tryX pn xe) Ec → PSs (X.tryX pn xe) body (tb Ec)) (hs : ∀ ea, PSs (X.mrk ea) (b₀ :: suite) ts) (hdb : (x == ("__debug__" : Str)) = false := by decide) :
    PS X (.Try body [.ExceptHandler (some (.Name x np)) (some n) (b₀ :: suite) hpos] [] [] pos) (tTry X.K (.ref B) i tb ts) := by
  intro pins s σ H D I h
  refine wpAny_Try_except ?_
  have hb' := hb (X.pn ++ pins) (fun e s' => ∃ s1 σ1 H1, Inv X pins σ1 H1 s1 ∧ CXE X.prog X.w X.stack H1 s1 (fun C _ H' => PySem.W.exmOne X.K C (.ref B) = some true ∧
    ∀ (ea : Addr) (σ' : St), H' ea = none → σ'.length = σ.length → ts { nx := fun σ2 H2 => D.nx (σ2.set i none) H2, rt := D.rt, bk := fun σ2 H2 => D.bk (σ2.set i none) H2, ct := fun σ2 H2 => D.ct (σ2.set i none) H2 } (σ'.set i (some (.ref ea))) (upd H' ea (ErrO ea C))) e s') _
    (fun pins' σ1 H1 s1 e s' I1 hc => ⟨s1, σ1, H1, I1.ofTry I.ok, hc⟩)
  refine wpAny_mono (hb' [] s σ H D I.toTry h) (fun fl s' q => ?_) fun e s' q => ?_
  · cases fl with
    | next =>
      obtain ⟨σ', H', I', q⟩ := q
      show wpAny (model X.prog X.w) X.A (execs [] X.env) (SP X pins D) X.xe s'
      refine wpAny_execs_nil ?_
      exact ⟨σ', H', I'.ofTry I.ok, q⟩
    | brk => obtain ⟨σ', H', I', q⟩ := q; exact ⟨σ', H', I'.ofTry I.ok, q⟩
    | cont => obtain ⟨σ', H', I', q⟩ := q; exact ⟨σ', H', I'.ofTry I.ok, q⟩
    | ret u => obtain ⟨v, σ', H', I', q⟩ := q; exact ⟨v, σ', H', I'.ofTry I.ok, q⟩
  · obtain ⟨s1, σ1, H1, I1, ea, C, H', rfl, os, bare, un, hok, al, hx, hsu⟩ := q
    have fs1 := I1.stack
    have fs' : s'.heap.FunFrames X.base X.stack := funs_slot fs1 fun b hb o e => un.slot b o e (I1.stkFree b hb) hb (by simp)
    obtain ⟨T, a0, n1, n2, n3, fl⟩ := al.fly fs'
    have fl' := fl
    rw [hst] at fl'
    have frames : X.A.frames = some (X.env :: X.outer) := by rw [← hst]; exact I.ok.frames
    refine wpAny_looks_onW (L := X.env.locals) frames hfr fl' fun h4 held sm4 => ?_
    refine wpAny_landsW held fun h5 fl5 sm5 => ?_
    have sm : s'.heap.UpToSlots h5 := sm4.trans sm5
    rw [← hst] at fl5
    obtain ⟨un5, hok5, al5⟩ := fly_un un hok al fs1 I1.stkFree n2 n3 fl5 sm
    have I5 : Inv X pins σ1 H' { s' with heap := h5 } := I1.call' (s' := { s' with heap := h5 }) (ch := []) os un5 hok5 bare (fun _ z => nomatch z)
    obtain ⟨ob, hob, hobc⟩ := fl5.there
    refine wpAny_handleBy_cons (codeAny_handlers_test (ld_glob (I5.toMrk (ea := ea)) hg hm ?_ hdb)) (by intro q; cases q)
    have LT : PySem.W.Looks (model X.prog X.w) h5 (typeOf (.ref ea)) C := by subst hobc; exact (PySem.W.Looks.ld hob).andThen .now
    refine (PySem.W.exm_one (M := model X.prog X.w) I5.kIn LT hx).at ?_
    refine codeAny_handlers_suite_as ?_
    refine lands_againW fl5 fun h6 fl6 sm6 => ?_
    obtain ⟨un6, hok6, al6⟩ := fly_un un hok al fs1 I1.stkFree n2 n3 fl6 (sm.trans sm6)
    have I6 : Inv X pins σ1 H' { s' with heap := h6 } := I1.call' (s' := { s' with heap := h6 }) (ch := []) os un6 hok6 bare (fun _ z => nomatch z)
    have nw : ∀ b o, s1.heap.get? b = some o → b ≠ ea := fun b o e z => by rw [z, al.new] at e; cases e
    have I6c : Inv X pins σ1 (upd H' ea (ErrO ea C)) { s' with heap := h6 } := by
      refine I6.caught al6 (fun p hp => nw p.1 p.2 (I1.pin p hp).1) ?_ (fun y c e => ?_) fun b o e hx => ?_
      · obtain ⟨m, ⟨o, es, ep, ho, _⟩, _⟩ := I1.loc
        exact nw _ o ho
      · obtain ⟨v, o, ho, _⟩ := I1.cell y c e
        exact nw _ o ho
      · obtain ⟨o', e'⟩ := I1.base.there b o e hx
        exact nw b o' e'
    refine store_ok (X := X.mrk ea) (i := i) (v := .ref ea) I6c.toMrk hN hi (.inl hn) rfl (fun s7 I7 => ?_) (.inr hn)
    refine wpAny_mono (hs ea pins s7 _ _ _ I7 (hsu ea σ1 al.free (I1.len.trans I.len.symm))) (fun f s8 q => ?_) (fun _ _ z => z.elim)
    have go : ∀ {σ2 : St} {H2 : Hp} {fl : Flow}, Inv (X.mrk ea) pins σ2 H2 s8 → (∀ s9, Inv X pins (σ2.set i none) H2 s9 → SP X pins D fl s9) →
        wpAny (model X.prog X.w) X.A (do bindName X.env n .none; unbindBehindTheSuite X.env n hpos) (fun _ s9 => SP X pins D fl s9) X.xe s8 := fun {σ2 H2 fl} J k => by
      have J' := J.ofMrk I.ok
      obtain ⟨m, hm1, hm2⟩ := J'.loc
      refine wpAny_nameGoes_keeps hn hm1 (by rw [I.ok.kind]; rfl) fun h9 v9 hn9 hs9 => k _ (J'.goes hN hi hm1 hm2 hn9 hs9)
    cases f with
    | next => obtain ⟨σ2, H2, J, q⟩ := q; exact go J fun s9 J9 => ⟨_, H2, J9, q⟩
    | brk => obtain ⟨σ2, H2, J, q⟩ := q; exact go J fun s9 J9 => ⟨_, H2, J9, q⟩
    | cont => obtain ⟨σ2, H2, J, q⟩ := q; exact go J fun s9 J9 => ⟨_, H2, J9, q⟩
    | ret u => obtain ⟨v, σ2, H2, J, r, q⟩ := q; exact go J fun s9 J9 => ⟨v, _, H2, J9, r, q⟩
end L2

set_option Elab.async false
set_option linter.all false
set_option maxRecDepth 100000
namespace MG
open PySem PySem.Spec PyProof.Rows L2
section
variable {X : Cx}
end
/-! ### rows of words, by their length -/
def At (es : List Ent) (ss : Body) : Nat → Str → Prop
  | 0, _ => False
  | 1, x => x ∈ namesB ss
  | n + 2, x => ∃ y, At es ss (n + 1) y ∧ x ∈ nexts es y
theorem At.next {es : List Ent} {ss : Body} {n : Nat} {x y : Str} (h : At es ss n y) (k : x ∈ nexts es y) : At es ss (n + 1) x := by
  cases n with
  | zero => exact False.elim h
  | succ n => exact ⟨y, h, k⟩
theorem At.pos {es : List Ent} {ss : Body} {n : Nat} {x : Str} (h : At es ss n x) : 1 ≤ n := by
  cases n with
  | zero => exact False.elim h
  | succ n => omega
/-- there is a row of at most n words -/
def Up (es : List Ent) (ss : Body) (n : Nat) (x : Str) : Prop := ∃ m, m ≤ n ∧ At es ss m x
theorem Up.mono {es : List Ent} {ss : Body} {n m : Nat} {x : Str} (h : Up es ss n x) (k : n ≤ m) : Up es ss m x := let ⟨j, h1, h2⟩ := h; ⟨j, Nat.le_trans h1 k, h2⟩
/-- a row from its end to its beginning -/
inductive Rv (es : List Ent) (ss : Body) : List Str → Prop
  | one {x : Str} : x ∈ namesB ss → Rv es ss [x]
  | more {x y : Str} {r : List Str} : x ∈ nexts es y → Rv es ss (y :: r) → Rv es ss (x :: y :: r)
theorem Rv.at {es : List Ent} {ss : Body} : ∀ {r : List Str} {x : Str}, Rv es ss (x :: r) → At es ss (r.length + 1) x
  | [], _, .one h => h
  | _ :: _, _, .more h k => (Rv.at k).next h
/-- what the dict of those ahead tells: g the length of a shortest row to each word -/
structure Ahead (es : List Ent) (ss : Body) (kvs : List (Key × V)) (ks : List Str) (g : Str → Nat) : Prop where
  keys : kvs.map (·.1) = ks.map Sum.inr
  val : ∀ x ∈ ks, 1 ≤ g x ∧ ((g x = 1 ∧ valV kvs (Sum.inr x) = some .non ∧ x ∈ namesB ss) ∨ ∃ y ∈ ks, valV kvs (Sum.inr x) = some (.str y) ∧ g x = g y + 1 ∧ x ∈ nexts es y)
theorem Ahead.at {es : List Ent} {ss : Body} {kvs : List (Key × V)} {ks : List Str} {g : Str → Nat} (h : Ahead es ss kvs ks g) : ∀ (n : Nat) (x : Str), x ∈ ks → g x = n → At es ss n x := by
  intro n
  induction n using Nat.strongRecOn with
  | ind n ih =>
    intro x hx e
    obtain ⟨h1, h2⟩ := h.val x hx
    rcases h2 with ⟨h3, _, h4⟩ | ⟨y, hy, _, h3, h4⟩
    · rw [← e, h3]; exact h4
    · have := ih (g y) (by omega) y hy rfl
      rw [← e, h3]; exact this.next h4
end MG

set_option Elab.async false
set_option linter.all false
set_option maxRecDepth 100000
set_option maxHeartbeats 1000000
namespace MG
open PySem PySem.Spec PyProof.Rows L2
section
variable {X : Cx} {C : Addr}
/-- what a class without an __init__ must have to be made -/
structure MkO (K : PySem.W.Frag) (C : Addr) : Prop where
  makes : PySem.W.makesIn K C = true
  init : PySem.W.findIn K (.ref C) "__init__" = some (some (.builtin "object.__init__"))
  kp : PySem.W.keepIn K (.ref C) = true
end
end MG

set_option Elab.async false
set_option linter.all false
set_option maxRecDepth 100000
set_option maxHeartbeats 1000000
namespace MG
open PySem PySem.Spec PyProof.Rows L2
/-! ### what class a caught error is of -/
/-- what a class of errors must have for isinstance to look at its errors -/
structure ErrC (K : PySem.W.Frag) (D : Addr) : Prop where
  get : PySem.W.findIn K (.ref D) "__getattribute__" = some (some (.builtin "BaseException.__getattribute__"))
  noh : PySem.W.findIn K (.ref D) "__getattr__" = some none
  base : PySem.W.mroIn K D (.type "BaseException") = some true
  cls : (PySem.W.clsIn K D).isSome = true
  at_ : PySem.W.findIn K (.ref D) "__class__" = some (some (.builtin "object.__class__"))
  obj : PySem.W.mroIn K D (.type "object") = some true
/-- what the class attribute must be -/
structure ErrG (K : PySem.W.Frag) : Prop where
  get : PySem.W.specialIn K (.builtin "object.__class__") "__get__" = some (some (.builtin "getset_descriptor.__get__"))
  takes : PySem.W.takesIn K (.builtin "object.__class__") = some true
def IsErr (x D : Addr) (h : Heap) : Prop := ∃ o, h.get? x = some o ∧ o.cls = .ref D
section
open PySem.Builtin.ObjectAttr PySem.W PySem.Builtin PySem.Builtin.Getset_descriptor
variable {K : PySem.W.Frag} {x D : Addr}
theorem IsErr.ty {M : Model} {h : Heap} (e : IsErr x D h) : PySem.W.Looks M h (typeOf (.ref x)) (.ref D) := by
  obtain ⟨o, h1, h2⟩ := e
  rw [← h2]
  exact (PySem.W.Looks.ld h1).andThen .now
theorem err_find {M : Model} {h : Heap} (G : ErrG K) (C : ErrC K D) (X : K.In h) : PySem.W.Looks M h (find (.ref x) (.ref D) "__class__") (.bind (.builtin "getset_descriptor.__get__") (.builtin "object.__class__")) := by
  have a := PySem.W.looks_findIn (M := M) X C.at_
  have b : PySem.W.Looks M h (getOf (some (.builtin "object.__class__"))) (some (.builtin "getset_descriptor.__get__")) := PySem.W.looks_specialIn X G.get
  have c := PySem.W.looks_takesIn (M := M) X G.takes
  have d : PySem.W.Looks M h (dataDescriptor? (some (.builtin "object.__class__")) (some (.builtin "getset_descriptor.__get__"))) (some (.builtin "getset_descriptor.__get__", .builtin "object.__class__")) := c.andThen .now
  exact a.andThen (b.andThen (d.andThen (PySem.W.Looks.tag .now)))
theorem err_get {prog : Program} {w : World} {A : Around} {s : Shared} {tp : Value} {R : Result → Shared → Prop} (G : ErrG K) (C : ErrC K D) (X : K.In s.heap) (e : IsErr x D s.heap) (q : R (.ok (.ret (.ref D))) s) :
    codeAny (model prog w) A (.call (.builtin "getset_descriptor.__get__") ⟨[.builtin "object.__class__", .ref x, tp], []⟩) R s := by
  obtain ⟨hh, g, dr, t, os⟩ := s
  have L0 := e.ty (M := model prog w)
  have L1 := PySem.W.looks_mroIn (M := model prog w) X C.obj
  refine codeAny_call_builtin PySem.W.KF.slot_gs.plain PySem.W.KF.entry_gs (PySem.W.KF.slot_gs.check _ _ _ _ _ _ _ _ PySem.W.KF.type_class (PySem.W.KF.args_gs _ _ _) ?_)
  unfold Builtin.«getset_descriptor.__get__» descrGet
  rw [PySem.W.dga_obj]
  refine wpAny_bind (wpAny_pure ?_)
  unfold descrGetter descrCheckInstance descrNameAndClass isInstance
  simp only [PySem.W.KF.owner_class]
  repeat lk
  refine ⟨Code.quiet_builtin _ (by decide +kernel), codeAny_builtin PySem.W.KF.entry_class ?_⟩
  unfold Builtin.«object.__class__» shownTypeOf
  repeat lk
  exact q
theorem err_inst {M : Model} {h : Heap} (C : ErrC K D) (X : K.In h) (e : IsErr x D h) : PySem.W.Looks M h (isInstance (.ref x) (.type "BaseException")) true :=
  (e.ty (M := M)).andThen (PySem.W.looks_mroIn (M := M) X C.base)
theorem err_kind : builtinKind "BaseException.__getattribute__" = some .slot := by decide +kernel
theorem err_split : splitId "BaseException.__getattribute__" = some ("BaseException", "__getattribute__") := by decide +kernel
theorem err_check {M : Model} {A : Around} {E : Value → Shared → Prop} {Q : Unit → Shared → Prop} {s : Shared} {nameV : Value} (C : ErrC K D) (X : K.In s.heap) (e : IsErr x D s.heap) (q : Q () s) :
    wpAny M A (checkBuiltinCall "BaseException.__getattribute__" ⟨[.ref x, nameV], []⟩) Q E s := by
  have hi := err_inst (M := M) C X e
  have ha := PySem.F.args_bexc_ga (.ref x) nameV
  have hk := err_kind
  have hs := err_split
  generalize ("BaseException.__getattribute__" : String) = i at hk hs ha ⊢
  exact PySem.W.check_slot (rest := [nameV]) (kw := []) hk hs hi ha q
theorem err_class {prog : Program} {w : World} {A : Around} {E : Value → Shared → Prop} {Q : Option Value → Shared → Prop} {s : Shared} (G : ErrG K) (C : ErrC K D) (X : K.In s.heap) (e : IsErr x D s.heap) (q : Q (some (.ref D)) { s with toks := s.toks + 1 }) :
    wpAny (model prog w) A (getAttr? (.ref x) "__class__") Q E s := by
  obtain ⟨hh, gg, dr, t, os⟩ := s
  have L0 := e.ty (M := model prog w)
  have L1 := PySem.W.looks_findIn (M := model prog w) X C.get
  have L2 := err_find (M := model prog w) (x := x) G C X
  have L3 := PySem.W.looks_findIn (M := model prog w) X C.noh
  unfold getAttr? getAttrBy? getAttrBy
  refine wpAny_bind (wpAny_mkText (wpAny_bind (wpAny_attempt (wpAny_holding (wpAny_bind (L0.at (wpAny_bind (L1.at ?_))))))))
  have hx2 : (onTheHeap (Value.ref D) && Value.builtin "BaseException.__getattribute__" == Value.builtin "object.__getattribute__") = false := by
    rw [show (Value.builtin "BaseException.__getattribute__" == Value.builtin "object.__getattribute__") = false from by decide +kernel]; rfl
  dsimp only
  rw [hx2]
  show wpAny _ _ (getAttrByItsOwn _ _ _ _ _ _) _ _ _
  unfold getAttrByItsOwn hookBefore
  show wpAny _ _ (typeLookup (.ref D) "__getattr__" >>= _) _ _ _
  refine wpAny_bind (L3.at ?_)
  show wpAny _ _ ((holding [] (boundAndCalled _ _ _)).attempt >>= _) _ _ _
  unfold boundAndCalled
  rw [PySem.F.excAttr_ValueError.ga.bind (.ref x)]
  refine wpAny_bind (wpAny_attempt (wpAny_holding (wpAny_bind (wpAny_pure (wpAny_call ?_)))))
  refine codeAny_call_builtin PySem.F.excAttr_ValueError.ga.plain PySem.F.entry_bexc_ga (err_check (s := ⟨hh, gg, dr, t + 1, os⟩) C X e ?_)
  unfold Builtin.«object.__getattribute__»
  refine wpAny_bind (wpAny_pure (wpAny_bind (wpAny_pure (wpAny_bind (L0.at (wpAny_bind (L2.at ?_)))))))
  show wpAny _ _ (holding [_] (call (.builtin "getset_descriptor.__get__") [.builtin "object.__class__", .ref x, .ref D]) >>= ret) _ _ _
  refine wpAny_bind (wpAny_holding (wpAny_call ?_))
  refine err_get (s := ⟨hh, gg, dr, t + 1, os⟩) G C X e ?_
  refine wpAny_pure ?_
  exact PySem.W.handed_on rfl (wpAny_pure q)
theorem kitx_err (G : ErrG K) (C : ErrC K D) : PySem.W.KitX K (.ref x) (.ref D) (IsErr x D) := by
  obtain ⟨cd, hc⟩ := Option.isSome_iff_exists.mp C.cls
  unfold PySem.W.clsIn at hc
  split at hc
  case h_2 => cases hc
  rename_i c1 d1 cd1 sl1 ho
  exact ⟨fun M h _ e => e.ty, fun M h X _ A Q E s k q => by unfold isType loadHead; exact wpAny_bind (wpAny_loadPart (k _ _ (X _ _ ho)) (wpAny_pure q)),
    fun h tp dd its n sl X htp => Bool.eq_false_iff.mpr fun q => (by
      have e : D = tp := Value.ref.inj (beq_iff_eq.mp q)
      rw [← e, X _ _ ho] at htp; cases htp), fun X e k => err_class G C X e k⟩
end
section
variable {X : Cx}
theorem err_is {pins : List (Addr × Obj)} {σ : L2.St} {H : Hp} {s : Shared} {ea D : Addr} (I : Inv X pins σ H s) (h : H ea = some (ErrO ea (.ref D))) : IsErr ea D s.heap := (show ObjOk X.prog X.w H s.heap ea (ErrO ea (.ref D)) from I.hok ea _ h).1
/-- isinstance(a caught error, C) -/
theorem call_isiE (G : ErrG X.K) : CallR X (.builtin "isinstance") (fun vs H Q => ∃ ea D c b, vs = [.ref ea, c] ∧ H ea = some (ErrO ea (.ref D)) ∧ ErrC X.K D ∧ ((∃ C, c = .ref C ∧ PySem.W.kitOne X.K (.ref D) (.ref C) = some b) ∨ ∃ T, c = .ty T ∧ PySem.W.kitOne X.K (.ref D) (.type T) = some b) ∧ Q (.bl b) H) := by
  intro pins s σ H vs us Q I r h
  obtain ⟨ea, D, c, b, rfl, he, C, k, q⟩ := h
  have e := err_is I he
  cases r with
  | cons r1 rr =>
    cases rr with
    | cons r2 rr2 =>
      cases rr2
      cases r1
      rcases k with ⟨C', rfl, k⟩ | ⟨T, rfl, k⟩
      · cases r2
        exact PySem.W.kia_one (kitx_err G C) I.kIn e k (fun z => nomatch z) fun tk => ⟨.bl b, H, I.tok tk, rfl, q⟩
      · cases r2
        exact PySem.W.kia_one (kitx_err G C) I.kIn e k (fun z => nomatch z) fun tk => ⟨.bl b, H, I.tok tk, rfl, q⟩
end
/-! ### defs that may raise -/
structure CalE (P : Program) (w : World) (K : PySem.W.Frag) (mg : Str → Option Value) (base : Heap) (x : Str) (k : Nat) (ps : List Str) (sp : Sp) : Prop where
  ex : ∃ f fd, mg x = some (.ref f) ∧ FnOk P w K mg base (CXE P w) k f fd ps sp ∧ PySem.W.keepIn K (.ref f) = true ∧ Binds K fd ps []
structure MCalE (P : Program) (w : World) (K : PySem.W.Frag) (mg : Str → Option Value) (base : Heap) (C : Addr) (m : Str) (k : Nat) (ps : List Str) (sp : Sp) : Prop where
  ex : ∃ f fd, Meth K C m f ∧ FnOk P w K mg base (CXE P w) k f fd ps sp ∧ Binds K fd ps []
section
variable {X : Cx} {E : XK} {x : Str} {k : Nat} {ps : List Str} {sp : Sp} {p pos apos : Pos} {e o : Expr} {es : List Expr} {t : TA} {ta : TE} {C : Addr} {m : Str}
theorem pe_calE (M : CalE X.prog X.w X.K X.mg X.base x k ps sp) (hx : Passes (CXE X.prog X.w) X E) (hr : Room k X.A) (hg : Gl X x) (ha : PA X (e :: es) t) (hdb : (x == ("__debug__" : Str)) = false := by decide)
    (he : starEach (e :: es) X.env = (false, eval e X.env) :: starEach es X.env := by rfl) (hpl : (backTo pos (starEach es X.env)).any (·.1) = false := by rfl) : PE X (.Call (.Name x p) (e :: es) [] pos) (tCall sp [] E t) := by
  obtain ⟨f, fd, h1, h2, h3, h4⟩ := M.ex
  exact pe_call h2 hr hg h1 h3 h4 .nil hx ha hdb he hpl
end
end MG

set_option Elab.async false
set_option linter.all false
set_option maxRecDepth 100000
namespace MG
open PySem PySem.Spec PyProof.Rows L2
/-! ### defs called while an error is handled -/
structure RoomH (k : Nat) (A : Around) : Prop where
  dp : A.depth + 3 * k + 5 < recursionLimit
  un : A.units + 16 * k + 200 < cLine
theorem RoomH.of {k : Nat} {A : Around} (r : Room k A) : RoomH k A := ⟨r.dp, r.un⟩
theorem RoomH.mark {k : Nat} {A : Around} {v : Option Value} (r : RoomH k A) : RoomH k (A.mark v) := ⟨r.dp, r.un⟩
theorem RoomH.deeper {k : Nat} {A : Around} (r : RoomH (k + 1) A) (env : Env) : RoomH k (A.deeper env) :=
  ⟨by have := r.dp; show A.depth + 1 + 3 * k + 5 < _; omega, by have := r.un; show A.units + 3 + 16 * k + 200 < _; omega⟩
theorem RoomH.mono {j k : Nat} {A : Around} (r : RoomH k A) (h : j ≤ k) : RoomH j A := ⟨by have := r.dp; omega, by have := r.un; omega⟩
theorem RoomH.depth {k : Nat} {A : Around} (r : RoomH k A) : A.depth < recursionLimit := by have := r.dp; omega
/-- as FnOk, whatever is handled -/
structure FnOkH (P : Program) (w : World) (K : PySem.W.Frag) (mg : Str → Option Value) (base : Heap) (k : Nat) (f : Addr) (fd : FuncData) (ps : List Str) (sp : Sp) : Prop where
  len : ∀ vs H Q E, sp vs H Q E → vs.length = ps.length
  run : ∀ (A : Around) (outer : List Env) (s : Shared) (H : Hp) (args : Args) (us : List Value) (vs : List V) (Q : VK), RoomH k A → Env0 P w K mg base A outer s H → BindsTo s fd args (ps.zip us) → Vals vs us → sp vs H Q E0 →
    codeAny (model P w) A (.call (.ref f) args) (CR CX0 outer P w H s Q E0) s
/-- the same body, whatever is handled around it -/
def loudX (X : Cx) (A : Around) : Cx := { X with A := A, calm := false, xe := fun _ _ => False }
theorem loudI {X : Cx} {A : Around} {pins : List (Addr × Obj)} {σ : L2.St} {H : Hp} {s : Shared} (I : Inv X pins σ H s) (hf : A.frames = X.A.frames) : Inv (loudX X A) pins σ H s :=
  ⟨⟨I.ok.mod, I.ok.kind, I.ok.glob, I.ok.blt, I.ok.above, I.ok.inj, I.ok.has, I.ok.cab, (fun z => nomatch z), hf.trans I.ok.frames, I.ok.stk, I.ok.exf, I.ok.bs, I.ok.bsz, I.ok.noex, I.ok.exfs, I.ok.funs, I.ok.frf⟩, I.os, I.bare, I.base, I.loc, I.cell, I.free, I.freeC, I.pin, I.hok, I.len⟩
section
variable {P : Program} {w : World} {K : PySem.W.Frag} {mg : Str → Option Value} {base : Heap}
theorem calmE {A : Around} {outer : List Env} {s : Shared} {H : Hp} (e : Env0 P w K mg base A outer s H) : Env0 P w K mg base { A with handled := none } outer s H := ⟨e.frames, e.mod, e.bs, e.bsz, e.funs, e.frf, e.hok, e.bare⟩
abbrev cxH (P : Program) (w : World) (K : PySem.W.Frag) (mg : Str → Option Value) (base : Heap) (N : List Str) (qual : Str) (scope : Scope) (f : Addr) (cd : Value) (A : Around) (outer : List Env) (s : Shared) (H : Hp) : Cx :=
  loudX (cxOf CX0 P w K mg base N qual scope f cd { A with handled := none } outer s H E0) (A.deeper (envOfC qual scope s.heap.objs.size f cd))
theorem okH {x qual : Str} {st : Stmt} {f : Addr} {fd : FuncData} {N ps : List Str} {k : Nat} {sp : Sp} (F : Fun K x qual st f fd) (S : FnScope N ps (defScope st)) (len : ∀ vs H Q E, sp vs H Q E → vs.length = ps.length)
    (hbody : ∀ (cdv : Value) (A : Around) (outer : List Env) (s : Shared) (H : Hp) (vs : List V) (Q : VK), RoomH k (A.deeper (envOfC qual (defScope st) s.heap.objs.size f cdv)) → sp vs H Q E0 →
      ∃ t, PSs (cxH P w K mg base N qual (defScope st) f cdv A outer s H) (defBody st) t ∧ t { nx := fun _ H' => Q .non H', rt := Q } (start N vs) H) : FnOkH P w K mg base (k + 1) f fd ps sp := by
  obtain ⟨oc, od, kV, doc, pm, an, cdv, ct, osl, rfl, lk, hcd⟩ := F.ex
  refine ⟨len, fun A outer s H args us vs Q hr e0 hb r hsp => ?_⟩
  have hl := len _ _ _ _ hsp
  have KX : K.In s.heap := e0.mod.kin.keeps fun b o e => (e0.bs b o e).1
  have lim : s.heap.NoLimit := e0.mod.nolimit.keeps fun b o e => (e0.bs b o e).1
  have hkind : ∀ y ∈ ps.zip us, (defScope st).names.lookup y.1 = some .local ∨ ((defScope st).names.lookup y.1 = some .cell ∧ ((cellsFrom (s.heap.objs.size + 1) (defScope st).names []).lookup y.1).isSome = true) := fun ⟨n, v⟩ hy => by
    rcases S.par n (List.of_mem_zip hy).1 with q | q
    · exact .inl q
    · exact .inr ⟨q, PySem.W.cellsFrom_some _ _ _ (.inl q)⟩
  refine codeAny_call_function hr.depth (KX _ _ lk) rfl S.co S.gen rfl (PySem.W.codeRec_of KX hcd) (hb _ _ _ _ ?_)
  refine wpAny_newFunctionEnv_cells S.kind hkind fun env he s1 x => ?_
  subst he
  refine ⟨lim.keeps x.toInCall.keep, codeAny_func ?_⟩
  obtain ⟨t, ht, hq⟩ := hbody cdv A outer s H vs Q (hr.deeper _) hsp
  have I := loudI (A := A.deeper (envOfC qual (defScope st) s.heap.objs.size f cdv)) (inv_start (CX := CX0) (A := { A with handled := none }) (E := E0) (f := f) S rfl (calmE e0) hl r x) rfl
  refine wpAny_mono (ht [] s1 (start N vs) H _ I hq) (fun fl s' hs => ?_) fun e s' hs => hs.elim
  have fin : ∀ {σ' : L2.St} {H' : Hp} {v : V} {u : Value}, Inv (cxH P w K mg base N qual (defScope st) f cdv A outer s H) [] σ' H' s' → RelV v u → Q v H' → CE outer P w H s Q u s' :=
    fun {σ' H' v u} J rv q => ⟨v, H', J.os, J.bare, J.base, J.hok, rv, q⟩
  cases fl with
  | ret u =>
    obtain ⟨v, σ', H', J, rv, q⟩ := hs
    exact fin J rv q
  | next =>
    obtain ⟨σ', H', J, q⟩ := hs
    exact fin (v := V.non) (u := Value.none) J rfl q
  | brk =>
    obtain ⟨_, _, _, q⟩ := hs
    exact False.elim q
  | cont =>
    obtain ⟨_, _, _, q⟩ := hs
    exact False.elim q
end
/-- a def by its name, whatever is handled -/
structure CalH (P : Program) (w : World) (K : PySem.W.Frag) (mg : Str → Option Value) (base : Heap) (x : Str) (k : Nat) (ps : List Str) (sp : Sp) : Prop where
  ex : ∃ f fd, mg x = some (.ref f) ∧ FnOkH P w K mg base k f fd ps sp ∧ PySem.W.keepIn K (.ref f) = true ∧ Binds K fd ps []
section
variable {X : Cx} {x : Str} {k : Nat} {ps : List Str} {sp : Sp} {p pos : Pos} {e : Expr} {es : List Expr} {t : TA}
theorem pe_calH (C : CalH X.prog X.w X.K X.mg X.base x k ps sp) (hr : RoomH k X.A) (hg : Gl X x) (ha : PA X (e :: es) t) (hdb : (x == ("__debug__" : Str)) = false := by decide)
    (he : starEach (e :: es) X.env = (false, eval e X.env) :: starEach es X.env := by rfl) (hpl : (backTo pos (starEach es X.env)).any (·.1) = false := by rfl) : PE X (.Call (.Name x p) (e :: es) [] pos) (tCall sp [] E0 t) := by
  obtain ⟨f, fd, hm, F, hk, hb⟩ := C.ex
  intro pins s σ H Q I h
  refine wpAny_Call_Name_kw (ld_glob I hg hm ?_ hdb)
  refine PySem.W.callWith_K (h₀ := X.base) I.ok.mod.kin hk (thn (ha pos pins s σ H _ I h) fun us s1 ⟨vs, H1, I1, r, q⟩ => ⟨I1.kIn, ?_⟩) he hpl
  have r2 : Vals (vs ++ []) (us ++ []) := r.append .nil
  have hl : (us ++ []).length = ps.length := by rw [← r2.length]; exact F.len _ _ _ _ q
  refine wpAny_call (codeAny_mono (F.run X.A X.stack s1 H1 ⟨us, []⟩ (us ++ []) (vs ++ []) Q hr I1.env0 (hb s1 us I1.kIn hl) r2 q) fun r s' hq => ?_)
  cases r with
  | error e => exact False.elim hq
  | ok fl =>
    cases fl with
    | ret u => exact I1.after hq
    | next => exact False.elim hq
    | brk => exact False.elim hq
    | cont => exact False.elim hq
end
end MG

set_option Elab.async false
set_option linter.all false
set_option maxRecDepth 100000
namespace MG
open PySem PySem.Spec PyProof.Rows L2
/-! ### lambdas, and what is called by a name of one's own -/
/-- the table of a def's code, all of it -/
def tabE (P : Addr) (ps : Array Value) : HO := .ext fun h => h.get? P = some (PySem.W.tabObj ps) ∧ TriplesOk ps.toList
def CodO (c : Addr) (q : Str) : HO := .ext fun h => h.CodeRec (.ref c) q
def LamO (f : Addr) (q : Str) (params : Arguments) (body : Expr) (scope : Scope) (clos : List (Str × Addr)) (c : Addr) : HO := .ext fun h => ∃ pm ctv, h.get? f = some (PySem.W.kla_obj "<lambda>" q params body scope clos pm c ctv)
theorem tabE_ok {P : Program} {w : World} {H : Hp} {h : Heap} {a : Addr} {ps : Array Value} (e : h.get? a = some (PySem.W.tabObj ps)) (t : TriplesOk ps.toList) : ObjOk P w H h a (tabE a ps) := ⟨⟨e, t⟩, ⟨_, e⟩, fun h1 h2 ⟨q, t⟩ k => ⟨k _ q, t⟩⟩
theorem codO_ok {P : Program} {w : World} {H : Hp} {h : Heap} {a : Addr} {q : Str} (e : h.CodeRec (.ref a) q) : ObjOk P w H h a (CodO a q) := by
  refine ⟨e, ?_, fun h1 h2 ⟨c, o, vs, t, e1, e2, e3, e4⟩ k => ?_⟩
  · obtain ⟨c, o, vs, t, e1, e2, e3, e4⟩ := e
    cases e1; exact ⟨o, e2⟩
  · cases e1; exact ⟨_, o, vs, t, rfl, k _ e2, e3, e4⟩
theorem lamO_ok {P : Program} {w : World} {H : Hp} {h : Heap} {f c : Addr} {q : Str} {params : Arguments} {body : Expr} {scope : Scope} {clos : List (Str × Addr)} {pm ctv : Value} (e : h.get? f = some (PySem.W.kla_obj "<lambda>" q params body scope clos pm c ctv)) :
    ObjOk P w H h f (LamO f q params body scope clos c) := ⟨⟨pm, ctv, e⟩, ⟨_, e⟩, fun h1 h2 ⟨pm, ctv, q⟩ k => ⟨pm, ctv, k _ q⟩⟩
/-- all but what stands at P is as it was -/
def ButP (P : Addr) (H H' : Hp) : Prop := ∀ b o, b ≠ P → H b = some o → H' b = some o
/-- the codes that stand in the table at P -/
def TabL (H : Hp) (P : Addr) (q : Str) : Prop := ∃ ps, H P = some (tabE P ps) ∧ ∀ pos cv, codeAmong pos ps.toList = some cv → ∃ c, c ≠ P ∧ cv = .ref c ∧ H c = some (CodO c q)
theorem TabL.same {H H' : Hp} {P : Addr} {q : Str} (t : TabL H P q) (k : Same H H') : TabL H' P q := let ⟨ps, e, z⟩ := t; ⟨ps, k _ _ e, fun pos cv h => let ⟨c, n, r, y⟩ := z pos cv h; ⟨c, n, r, k _ _ y⟩⟩
theorem among_snoc (p p' : Pos) (c cv : Value) (l : List Value) (t : TriplesOk l) (h : codeAmong p' (l ++ [rawInt p.line, rawInt p.col, c]) = some cv) : codeAmong p' l = some cv ∨ cv = c := by
  fun_induction TriplesOk l with
  | case1 =>
    right
    have h : (if _ then some c else codeAmong p' []) = some cv := h
    split at h
    · exact (Option.some.inj h).symm
    · cases h
  | case2 a t' b u x rest ih =>
    simp only [List.cons_append, codeAmong] at h ⊢
    split at h
    · rename_i hc; rw [if_pos hc]; exact .inl h
    · rename_i hc; rw [if_neg hc]; exact ih t h
  | case3 l h1 h2 => exact t.elim
/-! ### a lambda is made -/
def tLam (P : Addr) (q : Str) (params : Arguments) (body : Expr) (scope : Scope) (clos : List (Str × Addr)) : TE := fun _ H Q => TabL H P q ∧
  ∀ f c H', ButP P H H' → TabL H' P q → f ≠ P → H f = none → H' f = some (LamO f q params body scope clos c) → H' c = some (CodO c q) → Q (.ref f) H'
section
variable {X : Cx}
/-- what stands untracked above an earlier state is tracked -/
theorem track {pins : List (Addr × Obj)} {σ : L2.St} {H H0 : Hp} {s s0 : Shared} {a : Addr} {o : HO} (I : Inv X pins σ H s) (J : Inv X pins σ H0 s0) (ha : s0.heap.objs.size ≤ a) (hn : H a = none) (new : ObjOk X.prog X.w (upd H a o) s.heap a o) : Inv X pins σ (upd H a o) s := by
  have hk : ∀ b o, H b = some o → b ≠ a := fun b o e z => by rw [z, hn] at e; cases e
  have lt : ∀ b u, s0.heap.get? b = some u → b ≠ a := fun b u e => Nat.ne_of_lt (Nat.lt_of_lt_of_le (Heap.lt_size e) ha)
  refine ⟨I.ok, I.os, I.bare, ⟨I.base.keep, I.base.slot, fun b o e n hx => ?_, I.base.there, fun b xs e => ?_, fun b o u e => ?_, fun b ps e => ?_⟩, I.loc, I.cell, ?_, fun y c e => ?_, fun p hp => ?_, fun b u e => ?_, I.len⟩
  · obtain ⟨o', e'⟩ := J.base.there b o e hx
    rw [upd_ne (lt b _ e')]; exact I.base.free b o e n hx
  · have q := I.base.tups b xs e; rw [upd_ne (hk b _ q)]; exact q
  · have q := I.base.frzs b o u e; rw [upd_ne (hk b _ q)]; exact q
  · obtain ⟨more, q⟩ := I.base.tbls b ps e; exact ⟨more, by rw [upd_ne (hk b _ q)]; exact q⟩
  · rw [upd_ne (Nat.ne_of_lt (Nat.lt_of_lt_of_le J.lt ha))]; exact I.free
  · obtain ⟨v, o, ho, _⟩ := J.cell y c e
    rw [upd_ne (lt c _ ho)]; exact I.freeC y c e
  · obtain ⟨c1, c2, c3⟩ := I.pin p hp
    exact ⟨c1, by rw [upd_ne (lt _ _ (J.pin p hp).1)]; exact c2, c3⟩
  · by_cases hb : b = a
    · subst hb
      rw [upd_same] at e; cases e
      exact new
    · rw [upd_ne hb] at e
      exact (I.hok b u e).stay (fun _ _ _ q => q) (fun c q => by rw [upd_ne (hk c _ q)]; exact q) fun c xs q => by rw [upd_ne (hk c _ q)]; exact q
theorem pe_lam {params : Arguments} {body : Expr} {scope : Scope} {pos : Pos} {c P bm : Addr} {ob : Obj} (hd : defaultsOf params X.env = ([], [])) (hcode : X.env.code = .ref c) (hK : PySem.W.codeHdIn X.K c P = true) (hB : BMod X.base mainGlobals X.mg bm ob)
    (hfr : ∀ y ∈ scope.names, y.2 = .free → X.env.kindOf y.1 = some .cell ∨ X.env.kindOf y.1 = some .free) :
    PE X (.Lambda params body scope pos) (tLam P (X.env.qual ++ "<lambda>") params body scope (cloFrom X.env.cells scope.names [])) := by
  intro pins s σ H Q I ⟨⟨ps, hP, hcs⟩, h⟩
  obtain ⟨⟨hps, htr⟩, _, _⟩ := I.hok P _ hP
  have hcl : closureFor scope X.env = pure (cloFrom X.env.cells scope.names []) := closure_ok fun y hy e => I.ok.has _ (hfr y hy e)
  have CH := PySem.W.codeHd_of_K I.kIn hK
  have hg : mainGlobals ≠ P := fun z => by
    obtain ⟨o, es, ep, e, _⟩ := I.mod.glob
    have := (I.bs _ _ e).2
    rw [z, hP] at this; cases this
  have hbg : bm ≠ mainGlobals := fun z => by
    obtain ⟨o, es, ep, e, d, _⟩ := I.mod.glob
    have e2 := hB.obj
    rw [z, e] at e2; cases e2
    have d2 := hB.data
    rw [d] at d2; cases d2
  have hbP : bm ≠ P := fun z => by
    have := (I.bs _ _ hB.obj).2
    rw [z, hP] at this; cases this
  have hb : s.heap.BuiltinsAt X.mg P := ⟨bm, ob, hB.name, hB.ne, hbg, hbP, I.bk _ _ hB.obj, hB.cls, hB.dict, hB.data⟩
  refine PySem.W.kla_eval hd ?_
  cases q : codeAmong pos ps.toList with
  | some cv =>
    obtain ⟨c', nP, rfl, hc'⟩ := hcs pos cv q
    refine PySem.W.kla_makeFunctionHit (mg := X.mg) hcl I.ok.glob (I.mod.glob.keeps I.bk) hcode CH hps htr q hb fun ctv h' tk kp hsz => ?_
    have kp' : ∀ b o, s.heap.get? b = some o → (h'.push (PySem.W.kla_obj "<lambda>" (X.env.qual ++ "<lambda>") params body scope (cloFrom X.env.cells scope.names []) ((X.mg "__name__").getD .none) c' ctv)).get? b = some o := fun b o e => Heap.get?_push_of_some _ (kp b o e)
    have hf : H h'.objs.size = none := I.hok.fresh hsz
    refine ⟨.ref h'.objs.size, _, I.laid (t' := tk) kp' hsz (lamO_ok (Heap.get?_push_size _ rfl)), rfl, ?_⟩
    exact h _ _ _ (fun b o _ e => by rw [upd_ne (ne_of_none e hf)]; exact e) (TabL.same ⟨ps, hP, hcs⟩ (same_upd hf)) (ne_of_none hP hf).symm hf upd_same (by rw [upd_ne (ne_of_none hc' hf)]; exact hc')
  | none =>
    refine PySem.W.kla_makeFunction (mg := X.mg) hcl I.ok.glob (I.mod.glob.keeps I.bk) hcode CH hps htr q hg hb fun c' ctv h' tk hx hge hlt hrec htb => ?_
    generalize hpm : (X.mg "__name__").getD .none = pm
    rw [← hpm] at hpm
    have kp : ∀ b o, b ≠ P → s.heap.get? b = some o → (h'.push (PySem.W.kla_obj "<lambda>" (X.env.qual ++ "<lambda>") params body scope (cloFrom X.env.cells scope.names []) pm c' ctv)).get? b = some o := fun b o hb e => Heap.get?_push_of_some _ (hx b o hb e)
    have ep := Heap.get?_push_of_some (PySem.W.kla_obj "<lambda>" (X.env.qual ++ "<lambda>") params body scope (cloFrom X.env.cells scope.names []) pm c' ctv) htb
    have el : (ps ++ #[rawInt pos.line, rawInt pos.col, Value.ref c']).toList = ps.toList ++ [rawInt pos.line, rawInt pos.col, .ref c'] := by simp
    have I1 := I.write (t' := tk) (x := P) (e := P) (by rw [hP]; trivial) (.inl rfl) kp ⟨_, ep⟩ (tabE_ok ep (by rw [el]; exact TriplesOk_snoc _ _ _ _ htr))
    have ltP : P < s.heap.objs.size := Heap.lt_size hps
    have nP : c' ≠ P := Nat.ne_of_gt (Nat.lt_of_lt_of_le ltP hge)
    have hc0 : upd H P (tabE P (ps ++ #[rawInt pos.line, rawInt pos.col, Value.ref c'])) c' = none := by rw [upd_ne nP]; exact I.hok.fresh hge
    have hrec' : (h'.push (PySem.W.kla_obj "<lambda>" (X.env.qual ++ "<lambda>") params body scope (cloFrom X.env.cells scope.names []) pm c' ctv)).CodeRec (.ref c') (X.env.qual ++ "<lambda>") := by
      obtain ⟨c2, o, vs, t, e1, e2, e3, e4⟩ := hrec
      exact ⟨c2, o, vs, t, e1, Heap.get?_push_of_some _ e2, e3, e4⟩
    have I2 := track I1 I hge hc0 (codO_ok (q := X.env.qual ++ "<lambda>") hrec')
    have fP : h'.objs.size ≠ P := Nat.ne_of_gt (Nat.lt_trans (Nat.lt_of_lt_of_le ltP hge) hlt)
    have fc : h'.objs.size ≠ c' := Nat.ne_of_gt hlt
    have hsz : s.heap.objs.size ≤ h'.objs.size := Nat.le_trans hge (Nat.le_of_lt hlt)
    have hf : H h'.objs.size = none := I.hok.fresh hsz
    have hf0 : upd (upd H P (tabE P (ps ++ #[rawInt pos.line, rawInt pos.col, Value.ref c']))) c' (CodO c' (X.env.qual ++ "<lambda>")) h'.objs.size = none := by rw [upd_ne fc, upd_ne fP]; exact hf
    have I3 := track (a := h'.objs.size) I2 I hsz hf0 (lamO_ok (Heap.get?_push_size _ rfl))
    have hcH : H c' = none := I.hok.fresh hge
    refine ⟨.ref h'.objs.size, _, I3, rfl, ?_⟩
    refine h _ c' _ (fun b o hb e => ?_) ⟨ps ++ #[rawInt pos.line, rawInt pos.col, Value.ref c'], ?_, fun pos' cv hcv => ?_⟩ fP hf upd_same (by rw [upd_ne fc.symm, upd_same])
    · rw [upd_ne (ne_of_none e hf), upd_ne (ne_of_none e hcH), upd_ne hb]; exact e
    · rw [upd_ne fP.symm, upd_ne nP.symm, upd_same]
    · rw [el] at hcv
      rcases among_snoc pos pos' _ _ _ htr hcv with z | z
      · obtain ⟨c2, n2, e2, h2⟩ := hcs pos' cv z
        exact ⟨c2, n2, e2, by rw [upd_ne (ne_of_none h2 hf), upd_ne (ne_of_none h2 hcH), upd_ne n2]; exact h2⟩
      · exact ⟨c', nP, z, by rw [upd_ne fc.symm, upd_same]⟩
end
end MG

set_option Elab.async false
set_option linter.all false
set_option maxRecDepth 100000
namespace MG
open PySem PySem.Spec PyProof.Rows L2
/-! ### a greater base -/
structure SubB (base base' : Heap) : Prop where
  get : ∀ b o, base.get? b = some o → base'.get? b = some o
  size : base.objs.size ≤ base'.objs.size
section
variable {P : Program} {w : World} {K : PySem.W.Frag} {mg : Str → Option Value} {base base' : Heap}
theorem SubB.refl (base : Heap) : SubB base base := ⟨fun _ _ e => e, Nat.le_refl _⟩
theorem SubB.trans {b1 b2 b3 : Heap} (x : SubB b1 b2) (y : SubB b2 b3) : SubB b1 b3 := ⟨fun b o e => y.get b o (x.get b o e), Nat.le_trans x.size y.size⟩
theorem modB (M : Mod K mg base) (S : SubB base base') : Mod K mg base' := ⟨M.kin.keeps S.get, M.glob.keeps S.get, let ⟨mb, h1, h2⟩ := M.blt; ⟨mb, h1.keeps S.get, h2⟩, M.nolimit.keeps S.get⟩
theorem envB {A : Around} {outer : List Env} {s : Shared} {H : Hp} (e : Env0 P w K mg base' A outer s H) (M : Mod K mg base) (S : SubB base base') : Env0 P w K mg base A outer s H :=
  ⟨e.frames, M, fun b o h => e.bs b o (S.get b o h), Nat.le_trans S.size e.bsz, PySem.W.funFrames_base (fun b o h => S.get b o h) e.funs, e.frf, e.hok, e.bare⟩
theorem fnB {CX : CXT} {k : Nat} {f : Addr} {fd : FuncData} {ps : List Str} {sp : Sp} (F : FnOk P w K mg base CX k f fd ps sp) (M : Mod K mg base) (S : SubB base base') : FnOk P w K mg base' CX k f fd ps sp :=
  ⟨F.len, fun A outer s H args us vs Q E hr e0 => F.run A outer s H args us vs Q E hr (envB e0 M S)⟩
theorem fnHB {k : Nat} {f : Addr} {fd : FuncData} {ps : List Str} {sp : Sp} (F : FnOkH P w K mg base k f fd ps sp) (M : Mod K mg base) (S : SubB base base') : FnOkH P w K mg base' k f fd ps sp :=
  ⟨F.len, fun A outer s H args us vs Q hr e0 => F.run A outer s H args us vs Q hr (envB e0 M S)⟩
theorem calEB {x : Str} {k : Nat} {ps : List Str} {sp : Sp} (C : CalE P w K mg base x k ps sp) (M : Mod K mg base) (S : SubB base base') : CalE P w K mg base' x k ps sp := let ⟨f, fd, h1, h2, h3⟩ := C.ex; ⟨f, fd, h1, fnB h2 M S, h3⟩
theorem calHB {x : Str} {k : Nat} {ps : List Str} {sp : Sp} (C : CalH P w K mg base x k ps sp) (M : Mod K mg base) (S : SubB base base') : CalH P w K mg base' x k ps sp := let ⟨f, fd, h1, h2, h3⟩ := C.ex; ⟨f, fd, h1, fnHB h2 M S, h3⟩
/-! ### all that is untracked, but the frames -/
def skyH (h : Heap) (H : Hp) (l : List Env) : Heap := PySem.W.hideAll h (trk h H ++ frs l)
theorem skyH_size (h : Heap) (H : Hp) (l : List Env) : (skyH h H l).objs.size = h.objs.size := PySem.W.hideAll_size _ _
theorem skyH_get {h : Heap} {H : Hp} {l : List Env} {b : Addr} {o : Obj} (e : h.get? b = some o) (n : H b = none) (hb : b ∉ frs l) : (skyH h H l).get? b = some o :=
  PySem.W.hideAll_get _ e fun m => by
    rcases List.mem_append.mp m with m | m
    · have q : (H b).isSome = true := (List.mem_filter.mp m).2
      rw [n] at q; simp at q
    · exact hb m
theorem of_skyH {h : Heap} {H : Hp} {l : List Env} {b : Addr} {o : Obj} (e : (skyH h H l).get? b = some o) : h.get? b = some o ∧ H b = none := by
  have e' : h.get? b = some o := PySem.W.of_hideAll _ e
  refine ⟨e', ?_⟩
  cases q : H b with
  | none => rfl
  | some x =>
    have hm : b ∈ trk h H := List.mem_filter.mpr ⟨List.mem_range.mpr (Heap.lt_size e'), by simp [q]⟩
    have z : (skyH h H l).get? b = none := PySem.W.hideAll_none _ (List.mem_append_left _ hm)
    rw [z] at e; cases e
/-! ### a function, by its address -/
structure LFn (P : Program) (w : World) (K : PySem.W.Frag) (mg : Str → Option Value) (base : Heap) (k : Nat) (f : Addr) (sp : Sp) : Prop where
  at' : ∀ (A : Around) (outer : List Env) (s : Shared) (H : Hp) (v : V) (Q : VK) (E : XK), Env0 P w K mg base A outer s H → sp [v] H Q E → PySem.W.FnAt f s.heap
  run : ∀ (A : Around) (outer : List Env) (s : Shared) (H : Hp) (u : Value) (v : V) (Q : VK) (E : XK), Room k A → Env0 P w K mg base A outer s H → RelV v u → sp [v] H Q E →
    codeAny (model P w) A (.call (.ref f) ⟨[u], []⟩) (CR (CXE P w) outer P w H s Q E) s
theorem LFn.imp {k : Nat} {f : Addr} {sp sp' : Sp} (L : LFn P w K mg base k f sp) (h : ∀ vs H Q E, sp' vs H Q E → sp vs H Q E) : LFn P w K mg base k f sp' :=
  ⟨fun A outer s H v Q E e q => L.at' A outer s H v Q E e (h _ _ _ _ q), fun A outer s H u v Q E hr e r q => L.run A outer s H u v Q E hr e r (h _ _ _ _ q)⟩
/-- a def of the text is one -/
theorem LFn.of {x : Str} {f : Addr} {fd : FuncData} {oc : Value} {od : Option Addr} {sl : Array (Option Value)} {k : Nat} {sp : Sp} (l : K.lookup f = some ⟨oc, od, .func fd, sl⟩) (F : FnOk P w K mg base (CXE P w) k f fd [x] sp) (B : Binds K fd [x] []) : LFn P w K mg base k f sp :=
  ⟨fun A outer s H v Q E e _ => ⟨_, _, _, _, (e.mod.kin.keeps fun b o z => (e.bs b o z).1) _ _ l⟩,
   fun A outer s H u v Q E hr e r q => F.run A outer s H ⟨[u], []⟩ [u] [v] Q E hr e (B s [u] (e.mod.kin.keeps fun b o z => (e.bs b o z).1) rfl) (.cons r .nil) q⟩
end
section
variable {X : Cx} {x : Str} {k kL : Nat} {ps : List Str} {p pos : Pos} {e : Expr} {es : List Expr} {t : TA} {E : XK}
/-- what is called stands in a name of one's own (slot i) -/
def tCallV (P : Program) (w : World) (K : PySem.W.Frag) (mg : Str → Option Value) (base : Heap) (k i : Nat) (E : XK) (t : TA) : TE := fun σ H Q => ∃ f sp, σ[i]? = some (some (.ref f)) ∧ LFn P w K mg base k f sp ∧ (∃ v Q E, sp [v] H Q E) ∧ t σ H fun vs H1 => ∃ v, vs = [v] ∧ sp [v] H1 Q E
theorem pe_callV {i : Nat} (hi : X.N[i]? = some x) (hv : Vis X.env.scope x) (hx : Passes (CXE X.prog X.w) X E) (hr : Room k X.A) (ha : PA X (e :: es) t) (hdb : (x == ("__debug__" : Str)) = false := by decide) (hcd : (x == ("__classdict__" : Str)) = false := by decide)
    (he : starEach (e :: es) X.env = (false, eval e X.env) :: starEach es X.env := by rfl) (hpl : (backTo pos (starEach es X.env)).any (·.1) = false := by rfl) : PE X (.Call (.Name x p) (e :: es) [] pos) (tCallV X.prog X.w X.K X.mg X.base k i E t) := by
  intro pins s σ H Q I ⟨f, sp, hf, L, ⟨v0, Q0, E1, h0⟩, h⟩
  refine wpAny_Call_Name_kw (thn (pe_var hi hv hdb hcd pins s σ H (fun v H' => v = .ref f ∧ H' = H) I ⟨_, hf, rfl, rfl⟩) fun u s1 ⟨v, H1, I1, r, e1, e2⟩ => ?_)
  subst e1 e2
  obtain rfl : u = Value.ref f := r
  refine PySem.W.callWith_F (L.at' _ _ _ _ _ _ _ I1.env0 h0) (thn (ha pos pins s1 σ H1 _ I1 h) fun us s2 ⟨vs, H2, I2, r2, v, ev, q⟩ => ?_) he hpl
  subst ev
  obtain ⟨u, rfl, ru⟩ := vals1 r2
  refine ⟨L.at' _ _ _ _ _ _ _ I2.env0 q, ?_⟩
  refine wpAny_call (codeAny_mono (L.run X.A X.stack s2 H2 u v Q E hr I2.env0 ru q) fun r s' hq => ?_)
  cases r with
  | error e => exact hx pins σ H2 s2 e s' I2 hq
  | ok fl =>
    cases fl with
    | ret u => exact I2.after hq
    | next => exact False.elim hq
    | brk => exact False.elim hq
    | cont => exact False.elim hq
theorem pe_callVK {P : Program} {w : World} {K : PySem.W.Frag} {mg : Str → Option Value} {base : Heap} (e1 : X.prog = P) (e2 : X.w = w) (e3 : X.K = K) (e4 : X.mg = mg) (e5 : X.base = base) {i : Nat} (hi : X.N[i]? = some x) (hv : Vis X.env.scope x) (hx : Passes (CXE X.prog X.w) X E) (hr : Room k X.A) (ha : PA X (e :: es) t) (hdb : (x == ("__debug__" : Str)) = false := by decide) (hcd : (x == ("__classdict__" : Str)) = false := by decide)
    (he : starEach (e :: es) X.env = (false, eval e X.env) :: starEach es X.env := by rfl) (hpl : (backTo pos (starEach es X.env)).any (·.1) = false := by rfl) : PE X (.Call (.Name x p) (e :: es) [] pos) (tCallV P w K mg base k i E t) := by
  subst e1 e2 e3 e4 e5; exact pe_callV hi hv hx hr ha hdb hcd he hpl
/-! ### a def that is handed a function -/
/-- a base that holds what a body's cells hold -/
structure BaseOk (X : Cx) (base' : Heap) (σ : L2.St) : Prop where
  sub : SubB X.base base'
  mod : Mod X.K X.mg X.base
  cell : ∀ (i : Nat) y v, X.fn y = true → X.N[i]? = some y → σ[i]? = some (some v) → (X.env.kindOf y = some .cell ∨ X.env.kindOf y = some .free) → ∃ c u, X.env.cells.lookup y = some c ∧ RelV v u ∧ base'.IsCell c (some u)
  inj : ∀ y z c, X.env.cells.lookup y = some c → X.env.cells.lookup z = some c → y = z
structure CalF (P : Program) (w : World) (K : PySem.W.Frag) (mg : Str → Option Value) (base : Heap) (x : Str) (k kL : Nat) (ps : List Str) (spF : Addr → Sp → Sp) : Prop where
  ex : ∃ g gd, mg x = some (.ref g) ∧ PySem.W.keepIn K (.ref g) = true ∧ Binds K gd ps [] ∧ ∀ base' f spL, SubB base base' → Mod K mg base → LFn P w K mg base' kL f spL → FnOk P w K mg base' CX0 k g gd ps (spF f spL)
def tCalF (X : Cx) (kL : Nat) (spF : Addr → Sp → Sp) (t : TA) : TE := fun σ H Q => t σ H fun vs H1 => ∃ f spL, (∀ base', BaseOk X base' σ → LFn X.prog X.w X.K X.mg base' kL f spL) ∧ spF f spL vs H1 Q E0
theorem pe_calF {spF : Addr → Sp → Sp} (C : CalF X.prog X.w X.K X.mg X.base x k kL ps spF) (hr : Room k X.A) (hg : Gl X x) (ha : PA X (e :: es) t) (hdb : (x == ("__debug__" : Str)) = false := by decide)
    (he : starEach (e :: es) X.env = (false, eval e X.env) :: starEach es X.env := by rfl) (hpl : (backTo pos (starEach es X.env)).any (·.1) = false := by rfl) : PE X (.Call (.Name x p) (e :: es) [] pos) (tCalF X kL spF t) := by
  obtain ⟨g, gd, hm, hk, hb, F⟩ := C.ex
  intro pins s σ H Q I h
  refine wpAny_Call_Name_kw (ld_glob I hg hm ?_ hdb)
  refine PySem.W.callWith_K (h₀ := X.base) I.ok.mod.kin hk (thn (ha pos pins s σ H _ I h) fun us s1 ⟨vs, H1, I1, r, f, spL, hL, q⟩ => ⟨I1.kIn, ?_⟩) he hpl
  have fr0 : ∀ b ∈ frs X.stack, H1 b = none := I1.stkFree
  have sub : SubB X.base (skyH s1.heap H1 X.stack) := by
    refine ⟨fun b o e => skyH_get (I1.bs b o e).1 (I1.bs b o e).2 fun hb => ?_, by rw [skyH_size]; exact Nat.le_trans I1.ok.bsz I1.sz⟩
    have := (I1.stack.mem hb).1
    rw [e] at this; cases this
  have bo : BaseOk X (skyH s1.heap H1 X.stack) σ := by
    refine ⟨sub, I1.ok.mod, fun i y v h0 h1 h2 h3 => ?_, I1.ok.inj⟩
    obtain ⟨m, _, hl⟩ := I1.loc
    have vis : Vis X.env.scope y := by
      rcases h3 with z | z
      · exact .inr (.inl z)
      · exact .inr (.inr z)
    obtain ⟨u, rv, lk⟩ := hl i y v h1 h2 vis
    rcases lk with ⟨kl, _⟩ | ⟨_, c, hc, ⟨o, ho, hd⟩⟩
    · rcases h3 with z | z <;> rw [z] at kl <;> cases kl
    · refine ⟨c, u, hc, rv, o, skyH_get ho (I1.freeC y c hc) fun hb => ?_, hd⟩
      rcases List.mem_cons.mp (I1.stkSub c hb) with z | z
      · obtain ⟨_, ⟨o2, es2, ep2, e2, d2, _⟩, _⟩ := I1.loc
        subst z
        rw [ho] at e2; cases e2
        rw [hd] at d2; cases d2
      · obtain ⟨_, o2, e2, _⟩ := I1.ok.funs.mem z
        exact absurd (Nat.lt_of_lt_of_le (Heap.lt_size e2) (I1.ok.cab y c h0 hc)) (Nat.lt_irrefl _)
  have e0 : Env0 X.prog X.w X.K X.mg (skyH s1.heap H1 X.stack) X.A X.stack s1 H1 := by
    have e1 := I1.env0
    refine ⟨e1.frames, modB I1.ok.mod sub, fun b o e => of_skyH e, by rw [skyH_size]; exact Nat.le_refl _, ?_, e1.frf, e1.hok, e1.bare⟩
    exact PySem.W.funFrames_hide I1.stack fun env he a hf => List.mem_append_right _ (frs_mem he hf)
  have F1 := F _ f spL sub I1.ok.mod (hL _ bo)
  have hl : us.length = ps.length := by rw [← r.length]; exact F1.len _ _ _ _ q
  refine wpAny_call (codeAny_mono (F1.run X.A X.stack s1 H1 ⟨us, []⟩ us vs Q E0 hr e0 (by simpa using hb s1 us I1.kIn (by simpa using hl)) r q) fun r s' hq => ?_)
  cases r with
  | error e => exact False.elim hq
  | ok fl =>
    cases fl with
    | ret u => exact I1.after hq
    | next => exact False.elim hq
    | brk => exact False.elim hq
    | cont => exact False.elim hq
end
end MG

set_option Elab.async false
set_option linter.all false
set_option maxRecDepth 100000
namespace MG
open PySem PySem.Spec PyProof.Rows L2
theorem ps_nox {X : Cx} {st : Stmt} {t : TS} (h : PS X.nox st t) : PS X st t := fun pins s σ H D I hw =>
  wpAny_mono (h pins s σ H D (I.wish _) hw) (fun _ _ q => q.unwish) fun _ _ z => False.elim z
/-! ### a lambda is called -/
/-- the scope of a lambda of one parameter x; N: its names, x first -/
structure LamSc (N : List Str) (x : Str) (sc : Scope) : Prop where
  kind : sc.kind = .function
  co : sc.isCoroutine = false
  gen : sc.isGenerator = false
  nd : N.Nodup
  hd : N[0]? = some x
  par : sc.names.lookup x = some .local
  fr : ∀ i y, N[i + 1]? = some y → sc.names.lookup y = some .free
  noc : ∀ y ∈ sc.names, y.2 ≠ .cell
def cxL (P : Program) (w : World) (K : PySem.W.Frag) (mg : Str → Option Value) (base : Heap) (N : List Str) (qual : Str) (scope : Scope) (f c : Addr) (cl : List (Str × Addr)) (A : Around) (outer : List Env) (s : Shared) (H : Hp) (E : XK) : Cx where
  prog := P
  w := w
  K := K
  mg := mg
  base := base
  A := A.deeper (PySem.W.envX qual scope s.heap.objs.size f (.ref c) cl)
  N := N
  s_0 := s
  H_0 := H
  env := PySem.W.envX qual scope s.heap.objs.size f (.ref c) cl
  outer := outer
  stack := PySem.W.envX qual scope s.heap.objs.size f (.ref c) cl :: outer
  ex := []
  calm := true
  fn := fun _ => false
  pn := []
  xe := fun e s' => wpAny (model P w) (A.deeper (PySem.W.envX qual scope s.heap.objs.size f (.ref c) cl)) (leaving (PySem.W.envX qual scope s.heap.objs.size f (.ref c) cl) e) (fun _ s'' => CXE P w outer H s E e s'') (fun e' s'' => CXE P w outer H s E e' s'') s'
section
variable {P : Program} {w : World} {K : PySem.W.Frag} {mg : Str → Option Value} {base : Heap} {N : List Str} {x qual : Str} {scope : Scope} {params : Arguments} {body : Expr} {f c : Addr} {cl : List (Str × Addr)} {ws : List V} {k : Nat}
/-- the cells hold what is known of the names -/
structure ClOk (base : Heap) (N : List Str) (scope : Scope) (cl : List (Str × Addr)) (ws : List V) : Prop where
  has : ∀ y, scope.names.lookup y = some .free → ∃ c, cl.lookup y = some c
  only : ∀ y c, cl.lookup y = some c → ∃ v, base.IsCell c v
  inj : ∀ y z c, cl.lookup y = some c → cl.lookup z = some c → y = z
  val : ∀ (i : Nat) y v, N[i + 1]? = some y → ws[i]? = some v → ∃ c u, cl.lookup y = some c ∧ RelV v u ∧ base.IsCell c (some u)
  len : N.length = ws.length + 1
theorem lam_start {A : Around} {outer : List Env} {s : Shared} {H : Hp} {E : XK} {u : Value} {v : V} {h' : Heap} {tk : Nat} (S : LamSc N x scope) (C : ClOk base N scope cl ws) (hd : A.handled = none) (e0 : Env0 P w K mg base A outer s H) (r : RelV v u)
    (hns : h'.Ns s.heap.objs.size (fun y => ([(x, u)] : List (Str × Value)).reverse.lookup y)) (hk : ∀ b o, s.heap.get? b = some o → h'.get? b = some o) :
    Inv (cxL P w K mg base N qual scope f c cl A outer s H E) [] (some v :: ws.map some) H { s with heap := h', toks := tk } := by
  have noA : ∀ b : Addr, b ∉ (cxL P w K mg base N qual scope f c cl A outer s H E).ex := fun b z => absurd (show b ∈ ([] : List Addr) from z) (by simp)
  refine ⟨⟨e0.mod, S.kind, rfl, rfl, Nat.le_refl _, C.inj, fun y hy => ?_, fun y c z => (nomatch z), fun _ => hd, Around.frames_deeper e0.frames, .inr ⟨rfl, rfl⟩, fun b z => absurd z (noA b), e0.bs, e0.bsz, fun b _ _ => noA b, fun b z => absurd z (noA b), e0.funs, e0.frf⟩,
    rfl, e0.bare, Un.kept hk, ⟨_, hns, fun i y v' h1 h2 h3 => ?_⟩, fun y c h => ?_, e0.hok.fresh (Nat.le_refl _), fun y c h => ?_, fun p hp => absurd (show p ∈ ([] : List (Addr × Obj)) from hp) (by simp), e0.hok.kept hk, ?_⟩
  · have hy : scope.names.lookup y = some .cell ∨ scope.names.lookup y = some .free := hy
    rcases hy with hy | hy
    · exact absurd rfl (S.noc _ (PySem.mem_of_lookup hy))
    · exact C.has y hy
  · cases i with
    | zero =>
      have ey : x = y := Option.some.inj (S.hd.symm.trans h1)
      subst ey
      have ev : v = v' := by simpa using h2
      subst ev
      exact ⟨u, r, .inl ⟨S.par, by simp⟩⟩
    | succ i =>
      have h2 : ws[i]? = some v' := by
        have h2 : (ws.map some)[i]? = some (some v') := h2
        rw [List.getElem?_map] at h2
        cases q : ws[i]? with
        | none => rw [q] at h2; cases h2
        | some z => rw [q] at h2; cases h2; rfl
      obtain ⟨c', u', hc, rv, o, ho, hdc⟩ := C.val i y v' h1 h2
      exact ⟨u', rv, .inr ⟨.inr (S.fr i y h1), c', hc, o, hk _ _ (e0.bs _ _ ho).1, hdc⟩⟩
  · obtain ⟨v, o, ho, hdc⟩ := C.only y c h
    exact ⟨v, o, hk _ _ (e0.bs _ _ ho).1, hdc⟩
  · obtain ⟨v, o, ho, _⟩ := C.only y c h
    exact (e0.bs _ _ ho).2
  · show _ = N.length
    rw [C.len, List.length_cons, List.length_map]
/-- what a lambda's call asks: the heap with it, its body's reading t -/
def spLamF (f c : Addr) (qual : Str) (params : Arguments) (body : Expr) (scope : Scope) (cl : List (Str × Addr)) (ws : List V) (t : XK → TE) : Sp := fun vs H Q E => ∃ v, vs = [v] ∧ H f = some (LamO f qual params body scope cl c) ∧ H c = some (CodO c qual) ∧ t E (some v :: ws.map some) H Q
theorem lam_fn {t : XK → TE} (S : LamSc N x scope) (C : ClOk base N scope cl ws) (hb : ∀ pm ctv u, bindArgs (PySem.W.kla_fn "<lambda>" qual params body scope cl pm (.ref c) ctv) ⟨[u], []⟩ = pure [(x, u)])
    (hbody : ∀ (A : Around) (outer : List Env) (s : Shared) (H : Hp) (E : XK), Room k (A.deeper (PySem.W.envX qual scope s.heap.objs.size f (.ref c) cl)) → PE (cxL P w K mg base N qual scope f c cl A outer s H E) body (t E)) :
    LFn P w K mg base (k + 1) f (spLamF f c qual params body scope cl ws t) := by
  refine ⟨fun A outer s H v Q E e0 ⟨v', _, hf, _, _⟩ => ?_, fun A outer s H u v Q E hr e0 r ⟨v', ev, hf, hc, ht⟩ => ?_⟩
  · obtain ⟨⟨pm, ctv, e⟩, _, _⟩ := e0.hok f _ hf
    exact ⟨_, _, _, _, e⟩
  · obtain rfl : v = v' := by simpa using ev
    obtain ⟨⟨pm, ctv, e⟩, _, _⟩ := e0.hok f _ hf
    obtain ⟨hcd, _, _⟩ := e0.hok c _ hc
    have lim : s.heap.NoLimit := e0.mod.nolimit.keeps fun b o e => (e0.bs b o e).1
    refine PySem.W.kla_callFunE hr.depth e rfl S.co S.gen rfl hcd ?_
    rw [hb pm ctv u]
    refine wpAny_pure (wpAny_newFunctionEnv S.noc (fun y hy => ?_) (fun h1 hns hsb => ?_) S.kind)
    · rw [List.mem_singleton.mp hy]; exact S.par
    · have hk : ∀ b o, s.heap.get? b = some o → h1.get? b = some o := fun b o e => hsb.extBut b o (Nat.ne_of_lt (Heap.lt_size e)) (Heap.get?_push_of_some _ e)
      refine ⟨lim.keeps hk, ?_⟩
      have I := lam_start (qual := qual) (f := f) (c := c) (E := E) (tk := s.toks + 1) S C hr.hd e0 r hns hk
      refine PySem.W.kla_codeExpr (wpAny_mono (hbody A outer s H E (hr.deeper _) [] _ _ H Q I ht) (fun u' s' ⟨v', H', J, rv, q⟩ => ?_) fun e' s' h => h)
      exact ⟨v', H', J.os, J.bare, J.base, J.hok, rv, q⟩
/-- an error of a callee leaves a lambda's body -/
theorem flL {A : Around} {outer : List Env} {s : Shared} {H : Hp} {E : XK} : Fl (cxL P w K mg base N qual scope f c cl A outer s H E) E := ⟨rfl, rfl, rfl, rfl⟩
end
end MG

set_option Elab.async false
set_option linter.all false
set_option maxRecDepth 100000
namespace MG
open PySem PySem.Spec PyProof.Rows L2
/-! ### things of any kind -/
inductive Th where
  | non | int (i : Int) | bl (b : Bool) | str (x : Str) | lst (xs : List Th) | tup (xs : List Th) | dct (n : Nat)
inductive ThAt (H : Hp) : V → Th → Prop
  | non : ThAt H .non .non
  | int (i : Int) : ThAt H (.int i) (.int i)
  | bl (b : Bool) : ThAt H (.bl b) (.bl b)
  | str (x : Str) : x.length ≤ sizeLine → ThAt H (.str x) (.str x)
  | lst {a : Addr} {xs : List V} {ds : List Th} : H a = some (.lst xs) → Paired (ThAt H) xs ds → ThAt H (.ref a) (.lst ds)
  | tup {a : Addr} {xs : List V} {ds : List Th} : H a = some (.tup xs) → Paired (ThAt H) xs ds → ThAt H (.ref a) (.tup ds)
  | dct {a : Addr} {kvs : List (Key × V)} : H a = some (.dK kvs) → ThAt H (.ref a) (.dct kvs.length)
abbrev ThsAt (H : Hp) (xs : List V) (ds : List Th) : Prop := Paired (ThAt H) xs ds
mutual
theorem ThAt.same {H H' : Hp} (k : Same H H') : ∀ (d : Th) {v : V}, ThAt H v d → ThAt H' v d
  | _, _, .non => .non
  | _, _, .int i => .int i
  | _, _, .bl i => .bl i
  | _, _, .str x h => .str x h
  | .lst ds, _, .lst h p => .lst (k _ _ h) (ThsAt.same k ds p)
  | .tup ds, _, .tup h p => .tup (k _ _ h) (ThsAt.same k ds p)
  | _, _, .dct h => .dct (k _ _ h)
theorem ThsAt.same {H H' : Hp} (k : Same H H') : ∀ (ds : List Th) {xs : List V}, ThsAt H xs ds → ThsAt H' xs ds
  | [], _, .nil => .nil
  | d :: ds, _, .cons r t => .cons (ThAt.same k d r) (ThsAt.same k ds t)
end
def Th.ty : Th → String
  | .non => "NoneType" | .int _ => "int" | .bl _ => "bool" | .str _ => "str" | .lst _ => "list" | .tup _ => "tuple" | .dct _ => "dict"
theorem ThAt.tyOf {K : PySem.W.Frag} {H : Hp} {v : V} {d : Th} (h : ThAt H v d) : TyOf K H v (.type d.ty) := by
  cases h with
  | non => exact .non
  | int i => exact .int i
  | bl b => exact .bl b
  | str x _ => exact .str x
  | lst h _ => exact .lst h
  | tup h _ => exact .tup h
  | dct h => exact .dK h
def Th.isTup : Th → Bool | .tup _ => true | _ => false
def Th.isLst : Th → Bool | .lst _ => true | _ => false
def Th.isStr : Th → Bool | .str _ => true | _ => false
def Th.isInt : Th → Bool | .int _ => true | .bl _ => true | _ => false
def Th.isBl : Th → Bool | .bl _ => true | _ => false
theorem kit_tup (K : PySem.W.Frag) (d : Th) : PySem.W.kitOne K (.type d.ty) (.type "tuple") = some d.isTup := by cases d <;> rfl
theorem kit_lst (K : PySem.W.Frag) (d : Th) : PySem.W.kitOne K (.type d.ty) (.type "list") = some d.isLst := by cases d <;> rfl
theorem kit_str (K : PySem.W.Frag) (d : Th) : PySem.W.kitOne K (.type d.ty) (.type "str") = some d.isStr := by cases d <;> rfl
theorem kit_int (K : PySem.W.Frag) (d : Th) : PySem.W.kitOne K (.type d.ty) (.type "int") = some d.isInt := by cases d <;> rfl
theorem kit_bl (K : PySem.W.Frag) (d : Th) : PySem.W.kitOne K (.type d.ty) (.type "bool") = some d.isBl := by cases d <;> rfl
/-! ### written things -/
/-- names: their slots, what they hold -/
abbrev Rho := List (Str × Nat × Th)
def Rho.on (ρ : Rho) (σ : L2.St) (H : Hp) : Prop := ∀ p ∈ ρ, ∃ v, σ[p.2.1]? = some (some v) ∧ ThAt H v p.2.2
structure Rho.ok (ρ : Rho) (X : Cx) : Prop where
  at' : ∀ p ∈ ρ, X.N[p.2.1]? = some p.1 ∧ Vis X.env.scope p.1 ∧ (p.1 == ("__debug__" : Str)) = false ∧ (p.1 == ("__classdict__" : Str)) = false
def litIs : Nat → Rho → Expr → Option Int
  | 0, _, _ => none
  | n + 1, ρ, e => match e with
    | .Constant (.int i) _ _ => some i
    | .Name x _ => match ρ.lookup x with
      | some (_, .int i) => some i
      | _ => none
    | .UnaryOp .USub a _ => (litIs n ρ a).map fun i => -i
    | .BinOp a .Add b _ => match litIs n ρ a, litIs n ρ b with
      | some i, some j => some (i + j)
      | _, _ => none
    | .BinOp a .Sub b _ => match litIs n ρ a, litIs n ρ b with
      | some i, some j => some (i - j)
      | _, _ => none
    | .BinOp a .Mod (.Constant (.int j) _ _) _ => match litIs n ρ a with
      | some i => if 0 < j then some (i % j) else none
      | _ => none
    | _ => none
def tLitI (ρ : Rho) (i : Int) : TE := fun σ H Q => ρ.on σ H ∧ Q (.int i) H
theorem lookup_mem {α β : Type} [BEq α] [LawfulBEq α] {a : α} {b : β} : ∀ {l : List (α × β)}, l.lookup a = some b → (a, b) ∈ l
  | (k, v) :: r, h => by
    rw [List.lookup_cons] at h
    split at h
    · rename_i e; cases h; rw [eq_of_beq e]; exact List.mem_cons_self
    · exact List.mem_cons_of_mem _ (lookup_mem h)
section
variable {X : Cx} {ρ : Rho}
theorem pe_lname {x : Str} {pos : Pos} {i : Nat} {d : Th} (R : ρ.ok X) (h : ρ.lookup x = some (i, d)) : PE X (.Name x pos) (fun σ H Q => ρ.on σ H ∧ ∀ v, ThAt H v d → Q v H) := by
  intro pins s σ H Q I ⟨hr, q⟩
  have m := lookup_mem h
  obtain ⟨h1, h2, h3, h4⟩ := R.at' _ m
  obtain ⟨v, e, hv⟩ := hr _ m
  exact pe_var h1 h2 h3 h4 pins s σ H Q I ⟨v, e, q v hv⟩
theorem pe_litI : ∀ (n : Nat) (e : Expr) (i : Int), litIs n ρ e = some i → ρ.ok X → PE X e (tLitI ρ i)
  | 0, _, _, h, _ => by simp [litIs] at h
  | n + 1, e, i, h, R => by
    unfold litIs at h
    split at h
    · cases h; exact fun pins s σ H Q I q => pe_int pins s σ H Q I q.2
    · split at h
      · rename_i hl
        cases h
        refine fun pins s σ H Q I q => pe_lname R hl pins s σ H Q I ⟨q.1, fun v hv => ?_⟩
        cases hv; exact q.2
      · cases h
    · obtain ⟨j, hj, rfl⟩ := Option.map_eq_some_iff.mp h
      exact fun pins s σ H Q I q => pe_un un_neg (pe_litI n _ j hj R) pins s σ H Q I ⟨q.1, _, rfl, q.2⟩
    · split at h
      · rename_i a b ha hb
        cases h
        exact fun pins s σ H Q I q => pe_op op_add (pe_litI n _ _ ha R) (pe_litI n _ _ hb R) pins s σ H Q I ⟨q.1, q.1, _, _, rfl, rfl, q.2⟩
      · cases h
    · split at h
      · rename_i a b ha hb
        cases h
        exact fun pins s σ H Q I q => pe_op op_sub (pe_litI n _ _ ha R) (pe_litI n _ _ hb R) pins s σ H Q I ⟨q.1, q.1, _, _, rfl, rfl, q.2⟩
      · cases h
    · split at h
      · rename_i a ha
        split at h
        · rename_i hj
          cases h
          exact fun pins s σ H Q I q => pe_op op_mod (pe_litI n _ _ ha R) pe_int pins s σ H Q I ⟨q.1, _, _, rfl, rfl, hj, q.2⟩
        · cases h
      · cases h
    · cases h
end
end MG

set_option Elab.async false
set_option linter.all false
set_option maxRecDepth 100000
namespace MG
open PySem PySem.Spec PyProof.Rows L2
/-- a text n times -/
def repS (x : Str) (n : Int) : Str := if n < 1 then Str.empty else if (n == 1 || x.length == 0) = true then x else ⟨(List.replicate n.toNat x.cps).foldl (· ++ ·) #[]⟩
theorem rep_fold (x : Array Nat) : ∀ (k : Nat) (a : Array Nat), ((List.replicate k x).foldl (· ++ ·) a).size = a.size + k * x.size
  | 0, a => by simp
  | k + 1, a => by rw [List.replicate_succ, List.foldl_cons, rep_fold x k, Array.size_append, Nat.succ_mul]; omega
theorem repS_len (x : Str) (n : Int) (h : 0 ≤ n) : (repS x n).length = n.toNat * x.length := by
  unfold repS
  split
  · have : n = 0 := by omega
    subst this
    simp [Str.length, Str.empty]
  · split
    · rename_i h1 h2
      simp only [Bool.or_eq_true, beq_iff_eq] at h2
      rcases h2 with h2 | h2
      · subst h2; simp
      · rw [h2]; simp
    · show ((List.replicate n.toNat x.cps).foldl (· ++ ·) #[]).size = _
      rw [rep_fold]; simp [Str.length]
theorem op_repS {X : Cx} : OpR X (binaryOp .Mult) (fun x y H Q => ∃ a n, x = .str a ∧ y = .int n ∧ 0 ≤ n ∧ n ≤ 1000 ∧ a.length ≤ 1000 ∧ Q (.str (repS a n)) H) := by
  intro pins s σ H x y v u Q I rx ry h
  obtain ⟨a, n, rfl, rfl, h1, h2, h3, q⟩ := h
  obtain ⟨t1, rfl⟩ := rx
  obtain ⟨t2, rfl⟩ := ry
  have hz : a.length * n.toNat ≤ sizeLine := by
    rw [sizeLine_eq]
    have : a.length * n.toNat ≤ 1000 * 1000 := Nat.mul_le_mul h3 (by omega)
    omega
  refine PySem.P.mul_str ?_ (fun g1 g2 => ?_) (fun g1 g2 => ?_) ?_
  · rw [decide_eq_false (by omega), decide_eq_false (by omega)]; rfl
  · have z : (a.length : Int) * n ≤ 2 ^ 63 - 1 := by
      have z1 : (a.length : Int) * n ≤ 1000 * 1000 := Int.mul_le_mul (by omega) h2 h1 (by decide)
      omega
    have := Int.le_ediv_of_mul_le (show (0 : Int) < n by omega) z
    omega
  · exact decide_eq_false (by omega)
  · unfold repS at q
    split
    · rename_i g
      rw [if_pos g] at q
      exact ⟨by decide, .str _, _, I.tok _, ⟨_, rfl⟩, q⟩
    · rename_i g
      rw [if_neg g] at q
      split
      · rename_i g2
        rw [if_pos g2] at q
        exact ⟨.str _, _, I, ⟨_, rfl⟩, q⟩
      · rename_i g2
        rw [if_neg g2] at q
        refine ⟨?_, .str _, _, I.tok _, ⟨_, rfl⟩, q⟩
        show ((List.replicate n.toNat a.cps).foldl (· ++ ·) #[]).size ≤ _
        rw [rep_fold, Nat.mul_comm, show a.cps.size = a.length from rfl]
        simpa using hz
/-! ### displays of written things -/
/-- what is written, and the counts that it asks to be small -/
def lits (f : Expr → Option (Th × List Int)) : List Expr → Option (List Th × List Int)
  | [] => some ([], [])
  | e :: r => match f e, lits f r with
    | some (d, c), some (ds, cs) => some (d :: ds, c ++ cs)
    | _, _ => none
def litN (n : Nat) (ρ : Rho) (e : Expr) : Option (Th × List Int) := match litIs n ρ e with
  | some i => some (.int i, [])
  | none => match e with
    | .Name x _ => match ρ.lookup x with
      | some (_, d) => some (d, [])
      | none => none
    | .Constant .none _ _ => some (.non, [])
    | .Constant (.bool b) _ _ => some (.bl b, [])
    | .Constant (.str x) _ _ => if x.length ≤ 1000 then some (.str x, []) else none
    | .Dict [] [] _ => some (.dct 0, [])
    | _ => none
def lit : Nat → Rho → Expr → Option (Th × List Int)
  | 0, _, _ => none
  | n + 1, ρ, e => match litN n ρ e with
    | some r => some r
    | none => match e with
      | .Tuple es _ _ => match lits (lit n ρ) es with
        | some (ds, cs) => if ds.length ≤ 1000 then some (.tup ds, cs) else none
        | none => none
      | .List es _ => match lits (lit n ρ) es with
        | some (ds, cs) => if ds.length ≤ 1000 then some (.lst ds, cs) else none
        | none => none
      | .Dict [some (.Constant (.str k) _ _)] [v] _ => match lit n ρ v with
        | some (_, cs) => if k.length ≤ 8 then some (.dct 1, cs) else none
        | none => none
      | .BinOp a .Add b _ => match lit n ρ a, lit n ρ b with
        | some (.lst xs, cs), some (.lst ys, ds) => if xs.length + ys.length ≤ 1000 then some (.lst (xs ++ ys), cs ++ ds) else none
        | _, _ => none
      | .BinOp a .Mult b _ => match lit n ρ a, litIs n ρ b with
        | some (.str x, cs), some i => if x.length ≤ 1000 then some (.str (repS x i), i :: cs) else none
        | some (.lst xs, cs), some i => if xs.length ≤ 1000 then some (.lst (List.replicate i.toNat xs).flatten, i :: cs) else none
        | _, _ => none
      | _ => none
/-- what is made anew -/
def freshE : Expr → Bool
  | .List _ _ => true | .BinOp _ _ _ _ => true | _ => false
/-- heaps that grow: H to H', within it G to G', of which nothing else of H becomes a part -/
structure Gr (H H' G G' : Hp) : Prop where
  sH : Same H H'
  sG : Same G G'
  sub : Same G' H'
  new : ∀ b, H b ≠ none → G b = none → G' b = none
theorem g1_none {G H : Hp} {p : Addr} (s : Same G H) (h : H p = none) : G p = none := by
  cases q : G p with
  | none => rfl
  | some u => rw [s _ _ q] at h; cases h
theorem Gr.refl {H G : Hp} (h : Same G H) : Gr H H G G := ⟨Same.refl _, Same.refl _, h, fun _ _ z => z⟩
theorem Gr.trans {H H1 H2 G G1 G2 : Hp} (a : Gr H H1 G G1) (b : Gr H1 H2 G1 G2) : Gr H H2 G G2 := ⟨a.sH.trans b.sH, a.sG.trans b.sG, b.sub, fun x h g => b.new x (fun z => by
  cases q : H x with
  | none => exact h q
  | some o => rw [a.sH _ _ q] at z; cases z) (a.new x h g)⟩
theorem Gr.add {H H1 G G1 : Hp} (a : Gr H H1 G G1) {p : Addr} (hp : H1 p = none) (o : HO) : Gr H (upd H1 p o) G (upd G1 p o) := by
  have g1 : G1 p = none := by
    cases q : G1 p with
    | none => rfl
    | some u => rw [a.sub _ _ q] at hp; cases hp
  refine ⟨supd a.sH hp, supd a.sG g1, fun b u e => ?_, fun b h g => ?_⟩
  · by_cases z : b = p
    · subst z; rw [upd_same] at e ⊢; exact e
    · rw [upd_ne z] at e ⊢; exact a.sub _ _ e
  · have z : b ≠ p := fun z => by
      subst z
      cases q : H b with
      | none => exact h q
      | some u => rw [a.sH _ _ q] at hp; cases hp
    rw [upd_ne z]; exact a.new b h g
def tLit (ρ : Rho) (e : Expr) (d : Th) (cs : List Int) : TE := fun σ H Q => ∃ G, Same G H ∧ ρ.on σ G ∧ (∀ i ∈ cs, 0 ≤ i ∧ i ≤ 100) ∧ ∀ v H' G', Gr H H' G G' → ThAt G' v d → (freshE e = true → ∀ l, v = .ref l → H l = none) → Q v H'
def tLits (ρ : Rho) (ds : List Th) (cs : List Int) : TA := fun σ H Q => ∃ G, Same G H ∧ ρ.on σ G ∧ (∀ i ∈ cs, 0 ≤ i ∧ i ≤ 100) ∧ ∀ vs H' G', Gr H H' G G' → ThsAt G' vs ds → Q vs H'
theorem Rho.on.same {ρ : Rho} {σ : L2.St} {H H' : Hp} (h : ρ.on σ H) (k : Same H H') : ρ.on σ H' := fun p hp => let ⟨v, e, t⟩ := h p hp; ⟨v, e, t.same k⟩
theorem pairedApp {α β : Type} {F : α → β → Prop} : ∀ {l : List α} {m : List β} {l' : List α} {m' : List β}, Paired F l m → Paired F l' m' → Paired F (l ++ l') (m ++ m')
  | _, _, _, _, .nil, k => k
  | _, _, _, _, .cons r t, k => .cons r (pairedApp t k)
theorem pairedRep {α β : Type} {F : α → β → Prop} {l : List α} {m : List β} (h : Paired F l m) : ∀ k : Nat, Paired F (List.replicate k l).flatten (List.replicate k m).flatten
  | 0 => .nil
  | k + 1 => by rw [List.replicate_succ, List.flatten_cons, List.replicate_succ, List.flatten_cons]; exact pairedApp h (pairedRep h k)
section
variable {X : Cx} {ρ : Rho}
theorem star_lit {n : Nat} {e : Expr} {es : List Expr} {r : Th × List Int} (h : lit n ρ e = some r) : starEach (e :: es) X.env = (false, eval e X.env) :: starEach es X.env := by
  cases e <;> first | rfl | skip
  cases n with
  | zero => simp [lit] at h
  | succ n => simp [lit, litN, litIs] at h; cases n <;> simp [litIs] at h
theorem pe_litN {n : Nat} {e : Expr} {d : Th} {cs : List Int} (h : litN n ρ e = some (d, cs)) (R : ρ.ok X) : PE X e (tLit ρ e d cs) := by
  unfold litN at h
  split at h
  · rename_i i hi
    cases h
    exact fun pins s σ H Q I ⟨G, g, on, _, q⟩ => pe_litI n e i hi R pins s σ H Q I ⟨on.same g, q _ _ _ (Gr.refl g) (.int i) fun _ _ z => nomatch z⟩
  · split at h
    · split at h
      · rename_i hl
        cases h
        intro pins s σ H Q I ⟨G, g, on, _, q⟩
        have m := lookup_mem hl
        obtain ⟨h1, h2, h3, h4⟩ := R.at' _ m
        obtain ⟨v, e, hv⟩ := on _ m
        exact pe_var h1 h2 h3 h4 pins s σ H Q I ⟨v, e, q _ _ _ (Gr.refl g) hv fun z => nomatch z⟩
      · cases h
    · cases h; exact fun pins s σ H Q I ⟨G, g, on, _, q⟩ => pe_non pins s σ H Q I (q _ _ _ (Gr.refl g) .non fun z => nomatch z)
    · cases h; exact fun pins s σ H Q I ⟨G, g, on, _, q⟩ => pe_bl pins s σ H Q I (q _ _ _ (Gr.refl g) (.bl _) fun z => nomatch z)
    · split at h
      · rename_i hl
        cases h; exact fun pins s σ H Q I ⟨G, g, on, _, q⟩ => pe_str pins s σ H Q I (q _ _ _ (Gr.refl g) (.str _ (by rw [sizeLine_eq]; omega)) fun z => nomatch z)
      · cases h
    · cases h; exact fun pins s σ H Q I ⟨G, g, on, _, q⟩ => pe_dnewK pins s σ H Q I fun p hp => q _ _ _ ((Gr.refl g).add hp _) (.dct (kvs := []) upd_same) fun z => nomatch z
    · cases h
theorem pa_lits {n : Nat} (ih : ∀ e d cs, lit n ρ e = some (d, cs) → PE X e (tLit ρ e d cs)) : ∀ (es : List Expr) (ds : List Th) (cs : List Int), lits (lit n ρ) es = some (ds, cs) → PA X es (tLits ρ ds cs)
  | [], ds, cs, h => by
    simp only [lits, Option.some.injEq, Prod.mk.injEq] at h
    obtain ⟨rfl, rfl⟩ := h
    exact fun pos pins s σ H Q I ⟨G, g, on, _, q⟩ => pa_nil pos pins s σ H Q I (q _ _ _ (Gr.refl g) .nil)
  | e :: r, ds, cs, h => by
    unfold lits at h
    split at h
    · rename_i d c ds' cs' h1 h2
      cases h
      intro pos pins s σ H Q I ⟨G, g, q1, q2, q3⟩
      refine pa_cons (ih e d c h1) (pa_lits ih r ds' cs' h2) (star_lit h1) pos pins s σ H Q I ⟨G, g, q1, fun i hi => q2 i (List.mem_append_left _ hi), fun v H1 G1 s1 t1 _ => ⟨G1, s1.sub, q1.same s1.sG, fun i hi => q2 i (List.mem_append_right _ hi), fun vs H2 G2 s2 t2 => ?_⟩⟩
      exact q3 _ _ _ (s1.trans s2) (.cons (t1.same s2.sG) t2)
    · cases h
theorem pe_litT : ∀ (n : Nat) (e : Expr) (d : Th) (cs : List Int), lit n ρ e = some (d, cs) → ρ.ok X → PE X e (tLit ρ e d cs)
  | 0, _, _, _, h, _ => by simp [lit] at h
  | n + 1, e, d, cs, h, R => by
    unfold lit at h
    split at h
    · rename_i r hr
      cases h
      exact pe_litN hr R
    · split at h
      · split at h
        · rename_i ds cs' hl
          split at h
          · rename_i hz
            cases h
            intro pins s σ H Q I ⟨G, g, q1, q2, q3⟩
            refine pe_tup (pa_lits (fun e d cs z => pe_litT n e d cs z R) _ _ _ hl) pins s σ H Q I ⟨G, g, q1, q2, fun vs H1 G1 s1 t1 => ⟨by rw [t1.length, sizeLine_eq]; omega, fun p hp => ?_⟩⟩
            have g2 := s1.add hp (.tup vs)
            exact q3 _ _ _ g2 (.tup upd_same (ThsAt.same (fun b o e => by rw [upd_ne (fun z => by rw [z, g1_none s1.sub hp] at e; cases e)]; exact e) _ t1)) fun z => nomatch z
          · cases h
        · cases h
      · split at h
        · rename_i ds cs' hl
          split at h
          · rename_i hz
            cases h
            intro pins s σ H Q I ⟨G, g, q1, q2, q3⟩
            refine pe_lst (pa_lits (fun e d cs z => pe_litT n e d cs z R) _ _ _ hl) pins s σ H Q I ⟨G, g, q1, q2, fun vs H1 G1 s1 t1 => ⟨by rw [t1.length, sizeLine_eq]; omega, fun p hp => ?_⟩⟩
            exact q3 _ _ _ (s1.add hp _) (.lst upd_same (ThsAt.same (same_upd (g1_none s1.sub hp)) _ t1)) fun _ l z => by cases z; exact s1.sH.free hp
          · cases h
        · cases h
      · split at h
        · rename_i kk k0 pos0 v0 pos1 heq0 x1 d' cs' hl
          split at h
          · cases h
            intro pins s σ H Q I ⟨G, g, q1, q2, q3⟩
            refine pe_disp (pps_cons pe_str (pe_litT n _ _ _ hl R) pps_nil) rfl rfl (by simp) (by simp) pins s σ H Q I fun p hp => ⟨G, fun b o e => by rw [upd_ne (ne_of_none (g _ _ e) hp)]; exact g _ _ e, q1, q2, fun v H1 G1 s1 t1 _ => ?_⟩
            have e1 : H1 p = some (.dK []) := s1.sH _ _ upd_same
            have gp : G p = none := g1_none g hp
            have gp1 : G1 p = none := s1.new p (by rw [upd_same]; exact fun z => nomatch z) gp
            refine ⟨e1, [(Sum.inr kk, v)], rfl, by simp, q3 _ _ (upd G1 p (.dK (mergeK [] [(Sum.inr kk, v)]))) ⟨fun b o e => ?_, supd s1.sG gp1, fun b o e => ?_, fun b h gb => ?_⟩ (.dct (kvs := [(Sum.inr kk, v)]) upd_same) fun z => nomatch z⟩
            · have hb : b ≠ p := ne_of_none e hp
              rw [upd_ne hb]
              exact s1.sH _ _ (by rw [upd_ne hb]; exact e)
            · by_cases hb : b = p
              · subst hb; rw [upd_same] at e ⊢; exact e
              · rw [upd_ne hb] at e ⊢; exact s1.sub _ _ e
            · have hb : b ≠ p := fun z => h (z ▸ hp)
              rw [upd_ne hb]
              exact s1.new b (by rw [upd_ne hb]; exact h) gb
          · cases h
        · cases h
      · split at h
        · rename_i xs cs' ys ds' h1 h2
          split at h
          · rename_i hz
            cases h
            intro pins s σ H Q I ⟨G, g, q1, q2, q3⟩
            refine pe_op op_cat (pe_litT n _ _ _ h1 R) (pe_litT n _ _ _ h2 R) pins s σ H Q I ⟨G, g, q1, fun i hi => q2 i (List.mem_append_left _ hi), fun v H1 G1 s1 t1 _ => ⟨G1, s1.sub, q1.same s1.sG, fun i hi => q2 i (List.mem_append_right _ hi), fun u H2 G2 s2 t2 _ => ?_⟩⟩
            have t1 := t1.same s2.sG
            cases t1 with
            | lst e1 p1 =>
              cases t2 with
              | lst e2 p2 =>
                refine ⟨_, _, _, _, rfl, rfl, s2.sub _ _ e1, s2.sub _ _ e2, by rw [p1.length, p2.length, sizeLine_eq]; omega, fun p hp => q3 _ _ _ ((s1.trans s2).add hp _) (.lst upd_same ?_) fun _ l z => by cases z; exact (s1.trans s2).sH.free hp⟩
                exact pairedApp (ThsAt.same (same_upd (g1_none s2.sub hp)) _ p1) (ThsAt.same (same_upd (g1_none s2.sub hp)) _ p2)
          · cases h
        · cases h
      · split at h
        · rename_i x cs' i h1 h2
          split at h
          · rename_i hz
            cases h
            intro pins s σ H Q I ⟨G, g, q1, q2, q3⟩
            have hi := q2 i List.mem_cons_self
            refine pe_op op_repS (pe_litT n _ _ _ h1 R) (pe_litI n _ _ h2 R) pins s σ H Q I ⟨G, g, q1, fun i hi => q2 i (List.mem_cons_of_mem _ hi), fun v H1 G1 s1 t1 _ => ⟨(q1.same s1.sG).same s1.sub, ?_⟩⟩
            cases t1
            refine ⟨_, _, rfl, rfl, hi.1, by omega, hz, q3 _ _ _ s1 (.str _ ?_) fun _ l z => by cases z⟩
            rw [repS_len _ _ hi.1, sizeLine_eq]
            have : i.toNat * x.length ≤ 100 * 1000 := Nat.mul_le_mul (by omega) hz
            omega
          · cases h
        · rename_i xs cs' i h1 h2
          split at h
          · rename_i hz
            cases h
            intro pins s σ H Q I ⟨G, g, q1, q2, q3⟩
            have hi := q2 i List.mem_cons_self
            refine pe_op op_rep (pe_litT n _ _ _ h1 R) (pe_litI n _ _ h2 R) pins s σ H Q I ⟨G, g, q1, fun i hi => q2 i (List.mem_cons_of_mem _ hi), fun v H1 G1 s1 t1 _ => ⟨(q1.same s1.sG).same s1.sub, ?_⟩⟩
            cases t1 with
            | lst e1 p1 =>
              refine ⟨_, _, _, rfl, rfl, s1.sub _ _ e1, by omega, by omega, ?_, fun p hp => q3 _ _ _ (s1.add hp _) (.lst upd_same ?_) fun _ l z => by cases z; exact s1.sH.free hp⟩
              · rw [p1.length, sizeLine_eq]
                have : xs.length * i.toNat ≤ 1000 * 100 := Nat.mul_le_mul hz (by omega)
                omega
              · exact pairedRep (ThsAt.same (same_upd (g1_none s1.sub hp)) _ p1) _
          · cases h
        · cases h
      · cases h
/-- a written thing, whatever its names hold -/
def mkRho (ns : List (Str × Nat)) (ds : List Th) : Rho := ns.zipWith (fun p d => (p.1, p.2, d)) ds
def tLitX (n : Nat) (ns : List (Str × Nat)) (e : Expr) : TE := fun σ H Q => ∃ ds d cs, lit n (mkRho ns ds) e = some (d, cs) ∧ tLit (mkRho ns ds) e d cs σ H Q
theorem pe_litX (n : Nat) (ns : List (Str × Nat)) {e : Expr} (h : ∀ p ∈ ns, X.N[p.2]? = some p.1 ∧ Vis X.env.scope p.1 ∧ (p.1 == ("__debug__" : Str)) = false ∧ (p.1 == ("__classdict__" : Str)) = false) : PE X e (tLitX n ns e) := by
  intro pins s σ H Q I ⟨ds, d, cs, h1, h2⟩
  refine pe_litT n e d cs h1 ⟨fun p hp => ?_⟩ pins s σ H Q I h2
  have mem : ∀ (ns : List (Str × Nat)) (ds : List Th) p, p ∈ mkRho ns ds → (p.1, p.2.1) ∈ ns := by
    intro ns
    induction ns with
    | nil => intro ds p hp; simp [mkRho] at hp
    | cons a r ih =>
      intro ds p hp
      cases ds with
      | nil => simp [mkRho] at hp
      | cons d ds =>
        rcases List.mem_cons.mp hp with z | z
        · rw [z]; exact List.mem_cons_self
        · exact List.mem_cons_of_mem _ (ih ds p z)
  exact h _ (mem ns ds p hp)
/-- the same, where it isn't asked what else the thing is apart from -/
theorem litH {n : Nat} {ns : List (Str × Nat)} {e : Expr} {σ : L2.St} {H : Hp} {Q : VK} (h : ∃ ds d cs, lit n (mkRho ns ds) e = some (d, cs) ∧ (mkRho ns ds).on σ H ∧ (∀ i ∈ cs, 0 ≤ i ∧ i ≤ 100) ∧ ∀ v H', Same H H' → ThAt H' v d → (freshE e = true → ∀ l, v = .ref l → H l = none) → Q v H') : tLitX n ns e σ H Q := by
  obtain ⟨ds, d, cs, h1, h2, h3, h4⟩ := h
  exact ⟨ds, d, cs, h1, H, Same.refl _, h2, h3, fun v H' G' g t f => h4 v H' g.sH (t.same g.sub) f⟩
theorem on0 {ds : List Th} {σ : L2.St} {H : Hp} : (mkRho [] ds).on σ H := fun p hp => by simp [mkRho] at hp
theorem on1 {x : Str} {i : Nat} {d : Th} {v : V} {σ : L2.St} {H : Hp} (e : σ[i]? = some (some v)) (h : ThAt H v d) : (mkRho [(x, i)] [d]).on σ H := fun p hp => by
  have : p = (x, i, d) := by simpa [mkRho] using hp
  subst this; exact ⟨v, e, h⟩
theorem on2 {x y : Str} {i j : Nat} {d c : Th} {v u : V} {σ : L2.St} {H : Hp} (e : σ[i]? = some (some v)) (h : ThAt H v d) (e' : σ[j]? = some (some u)) (h' : ThAt H u c) : (mkRho [(x, i), (y, j)] [d, c]).on σ H := fun p hp => by
  have : p = (x, i, d) ∨ p = (y, j, c) := by simpa [mkRho] using hp
  rcases this with rfl | rfl
  · exact ⟨v, e, h⟩
  · exact ⟨u, e', h'⟩
end
/-! ### a list of things is changed -/
mutual
theorem ThAt.one {H : Hp} : ∀ (d : Th) {v : V} {c : Th}, ThAt H v d → ThAt H v c → d = c
  | _, _, _, .non, .non => rfl
  | _, _, _, .int _, .int _ => rfl
  | _, _, _, .bl _, .bl _ => rfl
  | _, _, _, .str _ _, .str _ _ => rfl
  | .lst ds, _, c, .lst h p, k => by
    cases k with
    | lst h' p' => rw [h] at h'; cases h'; rw [ThsAt.one ds p p']
    | tup h' _ => rw [h] at h'; cases h'
    | dct h' => rw [h] at h'; cases h'
  | .tup ds, _, c, .tup h p, k => by
    cases k with
    | tup h' p' => rw [h] at h'; cases h'; rw [ThsAt.one ds p p']
    | lst h' _ => rw [h] at h'; cases h'
    | dct h' => rw [h] at h'; cases h'
  | _, _, c, .dct h, k => by
    cases k with
    | dct h' => rw [h] at h'; cases h'; rfl
    | lst h' _ => rw [h] at h'; cases h'
    | tup h' _ => rw [h] at h'; cases h'
theorem ThsAt.one {H : Hp} : ∀ (ds : List Th) {xs : List V} {cs : List Th}, ThsAt H xs ds → ThsAt H xs cs → ds = cs
  | [], _, _, .nil, .nil => rfl
  | d :: ds, _, _, .cons r t, .cons r' t' => by rw [ThAt.one d r r', ThsAt.one ds t t']
end
mutual
def Th.sz : Th → Nat
  | .lst ds => 1 + Th.szs ds | .tup ds => 1 + Th.szs ds | _ => 1
def Th.szs : List Th → Nat
  | [] => 0
  | d :: r => d.sz + Th.szs r
end
mutual
theorem ThAt.upd {H : Hp} {l : Addr} {o : HO} {d0 : Th} (h0 : ThAt H (.ref l) d0) : ∀ (d : Th) {v : V}, d.sz < d0.sz → ThAt H v d → ThAt (upd H l o) v d
  | _, _, _, .non => .non
  | _, _, _, .int i => .int i
  | _, _, _, .bl i => .bl i
  | _, _, _, .str x h => .str x h
  | .lst ds, _, z, .lst (a := a) h p => by
    have ne : a ≠ l := fun e => by
      subst e
      rw [ThAt.one _ h0 (.lst h p)] at z
      exact absurd z (Nat.lt_irrefl _)
    exact .lst (by rw [upd_ne ne]; exact h) (ThsAt.upd h0 ds (by simp only [Th.sz] at z; omega) p)
  | .tup ds, _, z, .tup (a := a) h p => by
    have ne : a ≠ l := fun e => by
      subst e
      rw [ThAt.one _ h0 (.tup h p)] at z
      exact absurd z (Nat.lt_irrefl _)
    exact .tup (by rw [upd_ne ne]; exact h) (ThsAt.upd h0 ds (by simp only [Th.sz] at z; omega) p)
  | .dct n, v, z, k => by
    cases k with
    | @dct a kvs h =>
      have ne : a ≠ l := fun e => by
        subst e
        rw [ThAt.one _ h0 (.dct h)] at z
        exact absurd z (Nat.lt_irrefl _)
      exact .dct (by rw [upd_ne ne]; exact h)
theorem ThsAt.upd {H : Hp} {l : Addr} {o : HO} {d0 : Th} (h0 : ThAt H (.ref l) d0) : ∀ (ds : List Th) {xs : List V}, Th.szs ds < d0.sz → ThsAt H xs ds → ThsAt (upd H l o) xs ds
  | [], _, _, .nil => .nil
  | d :: ds, _, z, .cons r t => .cons (ThAt.upd h0 d (by simp only [Th.szs] at z; omega) r) (ThsAt.upd h0 ds (by simp only [Th.szs] at z; omega) t)
end
/-- a thing more -/
theorem ThAt.push {H : Hp} {l : Addr} {ds : List Th} {v : V} {d : Th} {xs : List V} (h : ThAt H (.ref l) (.lst ds)) (hl : H l = some (.lst xs)) (hv : ThAt H v d) (hz : d.sz < (Th.lst ds).sz) : ThAt (L2.upd H l (.lst (xs ++ [v]))) (.ref l) (.lst (ds ++ [d])) := by
  have hv' : ThAt (L2.upd H l (.lst (xs ++ [v]))) v d := ThAt.upd h d hz hv
  have h' := h
  cases h' with
  | lst e p =>
    rw [hl] at e; cases e
    exact .lst upd_same (pairedApp (ThsAt.upd h ds (by simp only [Th.sz]; omega) p) (.cons hv' .nil))
theorem szs_app : ∀ (a b : List Th), Th.szs (a ++ b) = Th.szs a + Th.szs b
  | [], b => by simp [Th.szs]
  | d :: a, b => by rw [List.cons_append]; simp only [Th.szs]; rw [szs_app a b]; omega
theorem szs_len : ∀ (a : List Th), a.length ≤ Th.szs a
  | [] => Nat.le_refl _
  | d :: a => by
    have := szs_len a
    have h1 : 1 ≤ d.sz := by cases d <;> simp only [Th.sz] <;> omega
    simp only [Th.szs, List.length_cons]; omega
end MG

set_option Elab.async false
set_option linter.all false
set_option maxRecDepth 100000
namespace MG
open PySem PySem.Spec PyProof.Rows L2
/-! ### what is a word, a step, a body, a book, changes: of any thing -/
abbrev bareA : List V := [.str "say", .str "hear", .str "end"]
abbrev numA : List V := [.str "plus", .str "times", .str "turn"]
abbrev wrdA : List V := [.str "ask", .str "odd"]
def lowB (x : Str) : Bool := decide (1 ≤ x.length) && decide (x.length ≤ 8) && x.cps.toList.all isLow
def wordB : Th → Bool | .str x => lowB x | _ => false
def numB : Th → Bool | .int _ => true | _ => false
def rngB : Th → Bool | .int i => decide (-99 ≤ i) && decide (i ≤ 99) | _ => false
def stepB : Th → Bool
  | .tup ds => match ds with
    | [.str n] => inV (.str n) bareA
    | [.str n, p] => if inV (.str n) numA = true then rngB p else inV (.str n) wrdA && wordB p
    | _ => false
  | _ => false
def stepsB : Th → Bool | .lst ds => ds.all stepB | _ => false
def bodyB : Th → Bool | .lst ds => ds.all stepB && decide (ds.length ≤ 9) | _ => false
def hasW : Th → Bool | .tup [a, _] => wordB a | _ => false
def hasB : Th → Bool | .tup [a, b] => wordB a && bodyB b | _ => false
def isNon : Th → Bool | .non => true | _ => false
def hasN : Th → Bool | .tup [a, b] => wordB a && (isNon b || bodyB b) | _ => false
def wdOf : Th → Str | .tup (.str x :: _) => x | _ => Str.empty
def upB (ws : List Str) : Bool := decide ws.Nodup && sortedS ws
def bookB : Th → Bool | .lst ds => ds.all hasB && upB (ds.map wdOf) | _ => false
def fewB : Th → Prop | .lst ds => ds.length ≤ 20 | _ => True
theorem lowB_ok {x : Str} : lowB x = true ↔ WordOk x := by
  unfold lowB WordOk
  simp only [Bool.and_eq_true, decide_eq_true_eq, and_assoc]
theorem hasB_wd {d : Th} (h : hasB d = true) : ∃ x b, d = .tup [.str x, b] ∧ WordOk x := by
  unfold hasB at h
  split at h
  · rename_i a b
    rw [Bool.and_eq_true] at h
    cases a <;> simp [wordB] at h
    exact ⟨_, _, rfl, lowB_ok.mp h.1⟩
  · cases h
theorem hasN_wd {d : Th} (h : hasN d = true) : ∃ x b, d = .tup [.str x, b] ∧ WordOk x := by
  unfold hasN at h
  split at h
  · rename_i a b
    rw [Bool.and_eq_true] at h
    cases a <;> simp [wordB] at h
    exact ⟨_, _, rfl, lowB_ok.mp h.1⟩
  · cases h
theorem eqvA_strs : ∀ (xs ys : List Str), PyData.eqvAll (xs.map PyData.str) (ys.map PyData.str) = decide (xs = ys)
  | [], [] => by simp [PyData.eqvAll]
  | [], _ :: _ => by simp [PyData.eqvAll]
  | _ :: _, [] => by simp [PyData.eqvAll]
  | x :: xs, y :: ys => by
    have ih := eqvA_strs xs ys
    simp only [List.map_cons, PyData.eqvAll, PyData.eqv, ih]
    by_cases h : x = y
    · subst h; by_cases k : xs = ys <;> simp [k]
    · simp [h]
theorem eqvA_strl (xs ys : List Str) : PyData.eqv (.list (xs.map PyData.str)) (.list (ys.map PyData.str)) = decide (xs = ys) := by
  rw [show PyData.eqv (.list (xs.map PyData.str)) (.list (ys.map PyData.str)) = PyData.eqvAll (xs.map PyData.str) (ys.map PyData.str) from by simp [PyData.eqv]]
  exact eqvA_strs xs ys
theorem upB_sorted {ws ys : List Str} (hp : ys.Perm (dedupS ws)) (hs : sortedS ys = true) : decide (ws = ys) = upB ws := by
  unfold upB
  by_cases h : ws = ys
  · have nd : ws.Nodup := by rw [h]; exact hp.symm.nodup (nd_dedup ws)
    rw [decide_eq_true h, decide_eq_true nd, Bool.true_and, h, hs]
  · rw [decide_eq_false h]
    cases z : sortedS ws with
    | false => rw [Bool.and_false]
    | true =>
      by_cases nd : ws.Nodup
      · exact absurd (sorted_eq (hp.trans (dedup_nodup nd)) hs z).symm h
      · rw [decide_eq_false nd, Bool.false_and]
/-- the tables, and all things as they are -/
theorem ThAt.strOf {H : Hp} {v : V} {x : Str} (h : ThAt H v (.str x)) : v = .str x ∧ x.length ≤ sizeLine := by cases h; exact ⟨rfl, by assumption⟩
theorem ThAt.tupOf {H : Hp} {v : V} {ds : List Th} (h : ThAt H v (.tup ds)) : ∃ a xs, v = .ref a ∧ H a = some (.tup xs) ∧ ThsAt H xs ds := by cases h; exact ⟨_, _, rfl, by assumption, by assumption⟩
theorem ThAt.lstOf {H : Hp} {v : V} {ds : List Th} (h : ThAt H v (.lst ds)) : ∃ a xs, v = .ref a ∧ H a = some (.lst xs) ∧ ThsAt H xs ds := by cases h; exact ⟨_, _, rfl, by assumption, by assumption⟩
theorem ths_at {H : Hp} {xs : List V} {ds : List Th} {i : Nat} {x : V} (h : ThsAt H xs ds) (e : xs[i]? = some x) : ∃ d, ds[i]? = some d ∧ ThAt H x d := paired_at h e
/-- a walk that ends at the first that is not so -/
theorem all_first {α : Type} {f : α → Bool} : ∀ {l : List α} {i : Nat} {x : α}, l[i]? = some x → f x = false → l.all f = false
  | y :: r, 0, x, h, e => by simp at h; subst h; simp [e]
  | y :: r, i + 1, x, h, e => by rw [List.all_cons, all_first (l := r) (i := i) (by simpa using h) e, Bool.and_false]
theorem all_yes {α : Type} {f : α → Bool} {l : List α} (h : ∀ (i : Nat) x, l[i]? = some x → f x = true) : l.all f = true :=
  List.all_eq_true.mpr fun x hx => by
    obtain ⟨i, hi⟩ := List.mem_iff_getElem?.mp hx
    exact h i x hi
end MG

set_option Elab.async false
set_option linter.all false
set_option maxRecDepth 100000
namespace MG
open PySem PySem.Spec PyProof.Rows L2
/-! ### good things are steps, bodies, books, changes -/
def stTh : Stp → Th
  | .say => .tup [.str "say"] | .hear => .tup [.str "hear"] | .fin => .tup [.str "end"]
  | .plus n => .tup [.str "plus", .int n] | .times n => .tup [.str "times", .int n] | .turn n => .tup [.str "turn", .int n]
  | .ask w => .tup [.str "ask", .str w] | .odd w => .tup [.str "odd", .str w]
def bdTh (ss : Body) : Th := .lst (ss.map stTh)
def enTh (e : Ent) : Th := .tup [.str e.1, bdTh e.2.2]
theorem inV_three {n a b c : Str} (h : inV (.str n) [.str a, .str b, .str c] = true) : n = a ∨ n = b ∨ n = c := by
  simp only [inV, List.any_cons, List.any_nil, Bool.or_false, Bool.or_eq_true] at h
  rcases h with h | h | h
  · exact .inl (eq_of_beq (show (a == n) = true from h)).symm
  · exact .inr (.inl (eq_of_beq (show (b == n) = true from h)).symm)
  · exact .inr (.inr (eq_of_beq (show (c == n) = true from h)).symm)
theorem inV_two {n a b : Str} (h : inV (.str n) [.str a, .str b] = true) : n = a ∨ n = b := by
  simp only [inV, List.any_cons, List.any_nil, Bool.or_false, Bool.or_eq_true] at h
  rcases h with h | h
  · exact .inl (eq_of_beq (show (a == n) = true from h)).symm
  · exact .inr (eq_of_beq (show (b == n) = true from h)).symm
theorem st_of {d : Th} (h : stepB d = true) : ∃ s, d = stTh s ∧ s.ok := by
  unfold stepB at h
  split at h
  · split at h
    · rcases inV_three h with e | e | e <;> subst e
      · exact ⟨.say, rfl, trivial⟩
      · exact ⟨.hear, rfl, trivial⟩
      · exact ⟨.fin, rfl, trivial⟩
    · rename_i n p
      split at h
      · rename_i hn
        cases p <;> simp only [rngB, Bool.false_eq_true, Bool.and_eq_true, decide_eq_true_eq] at h
        rcases inV_three hn with e | e | e <;> subst e
        · exact ⟨.plus _, rfl, h⟩
        · exact ⟨.times _, rfl, h⟩
        · exact ⟨.turn _, rfl, h⟩
      · rw [Bool.and_eq_true] at h
        cases p <;> simp only [wordB, Bool.false_eq_true, and_false] at h
        rcases inV_two h.1 with e | e <;> subst e
        · exact ⟨.ask _, rfl, lowB_ok.mp h.2⟩
        · exact ⟨.odd _, rfl, lowB_ok.mp h.2⟩
    · cases h
  · cases h
theorem sts_of : ∀ {ds : List Th}, ds.all stepB = true → ∃ ss : Body, ds = ss.map stTh ∧ ∀ s ∈ ss, s.ok
  | [], _ => ⟨[], rfl, by simp⟩
  | d :: r, h => by
    rw [List.all_cons, Bool.and_eq_true] at h
    obtain ⟨s, rfl, ok⟩ := st_of h.1
    obtain ⟨ss, rfl, oks⟩ := sts_of h.2
    exact ⟨s :: ss, rfl, by simpa using ⟨ok, oks⟩⟩
theorem bd_of {d : Th} (h : bodyB d = true) : ∃ ss, d = bdTh ss ∧ BodyOk ss := by
  unfold bodyB at h
  split at h
  · rw [Bool.and_eq_true] at h
    obtain ⟨ss, rfl, ok⟩ := sts_of h.1
    exact ⟨ss, rfl, by have := of_decide_eq_true h.2; rw [List.length_map] at this; exact this, ok⟩
  · cases h
section
variable {H : Hp}
theorem stAt {v : V} {s : Stp} (h : ThAt H v (stTh s)) : StepAt H v s := by
  cases s <;> (obtain ⟨t, vl, rfl, ht, hv⟩ := h.tupOf; refine ⟨t, rfl, ?_⟩)
  all_goals first
    | (cases hv with | cons h0 t0 => (cases t0; obtain ⟨rfl, _⟩ := h0.strOf; exact ht))
    | (cases hv with | cons h0 t0 => (cases t0 with | cons h1 t1 => (cases t1; obtain ⟨rfl, _⟩ := h0.strOf; cases h1; exact ht)))
theorem bdAt {v : V} {ss : Body} (h : ThAt H v (bdTh ss)) : ∃ b, v = .ref b ∧ BodyAt H b ss := by
  obtain ⟨b, vs, rfl, hb, hv⟩ := h.lstOf
  refine ⟨b, rfl, vs, hb, ?_⟩
  clear hb h
  induction ss generalizing vs with
  | nil => cases hv; exact .nil
  | cons s r ih =>
    cases hv with
    | cons h0 t0 => exact .cons (stAt h0) (ih _ t0)
theorem enAt {v : V} {d : Th} (h : ThAt H v d) (k : hasB d = true) : ∃ e : Ent, d = enTh e ∧ EntAt H v e ∧ WordOk e.1 ∧ BodyOk e.2.2 := by
  unfold hasB at k
  split at k
  · rename_i a c
    rw [Bool.and_eq_true] at k
    cases a <;> simp only [wordB, Bool.false_eq_true, false_and] at k
    obtain ⟨ss, rfl, ok⟩ := bd_of k.2
    obtain ⟨t, vl, rfl, ht, hv⟩ := h.tupOf
    cases hv with
    | cons h0 t0 =>
      cases t0 with
      | cons h1 t1 =>
        cases t1
        obtain ⟨rfl, _⟩ := h0.strOf
        obtain ⟨b, rfl, hb⟩ := bdAt h1
        exact ⟨(_, b, ss), rfl, ⟨t, rfl, ht, hb⟩, lowB_ok.mp k.1, ok⟩
  · cases k
theorem ensAt : ∀ {ds : List Th} {vs : List V}, ThsAt H vs ds → ds.all hasB = true → ∃ es : List Ent, ds = es.map enTh ∧ Paired (EntAt H) vs es ∧ ∀ e ∈ es, EntOk e
  | _, _, .nil, _ => ⟨[], rfl, .nil, by simp⟩
  | _, _, .cons r t, h => by
    rw [List.all_cons, Bool.and_eq_true] at h
    obtain ⟨e, rfl, he, ok⟩ := enAt r h.1
    obtain ⟨es, rfl, hes, oks⟩ := ensAt t h.2
    exact ⟨e :: es, rfl, .cons he hes, fun x hx => (List.mem_cons.mp hx).elim (fun z => z ▸ ok) (oks x)⟩
/-- a good thing is a book -/
theorem bookAt_of {v : V} {d : Th} (h : ThAt H v d) (k : bookB d = true) (few : fewB d) : ∃ L es, v = .ref L ∧ d = .lst (es.map enTh) ∧ BookAt H L es ∧ BookOk es := by
  unfold bookB at k
  split at k
  · rename_i ds
    rw [Bool.and_eq_true] at k
    obtain ⟨L, vs, rfl, hL, hv⟩ := h.lstOf
    obtain ⟨es, rfl, hes, ok⟩ := ensAt hv k.1
    have k2 := k.2
    unfold upB at k2
    rw [Bool.and_eq_true, List.map_map] at k2
    have e : es.map (wdOf ∘ enTh) = es.map (·.1) := List.map_congr_left fun _ _ => rfl
    rw [e] at k2
    exact ⟨L, es, rfl, rfl, ⟨vs, hL, hes⟩, ok, k2.2, of_decide_eq_true k2.1, by have : (es.map enTh).length ≤ 20 := few; rw [List.length_map] at this; exact this⟩
  · cases k
theorem wordAt_of {v : V} {d : Th} (h : ThAt H v d) (k : wordB d = true) : ∃ x, v = .str x ∧ d = .str x ∧ WordOk x := by
  cases d <;> simp only [wordB, Bool.false_eq_true] at k
  obtain ⟨rfl, _⟩ := h.strOf
  exact ⟨_, rfl, rfl, lowB_ok.mp k⟩
end
/-! ### the data of things -/
mutual
def Th.dat : Th → PyData
  | .non => .none | .int i => .int i | .bl b => .bool b | .str x => .str x | .lst ds => .list (Th.dats ds) | .tup ds => .tuple (Th.dats ds) | .dct _ => .none
def Th.dats : List Th → List PyData
  | [] => []
  | d :: r => d.dat :: Th.dats r
end
mutual
def Th.noD : Th → Bool
  | .dct _ => false | .lst ds => Th.noDs ds | .tup ds => Th.noDs ds | _ => true
def Th.noDs : List Th → Bool
  | [] => true
  | d :: r => d.noD && Th.noDs r
end
section
variable {K : PySem.W.Frag} {H : Hp}
mutual
theorem ThAt.dp : ∀ (d : Th) {v : V}, ThAt H v d → d.noD = true → Dp K H v d.dat
  | _, _, .non, _ => .non
  | _, _, .int i, _ => .int i
  | _, _, .bl i, _ => .bl i
  | _, _, .str x _, _ => .str x
  | .lst ds, _, .lst h p, n => by unfold Th.dat; exact .lst (SqL.of h) (ThsAt.dp ds p (by simpa [Th.noD] using n))
  | .tup ds, _, .tup h p, n => by unfold Th.dat; exact .tup (SqT.of h) (ThsAt.dp ds p (by simpa [Th.noD] using n))
  | _, _, .dct h, n => by simp [Th.noD] at n
theorem ThsAt.dp : ∀ (ds : List Th) {xs : List V}, ThsAt H xs ds → Th.noDs ds = true → DpAll K H xs (Th.dats ds)
  | [], _, .nil, _ => by unfold Th.dats; exact .nil
  | d :: ds, _, .cons r t, n => by
    unfold Th.noDs at n
    rw [Bool.and_eq_true] at n
    unfold Th.dats
    exact .cons (ThAt.dp d r n.1) (ThsAt.dp ds t n.2)
end
end
end MG

set_option Elab.async false
set_option linter.all false
set_option maxRecDepth 100000
namespace MG
open PySem PySem.Spec PyProof.Rows L2
section
variable {P : Program} {w : World} {K : PySem.W.Frag} {mg : Str → Option Value} {base : Heap}
/-! ### is_number, is_word, is_step: of any thing -/
def spNumberA : Sp := fun vs H Q _ => ∃ v d, vs = [v] ∧ ThAt H v d ∧ Q (.bl (numB d)) H
theorem ok_is_numberA {f : Addr} {fd : FuncData} (F : Fun K "is_number" "is_number" s_is_number f fd) (b : ∀ x ∈ blts, mg x = none) : FnOk P w K mg base CX0 5 f fd ["thing"] spNumberA := by
  refine F.ok sc_is_number (fun vs H Q E h => ?_) (fun cdv A outer s H vs Q E hr h => ?_)
  · obtain ⟨i, d, rfl, _⟩ := h; rfl
  · obtain ⟨v, d, rfl, hd, q⟩ := h
    refine ⟨_, (pss_one (ps_ret (pe_and (pe_callB call_isi (by rfl) (b "isinstance" (by decide +kernel)) (by decide +kernel) (pa_cons (pv 0) (pa_cons (pe_bltn (v := .ty "int") (by rfl) (b "int" (by decide +kernel)) (by decide +kernel) rfl) pa_nil))) (pe_one (pe_not (pe_callB call_isi (by rfl) (b "isinstance" (by decide +kernel)) (by decide +kernel) (pa_cons (pv 0) (pa_cons (pe_bltn (v := .ty "bool") (by rfl) (b "bool" (by decide +kernel)) (by decide +kernel) rfl) pa_nil)))))))), ?_⟩
    refine ⟨_, rfl, _, _, _, _, rfl, hd.tyOf, kit_int _ d, _, rfl, ?_⟩
    cases d with
    | int i => exact iteT ⟨_, rfl, _, _, _, _, rfl, hd.tyOf, kit_bl _ _, _, rfl, q⟩
    | bl i => exact iteT ⟨_, rfl, _, _, _, _, rfl, hd.tyOf, kit_bl _ _, _, rfl, q⟩
    | _ => exact iteF q
def spWordA (Pt : Addr) : Sp := fun vs H Q _ => ∃ v d, vs = [v] ∧ ThAt H v d ∧ H Pt = some (tabH Pt) ∧ Q (.bl (wordB d)) H
theorem ok_is_wordA {f c Pt bm : Addr} {fd : FuncData} {ob : Obj} {t8 : Tok} (F : FunG K "is_word" "is_word" s_is_word f fd c Pt) (b : ∀ x ∈ blts, mg x = none) (hB : BMod base mainGlobals mg bm ob) (g_LONGEST_WORD : mg "LONGEST_WORD" = some (.int 8 t8)) :
    FnOk P w K mg base CX0 10 f fd ["thing"] (spWordA Pt) := by
  refine F.ok sc_is_word (fun vs H Q E h => ?_) (fun A outer s H vs Q E hr h => ?_)
  · obtain ⟨i, d, rfl, _⟩ := h; rfl
  · obtain ⟨v, d, rfl, hd, hP, q⟩ := h
    refine ⟨_, (pss_cons (ps_if (PW.pt (pw_or (pt_not (pt_val (pe_callB call_isi (by rfl) (b "isinstance" (by decide +kernel)) (by decide +kernel) (pa_cons (pv 0) (pa_cons (pe_bltn (v := .ty "str") (by rfl) (b "str" (by decide +kernel)) (by decide +kernel) rfl) pa_nil))))) (pw_or1 (pt_not (pt_chain op_le op_le pe_int (pe_callB call_len_str (by rfl) (b "len" (by decide +kernel)) (by decide +kernel) (pa_cons (pv 0) pa_nil)) (pe_glob (v := .int 8) (by rfl) g_LONGEST_WORD ⟨_, rfl⟩)))))) (pss_one (ps_ret pe_bl)) pss_nil) (pss_one (ps_ret (pe_allG (N := ["sign"]) rfl hr (by rfl) (b "all" (by decide +kernel)) rfl F.hd hB ⟨rfl, rfl, by decide +kernel, by decide +kernel, by decide +kernel, by decide +kernel⟩ (pi_str (pv 0)) (fun _ _ _ _ _ _ => (pg_name (i := 0) (show (["sign"] : List Str).Nodup from by decide +kernel) rfl (by first | exact Or.inl rfl | exact Or.inr rfl))) (fun _ _ _ _ _ _ hr => (pe_chain op_le_str op_le_str pe_str (pv 0) pe_str)))))), ?_⟩
    refine ⟨_, rfl, _, _, _, _, rfl, hd.tyOf, kit_str _ d, _, rfl, ?_⟩
    cases d with
    | str x =>
      obtain ⟨rfl, hsz⟩ := hd.strOf
      refine iteF ⟨_, rfl, _, rfl, hsz, ?_⟩
      refine ⟨_, _, rfl, rfl, _, rfl, ?_⟩
      have q : Q (.bl (decide (1 ≤ x.length) && decide (x.length ≤ 8) && x.cps.toList.all isLow)) H := q
      by_cases l1 : 1 ≤ x.length
      · have d1 : decide ((1 : Int) ≤ (x.length : Int)) = true := decide_eq_true (by omega)
        rw [d1]
        refine iteT ⟨_, _, rfl, rfl, _, rfl, ?_⟩
        by_cases l2 : x.length ≤ 8
        · have d2 : decide ((x.length : Int) ≤ 8) = true := decide_eq_true (by omega)
          rw [d2]
          rw [decide_eq_true l1, decide_eq_true l2, Bool.true_and, Bool.true_and] at q
          refine iteF ⟨_, rfl, _, rfl, hP, all_by (fun i H' => H' = H ∧ ∀ j c, j < i → x.cps.toList[j]? = some c → isLow c = true) x.cps.size ⟨rfl, fun j c z => by omega⟩ (fun i H' hi e => ⟨hi, ?_⟩) (fun H' e => ⟨Nat.le_refl _, ?_⟩)⟩
          · obtain ⟨rfl, hlow⟩ := e
            rintro y H2 ⟨rfl, c, hc, rfl⟩
            have hc' : x.cps.toList[i]? = some c := by rw [← hc, ← Array.getElem?_toList]
            have e1 : (!decide ((⟨#[c]⟩ : Str).cps.toList < ("a" : Str).cps.toList)) = decide (97 ≤ c) := by
              show (!decide ([c] < [97])) = _
              by_cases z : c < 97
              · rw [decide_eq_true (show [c] < [97] from by simp [List.cons_lt_cons_iff]; omega), decide_eq_false (show ¬ 97 ≤ c by omega)]; rfl
              · rw [decide_eq_false (show ¬ [c] < [97] from by simp [List.cons_lt_cons_iff]; omega), decide_eq_true (show 97 ≤ c by omega)]; rfl
            have e2 : (!decide (("z" : Str).cps.toList < (⟨#[c]⟩ : Str).cps.toList)) = decide (c ≤ 122) := by
              show (!decide ([122] < [c])) = _
              by_cases z : 122 < c
              · rw [decide_eq_true (show [122] < [c] from by simp [List.cons_lt_cons_iff]; omega), decide_eq_false (show ¬ c ≤ 122 by omega)]; rfl
              · rw [decide_eq_false (show ¬ [122] < [c] from by simp [List.cons_lt_cons_iff]; omega), decide_eq_true (show c ≤ 122 by omega)]; rfl
            have stop : isLow c = false → Q (.bl false) H2 := fun z => by rw [all_first hc' z] at q; exact q
            refine ⟨_, rfl, _, _, rfl, rfl, _, rfl, ?_⟩
            rw [e1]
            by_cases z1 : 97 ≤ c
            · rw [decide_eq_true z1]
              refine iteT ⟨_, _, rfl, rfl, _, rfl, ?_⟩
              rw [e2]
              by_cases z2 : c ≤ 122
              · rw [decide_eq_true z2]
                refine iteT ⟨rfl, fun j c' hj hc2 => ?_⟩
                rcases Nat.lt_or_ge j i with g | g
                · exact hlow j c' g hc2
                · have : j = i := by omega
                  subst this
                  rw [hc'] at hc2; cases hc2
                  simp [isLow, z1, z2]
              · rw [decide_eq_false z2]
                exact iteF (stop (by simp [isLow, z2]))
            · rw [decide_eq_false z1]
              exact iteF ⟨_, rfl, iteF (stop (by simp [isLow, z1]))⟩
          · obtain ⟨rfl, hlow⟩ := e
            have : x.cps.toList.all isLow = true := all_yes fun j c hc => hlow j c (by have := (List.getElem?_eq_some_iff.mp hc).1; simpa using this) hc
            rw [this] at q
            exact q
        · have d2 : decide ((x.length : Int) ≤ 8) = false := decide_eq_false (by omega)
          rw [d2]
          rw [decide_eq_false l2, Bool.and_false, Bool.false_and] at q
          exact iteT q
      · have d1 : decide ((1 : Int) ≤ (x.length : Int)) = false := decide_eq_false (by omega)
        rw [d1]
        rw [decide_eq_false l1, Bool.false_and, Bool.false_and] at q
        exact iteF ⟨_, rfl, iteT q⟩
    | _ => exact iteT q
end
end MG

set_option Elab.async false
set_option linter.all false
set_option maxRecDepth 100000
namespace MG
open PySem PySem.Spec PyProof.Rows L2
section
variable {P : Program} {w : World} {K : PySem.W.Frag} {mg : Str → Option Value} {base : Heap}
def spStepA (Pw : Addr) : Sp := fun vs H Q _ => ∃ v d, vs = [v] ∧ ThAt H v d ∧ H Pw = some (tabH Pw) ∧ ∀ H', Same H H' → Q (.bl (stepB d)) H'
theorem ok_is_stepA {f a_BARE_STEPS a_NUMBER_STEPS a_WORD_STEPS Pw : Addr} {fd : FuncData} {t99 : Tok} (F : Fun K "is_step" "is_step" s_is_step f fd) (b : ∀ x ∈ blts, mg x = none)
    (g_BARE_STEPS : mg "BARE_STEPS" = some (.ref a_BARE_STEPS)) (g_NUMBER_STEPS : mg "NUMBER_STEPS" = some (.ref a_NUMBER_STEPS)) (g_WORD_STEPS : mg "WORD_STEPS" = some (.ref a_WORD_STEPS)) (g_LARGEST_PART : mg "LARGEST_PART" = some (.int 99 t99))
    (qb : ∀ H, SqT K H a_BARE_STEPS bareA) (qn : ∀ H, SqT K H a_NUMBER_STEPS numA) (qw : ∀ H, SqT K H a_WORD_STEPS wrdA)
    (c_is_number : Cal P w K mg base "is_number" 5 ["thing"] spNumberA) (c_is_word : Cal P w K mg base "is_word" 10 ["thing"] (spWordA Pw)) :
    FnOk P w K mg base CX0 20 f fd ["thing"] (spStepA Pw) := by
  refine F.ok sc_is_step (fun vs H Q E h => ?_) (fun cdv A outer s H vs Q E hr h => ?_)
  · obtain ⟨v, st, rfl, _⟩ := h; rfl
  · obtain ⟨v, d, rfl, hd, hP, q⟩ := h
    refine ⟨_, (pss_cons (ps_if (PW.pt (pw_or (pt_not (pt_val (pe_callB call_isi (by rfl) (b "isinstance" (by decide +kernel)) (by decide +kernel) (pa_cons (pv 0) (pa_cons (pe_bltn (v := .ty "tuple") (by rfl) (b "tuple" (by decide +kernel)) (by decide +kernel) rfl) pa_nil))))) (pw_or (pt_cmpR op_notIn_seq (pe_callB call_len_seq (by rfl) (b "len" (by decide +kernel)) (by decide +kernel) (pa_cons (pv 0) pa_nil)) (pe_tup (pa_cons pe_int (pa_cons pe_int pa_nil))) (by rfl)) (pw_or1 (pt_not (pt_val (pe_callB call_isi (by rfl) (b "isinstance" (by decide +kernel)) (by decide +kernel) (pa_cons (pe_ix ix_tup (pv 0) pe_int (fun _ _ => rfl)) (pa_cons (pe_bltn (v := .ty "str") (by rfl) (b "str" (by decide +kernel)) (by decide +kernel) rfl) pa_nil))))))))) (pss_one (ps_ret pe_bl)) pss_nil) (pss_cons (ps_if (pt_cmpR op_eq (pe_callB call_len_seq (by rfl) (b "len" (by decide +kernel)) (by decide +kernel) (pa_cons (pv 0) pa_nil)) pe_int (nomark _)) (pss_one (ps_ret (pe_cmpR op_in_seq (pe_ix ix_tup (pv 0) pe_int (fun _ _ => rfl)) (pe_glob (v := .ref a_BARE_STEPS) (by rfl) g_BARE_STEPS rfl) (by rfl)))) pss_nil) (pss_cons (ps_asg (pv 0) (pg_tup (by rfl) (pgs_cons (pg_name (i := 1) sc_is_step.nd rfl (by first | exact Or.inl rfl | exact Or.inr rfl)) (pgs_cons (pg_name (i := 2) sc_is_step.nd rfl (by first | exact Or.inl rfl | exact Or.inr rfl)) pgs_nil)))) (pss_cons (ps_if (pt_cmpR op_in_seq (pv 1) (pe_glob (v := .ref a_NUMBER_STEPS) (by rfl) g_NUMBER_STEPS rfl) (by rfl)) (pss_one (ps_ret (pe_and (pe_cal c_is_number (hr.mono (by decide)) (by rfl) (pa_cons (pv 2) pa_nil)) (pe_one (pe_chain op_le op_le (pe_un un_neg (pe_glob (v := .int 99) (by rfl) g_LARGEST_PART ⟨_, rfl⟩)) (pv 2) (pe_glob (v := .int 99) (by rfl) g_LARGEST_PART ⟨_, rfl⟩)))))) pss_nil) (pss_one (ps_ret (pe_and (pe_cmpR op_in_seq (pv 1) (pe_glob (v := .ref a_WORD_STEPS) (by rfl) g_WORD_STEPS rfl) (by rfl)) (pe_one (pe_cal c_is_word (hr.mono (by decide)) (by rfl) (pa_cons (pv 2) pa_nil)))))))))), ?_⟩
    refine ⟨_, rfl, _, _, _, _, rfl, hd.tyOf, kit_tup _ d, _, rfl, ?_⟩
    cases d with
    | tup ds =>
      obtain ⟨t, vl, rfl, ht, hv⟩ := hd.tupOf
      refine iteF ⟨_, rfl, _, _, rfl, .inr (SqT.of ht), ?_⟩
      refine ⟨by show 2 ≤ sizeLine; decide, fun p hp => ?_⟩
      have s1 : Same H (upd H p (.tup [.int 1, .int 2])) := same_upd hp
      have ht1 := s1 t _ ht
      have hv1 := ThsAt.same s1 _ hv
      have hP1 := s1 _ _ hP
      have hw : ∀ H', Same (upd H p (.tup [.int 1, .int 2])) H' → Q (.bl (stepB (.tup ds))) H' := fun H' s' => q _ (s1.trans s')
      refine ⟨p, _, rfl, .inr (SqT.of upd_same), rfl, rfl, _, rfl, ?_⟩
      show if (if true = true then !inV (V.int (vl.length : Nat)) [V.int 1, V.int 2] else _) = true then _ else _
      rw [if_pos rfl]
      generalize upd H p (.tup [.int 1, .int 2]) = H1 at *
      rcases ds with _ | ⟨d0, _ | ⟨d1, _ | ⟨d2, r⟩⟩⟩
      · cases hv1
        refine (show if (!inV (V.int 0) [V.int 1, V.int 2]) = true then _ else _ from ?_)
        rw [show (!inV (V.int 0) [V.int 1, V.int 2]) = true from by decide]
        exact iteT (hw _ (Same.refl _))
      · cases hv1 with
        | @cons v0 _ _ _ h0 t0 =>
          cases t0
          refine (show if (!inV (V.int 1) [V.int 1, V.int 2]) = true then _ else _ from ?_)
          rw [show (!inV (V.int 1) [V.int 1, V.int 2]) = false from by decide]
          refine iteF ⟨_, rfl, t, _, _, _, rfl, rfl, SqT.of ht1, at_of (j := 0) rfl rfl, _, _, _, _, rfl, h0.tyOf, kit_str _ d0, _, rfl, ?_⟩
          cases d0 with
          | str n =>
            obtain ⟨rfl, _⟩ := h0.strOf
            refine iteF ⟨_, rfl, _, _, rfl, .inr (SqT.of ht1), rfl, _, rfl, ?_⟩
            refine iteT ⟨_, rfl, t, _, _, _, rfl, rfl, SqT.of ht1, rfl, a_BARE_STEPS, _, rfl, .inr (qb _), rfl, rfl, ?_⟩
            exact hw _ (Same.refl _)
          | _ => exact iteT (hw _ (Same.refl _))
      · cases hv1 with
        | @cons v0 _ _ _ h0 t0 =>
          cases t0 with
          | @cons v1 _ _ _ h1 t1 =>
            cases t1
            refine (show if (!inV (V.int 2) [V.int 1, V.int 2]) = true then _ else _ from ?_)
            rw [show (!inV (V.int 2) [V.int 1, V.int 2]) = false from by decide]
            refine iteF ⟨_, rfl, t, _, _, _, rfl, rfl, SqT.of ht1, at_of (j := 0) rfl rfl, _, _, _, _, rfl, h0.tyOf, kit_str _ d0, _, rfl, ?_⟩
            cases d0 with
            | str n =>
              obtain ⟨rfl, _⟩ := h0.strOf
              refine iteF ⟨_, rfl, _, _, rfl, .inr (SqT.of ht1), rfl, _, rfl, ?_⟩
              refine iteF ⟨_, rfl, t, _, rfl, SqT.of ht1, rfl, _, _, rfl, _, _, rfl, rfl, ?_⟩
              refine ⟨_, rfl, a_NUMBER_STEPS, _, rfl, .inr (qn _), rfl, rfl, _, rfl, ?_⟩
              have hw : ∀ H', Same H1 H' → Q (.bl (if inV (.str n) numA = true then rngB d1 else inV (.str n) wrdA && wordB d1)) H' := hw
              show if inV (.str n) numA = true then _ else _
              cases hn : inV (.str n) numA with
              | true =>
                rw [hn, if_pos rfl] at hw
                refine iteT ⟨_, rfl, v1, d1, rfl, h1, _, rfl, ?_⟩
                cases d1 with
                | int i =>
                  cases h1
                  refine iteT ⟨_, rfl, _, rfl, _, _, rfl, rfl, _, rfl, ?_⟩
                  have hw := hw _ (Same.refl _)
                  have hw : Q (.bl (decide (-99 ≤ i) && decide (i ≤ 99))) H1 := hw
                  by_cases z : (-99 : Int) ≤ i
                  · rw [decide_eq_true z, Bool.true_and] at hw
                    rw [show decide ((-99 : Int) ≤ i) = true from decide_eq_true z]
                    exact iteT ⟨_, _, rfl, rfl, hw⟩
                  · rw [decide_eq_false z, Bool.false_and] at hw
                    rw [show decide ((-99 : Int) ≤ i) = false from decide_eq_false z]
                    exact iteF hw
                | _ => exact iteF (hw _ (Same.refl _))
              | false =>
                rw [hn, if_neg (by decide)] at hw
                refine iteF ⟨_, rfl, a_WORD_STEPS, _, rfl, .inr (qw _), rfl, rfl, _, rfl, ?_⟩
                show if inV (.str n) wrdA = true then _ else _
                cases hn2 : inV (.str n) wrdA with
                | true =>
                  rw [hn2, Bool.true_and] at hw
                  exact iteT ⟨_, rfl, v1, d1, rfl, h1, hP1, hw _ (Same.refl _)⟩
                | false =>
                  rw [hn2, Bool.false_and] at hw
                  exact iteF (hw _ (Same.refl _))
            | _ => exact iteT (hw _ (Same.refl _))
      · cases hv1 with
        | @cons v0 _ _ _ h0 t0 =>
          cases t0 with
          | @cons v1 _ _ _ h1 t1 =>
            cases t1 with
            | @cons v2 _ vr _ h2 t2 =>
              have e0 : (!inV (V.int ((v0 :: v1 :: v2 :: vr).length : Nat)) [V.int 1, V.int 2]) = true := by
                have g1 : ¬ (1 : Int) = ((v0 :: v1 :: v2 :: vr).length : Nat) := by simp only [List.length_cons]; omega
                have g2 : ¬ (2 : Int) = ((v0 :: v1 :: v2 :: vr).length : Nat) := by simp only [List.length_cons]; omega
                simp only [inV, List.any_cons, List.any_nil, Bool.or_false, Bool.not_eq_true', Bool.or_eq_false_iff]
                exact ⟨beq_eq_false_iff_ne.mpr g1, beq_eq_false_iff_ne.mpr g2⟩
              rw [e0]
              refine iteT ?_
              have : stepB (.tup (d0 :: d1 :: d2 :: r)) = false := by cases d0 <;> rfl
              have hw := hw _ (Same.refl _)
              rw [this] at hw
              exact hw
    | _ => exact iteT (q _ (Same.refl H))
/-! ### is_steps, is_body -/
def spStepsA (Pw Pb : Addr) : Sp := fun vs H Q _ => ∃ v d, vs = [v] ∧ ThAt H v d ∧ H Pw = some (tabH Pw) ∧ H Pb = some (tabH Pb) ∧ ∀ H', Same H H' → Q (.bl (stepsB d)) H'
theorem ok_is_stepsA {f c Pw Pb bm : Addr} {fd : FuncData} {ob : Obj} (F : FunG K "is_steps" "is_steps" s_is_steps f fd c Pb) (b : ∀ x ∈ blts, mg x = none) (hB : BMod base mainGlobals mg bm ob)
    (c_is_step : Cal P w K mg base "is_step" 20 ["thing"] (spStepA Pw)) : FnOk P w K mg base CX0 25 f fd ["thing"] (spStepsA Pw Pb) := by
  refine F.ok sc_is_steps (fun vs H Q E h => ?_) (fun A outer s H vs Q E hr h => ?_)
  · obtain ⟨v, st, rfl, _⟩ := h; rfl
  · obtain ⟨v, d, rfl, hd, hw, hp, q⟩ := h
    refine ⟨_, (pss_one (ps_ret (pe_and (pe_callB call_isi (by rfl) (b "isinstance" (by decide +kernel)) (by decide +kernel) (pa_cons (pv 0) (pa_cons (pe_bltn (v := .ty "list") (by rfl) (b "list" (by decide +kernel)) (by decide +kernel) rfl) pa_nil))) (pe_one (pe_allG (N := ["step"]) rfl hr (by rfl) (b "all" (by decide +kernel)) rfl F.hd hB ⟨rfl, rfl, by decide +kernel, by decide +kernel, by decide +kernel, by decide +kernel⟩ (pi_list (pv 0)) (fun _ _ _ _ _ _ => (pg_name (i := 0) (show (["step"] : List Str).Nodup from by decide +kernel) rfl (by first | exact Or.inl rfl | exact Or.inr rfl))) (fun _ _ _ _ _ _ hr => (pe_cal c_is_step (hr.mono (by decide)) (by rfl) (pa_cons (pv 0) pa_nil)))))))), ?_⟩
    refine ⟨_, rfl, _, _, _, _, rfl, hd.tyOf, kit_lst _ d, _, rfl, ?_⟩
    cases d with
    | lst ds =>
      obtain ⟨l, us, rfl, hl, hv⟩ := hd.lstOf
      refine iteT ⟨_, rfl, l, rfl, ⟨_, SqL.of hl⟩, hp, all_by (fun i H' => Same H H' ∧ ∀ j x, j < i → ds[j]? = some x → stepB x = true) us.length ⟨Same.refl H, fun j x z => by omega⟩ (fun i H1 hi s1 => ?_) (fun H1 s1 => ⟨⟨_, SqL.of (s1.1 _ _ hl), Nat.le_refl _⟩, ?_⟩)⟩
      · obtain ⟨s1, hy⟩ := s1
        have e : us[i]? = some us[i] := List.getElem?_eq_getElem hi
        refine ⟨⟨_, _, SqL.of (s1 _ _ hl), e⟩, ?_⟩
        rintro y H2 ⟨rfl, hy2⟩
        have hy2 := hy2 _ (SqL.of (s1 _ _ hl))
        obtain ⟨dx, h1, h2⟩ := ths_at hv hy2
        refine ⟨_, rfl, y, dx, rfl, h2.same s1, s1 _ _ hw, fun H3 s3 => ⟨_, rfl, ?_⟩⟩
        cases z : stepB dx with
        | true =>
          refine iteT ⟨s1.trans s3, fun j x hj hx => ?_⟩
          rcases Nat.lt_or_ge j i with g | g
          · exact hy j x g hx
          · have : j = i := by omega
            subst this
            rw [h1] at hx; cases hx; exact z
        | false =>
          have q := q _ (s1.trans s3)
          have q : Q (.bl (ds.all stepB)) H3 := q
          rw [all_first h1 z] at q
          exact iteF q
      · obtain ⟨s1, hy⟩ := s1
        have q := q _ s1
        have q : Q (.bl (ds.all stepB)) H1 := q
        rw [all_yes fun j x hx => hy j x (by have := (List.getElem?_eq_some_iff.mp hx).1; rw [hv.length]; exact this) hx] at q
        exact q
    | _ => exact iteF (q _ (Same.refl H))
def spBodyA (Pw Pb : Addr) : Sp := fun vs H Q _ => ∃ v d, vs = [v] ∧ ThAt H v d ∧ H Pw = some (tabH Pw) ∧ H Pb = some (tabH Pb) ∧ ∀ H', Same H H' → Q (.bl (bodyB d)) H'
theorem ok_is_bodyA {f Pw Pb : Addr} {fd : FuncData} {t9 : Tok} (F : Fun K "is_body" "is_body" s_is_body f fd) (b : ∀ x ∈ blts, mg x = none) (g_MOST_STEPS : mg "MOST_STEPS" = some (.int 9 t9))
    (c_is_steps : Cal P w K mg base "is_steps" 25 ["thing"] (spStepsA Pw Pb)) : FnOk P w K mg base CX0 30 f fd ["thing"] (spBodyA Pw Pb) := by
  refine F.ok sc_is_body (fun vs H Q E h => ?_) (fun cdv A outer s H vs Q E hr h => ?_)
  · obtain ⟨v, st, rfl, _⟩ := h; rfl
  · obtain ⟨v, d, rfl, hd, hw, hp, q⟩ := h
    refine ⟨_, (pss_one (ps_ret (pe_and (pe_cal c_is_steps (hr.mono (by decide)) (by rfl) (pa_cons (pv 0) pa_nil)) (pe_one (pe_cmpR op_le (pe_callB call_len_seq (by rfl) (b "len" (by decide +kernel)) (by decide +kernel) (pa_cons (pv 0) pa_nil)) (pe_glob (v := .int 9) (by rfl) g_MOST_STEPS ⟨_, rfl⟩) (nomark _)))))), ?_⟩
    refine ⟨_, rfl, v, d, rfl, hd, hw, hp, fun H1 s1 => ⟨_, rfl, ?_⟩⟩
    cases d with
    | lst ds =>
      have q : Q (.bl (ds.all stepB && decide (ds.length ≤ 9))) H1 := q _ s1
      show if ds.all stepB = true then _ else _
      cases z : ds.all stepB with
      | true =>
        rw [z, Bool.true_and] at q
        obtain ⟨l, us, rfl, hl, hv⟩ := (hd.same s1).lstOf
        refine iteT ⟨_, rfl, _, _, rfl, .inl (SqL.of hl), _, _, rfl, rfl, ?_⟩
        have e : decide ((us.length : Int) ≤ 9) = decide (ds.length ≤ 9) := by rw [hv.length]; exact decide_eq_decide.mpr (by omega)
        show Q (.bl (decide ((us.length : Int) ≤ 9))) _
        rw [e]; exact q
      | false =>
        rw [z, Bool.false_and] at q
        exact iteF q
    | _ => exact iteF (q _ s1)
/-! ### has_word, has_body, has_body_or_none -/
def spHasWordA (Pw : Addr) : Sp := fun vs H Q _ => ∃ v d, vs = [v] ∧ ThAt H v d ∧ H Pw = some (tabH Pw) ∧ Q (.bl (hasW d)) H
theorem ok_has_wordA {f Pw : Addr} {fd : FuncData} (F : Fun K "has_word" "has_word" s_has_word f fd) (b : ∀ x ∈ blts, mg x = none) (c_is_word : Cal P w K mg base "is_word" 10 ["thing"] (spWordA Pw)) :
    FnOk P w K mg base CX0 20 f fd ["thing"] (spHasWordA Pw) := by
  refine F.ok sc_has_word (fun vs H Q E h => ?_) (fun cdv A outer s H vs Q E hr h => ?_)
  · obtain ⟨v, x, rfl, _⟩ := h; rfl
  · obtain ⟨v, d, rfl, hd, hw, q⟩ := h
    refine ⟨_, (pss_one (ps_ret (pe_and (pe_callB call_isi (by rfl) (b "isinstance" (by decide +kernel)) (by decide +kernel) (pa_cons (pv 0) (pa_cons (pe_bltn (v := .ty "tuple") (by rfl) (b "tuple" (by decide +kernel)) (by decide +kernel) rfl) pa_nil))) (pe_and (pe_cmpR op_eq (pe_callB call_len_seq (by rfl) (b "len" (by decide +kernel)) (by decide +kernel) (pa_cons (pv 0) pa_nil)) pe_int (nomark _)) (pe_one (pe_cal c_is_word (hr.mono (by decide)) (by rfl) (pa_cons (pe_ix ix_tup (pv 0) pe_int (fun _ _ => rfl)) pa_nil))))))), ?_⟩
    refine ⟨_, rfl, _, _, _, _, rfl, hd.tyOf, kit_tup _ d, _, rfl, ?_⟩
    cases d with
    | tup ds =>
      obtain ⟨t, vl, rfl, ht, hv⟩ := hd.tupOf
      refine iteT ⟨_, rfl, _, _, rfl, .inr (SqT.of ht), rfl, _, rfl, ?_⟩
      rcases ds with _ | ⟨d0, _ | ⟨d1, _ | ⟨d2, r⟩⟩⟩
      · cases hv; exact iteF q
      · cases hv with
        | cons h0 t0 => cases t0; exact iteF q
      · cases hv with
        | cons h0 t0 =>
          cases t0 with
          | cons h1 t1 =>
            cases t1
            exact iteT ⟨_, rfl, t, _, _, _, rfl, rfl, SqT.of ht, at_of (j := 0) rfl rfl, _, d0, rfl, h0, hw, q⟩
      · cases hv with
        | @cons v0 _ _ _ h0 t0 =>
          cases t0 with
          | @cons v1 _ _ _ h1 t1 =>
            cases t1 with
            | @cons v2 _ vr _ h2 t2 =>
              have e : decide (V.int ((v0 :: v1 :: v2 :: vr).length : Nat) = V.int 2) = false := decide_eq_false (by intro z; injection z with z; simp at z; omega)
              refine (show if decide (V.int ((v0 :: v1 :: v2 :: vr).length : Nat) = V.int 2) = true then _ else _ from ?_)
              rw [e]
              exact iteF q
    | _ => exact iteF q
def spHasBodyA (Pw Pb : Addr) : Sp := fun vs H Q _ => ∃ v d, vs = [v] ∧ ThAt H v d ∧ H Pw = some (tabH Pw) ∧ H Pb = some (tabH Pb) ∧ ∀ H', Same H H' → Q (.bl (hasB d)) H'
theorem hasW_two {d : Th} (h : hasW d = true) : ∃ a b, d = .tup [a, b] ∧ wordB a = true := by
  unfold hasW at h
  split at h
  · exact ⟨_, _, rfl, h⟩
  · cases h
theorem hasB_no {d : Th} (h : hasW d = false) : hasB d = false ∧ hasN d = false := by
  unfold hasB hasN
  refine ⟨?_, ?_⟩
  · split
    · rename_i a b; have h : wordB a = false := h; rw [h]; rfl
    · rfl
  · split
    · rename_i a b; have h : wordB a = false := h; rw [h]; rfl
    · rfl
theorem ok_has_bodyA {f Pw Pb : Addr} {fd : FuncData} (F : Fun K "has_body" "has_body" s_has_body f fd) (c_has_word : Cal P w K mg base "has_word" 20 ["thing"] (spHasWordA Pw)) (c_is_body : Cal P w K mg base "is_body" 30 ["thing"] (spBodyA Pw Pb)) :
    FnOk P w K mg base CX0 40 f fd ["thing"] (spHasBodyA Pw Pb) := by
  refine F.ok sc_has_body (fun vs H Q E h => ?_) (fun cdv A outer s H vs Q E hr h => ?_)
  · obtain ⟨v, e, rfl, _⟩ := h; rfl
  · obtain ⟨v, d, rfl, hd, hw, hp, q⟩ := h
    refine ⟨_, (pss_one (ps_ret (pe_and (pe_cal c_has_word (hr.mono (by decide)) (by rfl) (pa_cons (pv 0) pa_nil)) (pe_one (pe_cal c_is_body (hr.mono (by decide)) (by rfl) (pa_cons (pe_ix ix_tup (pv 0) pe_int (fun _ _ => rfl)) pa_nil)))))), ?_⟩
    refine ⟨_, rfl, v, d, rfl, hd, hw, _, rfl, ?_⟩
    cases z : hasW d with
    | true =>
      obtain ⟨a, c, rfl, ha⟩ := hasW_two z
      obtain ⟨t, vl, rfl, ht, hv⟩ := hd.tupOf
      cases hv with
      | cons h0 t0 =>
        cases t0 with
        | cons h1 t1 =>
          cases t1
          refine iteT ⟨_, rfl, t, _, _, _, rfl, rfl, SqT.of ht, at_of (j := 1) rfl rfl, _, c, rfl, h1, hw, hp, fun H' s' => ?_⟩
          have q : Q (.bl (wordB a && bodyB c)) H' := q _ s'
          rw [ha, Bool.true_and] at q
          exact q
    | false =>
      have q := q _ (Same.refl H)
      rw [(hasB_no z).1] at q
      exact iteF q
end
end MG

set_option Elab.async false
set_option linter.all false
set_option maxRecDepth 100000
namespace MG
open PySem PySem.Spec PyProof.Rows L2
theorem hasB_each {ds : List Th} (h : ds.all hasB = true) : ∀ d ∈ ds, WordOk (wdOf d) := fun d hd => by
  obtain ⟨x, b, rfl, ok⟩ := hasB_wd (List.all_eq_true.mp h d hd)
  exact ok
theorem wd_fst {H : Hp} {v : V} {d : Th} (h : ThAt H v d) (k : hasB d = true ∨ hasN d = true) : ∃ t y, v = .ref t ∧ H t = some (.tup [.str (wdOf d), y]) ∧ fstV H v = [.str (wdOf d)] := by
  have z : ∃ x b, d = .tup [.str x, b] := by
    rcases k with k | k
    · obtain ⟨x, b, e, _⟩ := hasB_wd k; exact ⟨x, b, e⟩
    · obtain ⟨x, b, e, _⟩ := hasN_wd k; exact ⟨x, b, e⟩
  obtain ⟨x, b, rfl⟩ := z
  obtain ⟨t, vl, rfl, ht, hv⟩ := h.tupOf
  cases hv with
  | @cons v0 _ _ _ h0 t0 =>
    cases t0 with
    | @cons v1 _ _ _ h1 t1 =>
      cases t1
      obtain ⟨rfl, _⟩ := h0.strOf
      refine ⟨t, v1, rfl, ht, ?_⟩
      unfold fstV; rw [tupAt_of ht]; rfl
theorem paired_sing {α β : Type} {F : α → β → Prop} {f : α → List V} {g : β → Str} : ∀ {l : List α} {m : List β}, Paired F l m → (∀ a b, b ∈ m → F a b → f a = [V.str (g b)]) → l.flatMap f = (m.map g).map V.str
  | _, _, .nil, _ => rfl
  | _, _, .cons r t, h => by rw [List.flatMap_cons, h _ _ List.mem_cons_self r, paired_sing t fun a b hb => h a b (List.mem_cons_of_mem _ hb)]; rfl
section
variable {P : Program} {w : World} {K : PySem.W.Frag} {mg : Str → Option Value} {base : Heap}
def spBookA (T : TB) : Sp := fun vs H Q _ => ∃ v d, vs = [v] ∧ ThAt H v d ∧ fewB d ∧ T.on H ∧ ∀ H', Same H H' → Q (.bl (bookB d)) H'
theorem ok_is_bookA {f c bm : Addr} {fd : FuncData} {ob : Obj} {T : TB} (F : FunG K "is_book" "is_book" s_is_book f fd c T.k) (b : ∀ x ∈ blts, mg x = none) (hB : BMod base mainGlobals mg bm ob)
    (c_has_body : Cal P w K mg base "has_body" 40 ["thing"] (spHasBodyA T.w T.b)) : FnOk P w K mg base CX0 50 f fd ["thing"] (spBookA T) := by
  refine F.ok sc_is_book (fun vs H Q E h => ?_) (fun A outer s H vs Q E hr h => ?_)
  · obtain ⟨v, st, rfl, _⟩ := h; rfl
  · obtain ⟨v, d, rfl, hd, few, hT, q⟩ := h
    refine ⟨_, (pss_cons (ps_if (PW.pt (pw_or (pt_not (pt_val (pe_callB call_isi (by rfl) (b "isinstance" (by decide +kernel)) (by decide +kernel) (pa_cons (pv 0) (pa_cons (pe_bltn (v := .ty "list") (by rfl) (b "list" (by decide +kernel)) (by decide +kernel) rfl) pa_nil))))) (pw_or1 (pt_not (pt_val (pe_allG (N := ["pair"]) rfl hr (by rfl) (b "all" (by decide +kernel)) rfl F.hd hB ⟨rfl, rfl, by decide +kernel, by decide +kernel, by decide +kernel, by decide +kernel⟩ (pi_list (pv 0)) (fun _ _ _ _ _ _ => (pg_name (i := 0) (show (["pair"] : List Str).Nodup from by decide +kernel) rfl (by first | exact Or.inl rfl | exact Or.inr rfl))) (fun _ _ _ _ _ _ hr => (pe_cal c_has_body (hr.mono (by decide)) (by rfl) (pa_cons (pv 0) pa_nil))))))))) (pss_one (ps_ret pe_bl)) pss_nil) (pss_cons (ps_setLc (i := 1) (own := [("word", 2), ("body", 3)]) rfl sc_is_book.nd rfl rfl (sw_true rfl rfl rfl (by decide +kernel)) (pi_list (pv 0)) (blkOk_by (own := [("word", 2), ("body", 3)]) (N := N_is_book) (sc := defScope s_is_book) (by decide +kernel)) (fun _ _ _ _ _ => (pg_tupK (K := K) (n := 2) rfl (by rfl) (pgs_cons (pg_name (i := 2) sc_is_book.nd rfl (by first | exact Or.inl rfl | exact Or.inr rfl)) (pgs_cons (pg_name (i := 3) sc_is_book.nd rfl (by first | exact Or.inl rfl | exact Or.inr rfl)) pgs_nil)))) (fun _ _ _ _ _ => pts_nil) (fun _ _ _ _ _ => (pv 2))) (pss_one (ps_ret (pe_cmpR (op_eqD hr.units) (pv 1) (pe_callB (cr_sortedSet rfl) (by rfl) (b "sorted" (by decide +kernel)) (by decide +kernel) (pa_cons (pe_callTy (call_setS rfl) (by rfl) (b "set" (by decide +kernel)) (by decide +kernel) (pa_cons (pv 1) pa_nil)) pa_nil)) (nomark _)))))), ?_⟩
    refine ⟨_, rfl, _, _, _, _, rfl, hd.tyOf, kit_lst _ d, _, rfl, ?_⟩
    cases d with
    | lst ds =>
      obtain ⟨L, us, rfl, hl, hv⟩ := hd.lstOf
      have few : ds.length ≤ 20 := few
      have len := hv.length
      refine iteF ?_
      unfold tNot tB
      refine allG_by (K := K) (fun i H' => Same H H' ∧ ∀ j x, j < i → ds[j]? = some x → hasB x = true) rfl (SqL.of hl) hT.2.2.1 ⟨Same.refl H, fun j x z => by omega⟩ (fun i y H1 hy s1 => ⟨SqL.of (s1.1 _ _ hl), ?_⟩) (fun H1 s1 => ⟨SqL.of (s1.1 _ _ hl), ?_⟩)
      · obtain ⟨s1, hyes⟩ := s1
        obtain ⟨dx, h1, h2⟩ := ths_at hv hy
        refine ⟨_, rfl, y, dx, rfl, h2.same s1, s1 _ _ hT.1, s1 _ _ hT.2.1, fun H3 s3 => ⟨_, rfl, ?_⟩⟩
        cases z : hasB dx with
        | true =>
          refine iteT ⟨s1.trans s3, fun j x hj hx => ?_⟩
          rcases Nat.lt_or_ge j i with g | g
          · exact hyes j x g hx
          · have : j = i := by omega
            subst this
            rw [h1] at hx; cases hx; exact z
        | false =>
          have q : Q (.bl (ds.all hasB && upB (ds.map wdOf))) H3 := q _ (s1.trans s3)
          rw [all_first h1 z, Bool.false_and] at q
          exact iteF ⟨_, rfl, iteT q⟩
      · obtain ⟨s1, hyes⟩ := s1
        have hall : ds.all hasB = true := all_yes fun j x hx => hyes j x (by have := (List.getElem?_eq_some_iff.mp hx).1; rw [len]; exact this) hx
        refine ⟨_, rfl, iteF ?_⟩
        have hv1 : ThsAt H1 us ds := ThsAt.same s1 _ hv
        have each := hasB_each hall
        have hw : us.flatMap (fstV H1) = (ds.map wdOf).map V.str := paired_sing hv1 fun a b hb r => (wd_fst r (.inl (List.all_eq_true.mp hall b hb))).elim fun t z => z.elim fun y z => z.2.2
        dsimp only [tNext, tSeq, tAsg, gName]
        refine tLc_pickV L us (fstV H1) rfl (SqL.of (s1 _ _ hl)) ?_ (fun D x acc Nx hD hx ha hN => ?_) (fun D hD => ?_)
        · rw [hw, List.length_map, List.length_map, sizeLine_eq]; omega
        · obtain ⟨e, he, r⟩ := paired_mem hv1 hx
          obtain ⟨t, y, rfl, ht, hf⟩ := wd_fst r (.inl (List.all_eq_true.mp hall e he))
          have ht2 : upd H1 D (.lst acc) t = some (.tup [.str (wdOf e), y]) := (same_upd hD) _ _ ht
          rw [hf] at hN
          refine ⟨t, _, rfl, SqT.of ht2, rfl, _, _, rfl, _, _, rfl, rfl, rfl, ?_⟩
          dsimp only [tYes]
          refine iteT ⟨_, rfl, acc, upd_same, ha, ?_⟩
          rw [upd_upd]; exact hN
        · rw [hw]
          have lws : (ds.map wdOf).length ≤ 20 := by rw [List.length_map]; exact few
          have ok1 : ∀ x ∈ ds.map wdOf, WordOk x := fun x hx => by
            obtain ⟨d, hd, rfl⟩ := List.mem_map.mp hx
            exact each d hd
          have q : ∀ H', Same H H' → Q (.bl (upB (ds.map wdOf))) H' := fun H' s' => by
            have q : Q (.bl (ds.all hasB && upB (ds.map wdOf))) H' := q _ s'
            rw [hall, Bool.true_and] at q; exact q
          generalize ds.map wdOf = ws at *
          have l64 : (dedupS ws).length < 64 := by
            have h1 := dedup_len ws
            omega
          refine ⟨_, rfl, _, rfl, D, ws, rfl, SqL.of upd_same, by omega, fun l hl => ⟨l, _, rfl, upd_same, l64, fun ys p hp hsrt hp0 => ?_⟩⟩
          have s2 : Same H1 (upd H1 D (.lst (ws.map V.str))) := same_upd hD
          have hD2 : upd (upd (upd H1 D (.lst (ws.map V.str))) l (setH P w l (dedupS ws))) p (.lst (ys.map V.str)) D = some (.lst (ws.map V.str)) := (supd (same_upd hl) hp0) _ _ upd_same
          have fl : ∀ zs : List Str, (∀ x ∈ zs, WordOk x) → Flat (.list (zs.map PyData.str)) 2 := fun zs hz => flat_list fun d hd => by
            obtain ⟨x, hx, rfl⟩ := List.mem_map.mp hd
            exact flat_str (word_ok (hz x hx))
          have f1 := fl ws ok1
          have f2 := fl ys fun x hx => ok1 x (mem_dedup.mp (hp.mem_iff.mp hx))
          refine ⟨.list (ws.map PyData.str), .list (ys.map PyData.str), .lst (SqL.of hD2) (dp_strs _), .lst (SqL.of upd_same) (dp_strs _), f1.shaped, f2.shaped, ?_⟩
          rw [eqvA_strl, upB_sorted hp hsrt]
          exact q _ (s1.trans (supd (supd s2 hl) hp0))
    | _ => exact iteT (q _ (Same.refl H))
/-! ### what refuses -/
def spNeedBookA (T : TB) (CB : Addr) : Sp := fun vs H Q E => ∃ v d, vs = [v] ∧ ThAt H v d ∧ fewB d ∧ T.on H ∧ (bookB d = true → ∀ H', Same H H' → Q .non H') ∧ (bookB d = false → ∀ H', Same H H' → E (.ref CB) none H')
theorem ok_need_bookA {f CB : Addr} {fd : FuncData} {T : TB} (F : Fun K "need_book" "need_book" s_need_book f fd) (x_BadBook : Exc K CB) (m_BadBook : mg "BadBook" = some (.ref CB)) (c_is_book : Cal P w K mg base "is_book" 50 ["thing"] (spBookA T)) : FnOk P w K mg base (CXE P w) 60 f fd ["book"] (spNeedBookA T CB) := by
  refine F.okE sc_need_book (fun vs H Q E h => ?_) (fun cdv A outer s H vs Q E hr h => ?_)
  · obtain ⟨v, st, rfl, _⟩ := h; rfl
  · obtain ⟨v, d, rfl, hd, few, hT, q1, q2⟩ := h
    refine ⟨_, (pss_one (ps_if (pt_not (pt_val (pe_cal c_is_book (hr.mono (by decide)) (by rfl) (pa_cons (pv 0) pa_nil)))) (pss_one (ps_raise fl_of rfl x_BadBook m_BadBook (by rfl) (pa_cons pe_str pa_nil))) pss_nil)), ?_⟩
    refine ⟨_, rfl, v, d, rfl, hd, few, hT, fun H' s' => ⟨_, rfl, ?_⟩⟩
    cases z : bookB d with
    | true => exact iteF (q1 z H' s')
    | false => exact iteT ⟨by decide, q2 z H' s'⟩
end
end MG

set_option Elab.async false
set_option linter.all false
set_option maxRecDepth 100000
namespace MG
open PySem PySem.Spec PyProof.Rows L2
section
variable {P : Program} {w : World} {K : PySem.W.Frag} {mg : Str → Option Value} {base : Heap}
/-! ### is_number: of a whole number -/
end
end MG

set_option Elab.async false
set_option linter.all false
set_option maxRecDepth 100000
namespace MG
open PySem PySem.Spec PyProof.Rows L2
section
variable {P : Program} {w : World} {K : PySem.W.Frag} {mg : Str → Option Value} {base : Heap}
/-! ### is_word: of a word -/
end
end MG

set_option Elab.async false
set_option linter.all false
set_option maxRecDepth 100000
namespace MG
open PySem PySem.Spec PyProof.Rows L2
section
variable {P : Program} {w : World} {K : PySem.W.Frag} {mg : Str → Option Value} {base : Heap}
/-! ### is_step: of a step -/
abbrev bareL : List V := [.str "say", .str "hear", .str "end"]
abbrev numL : List V := [.str "plus", .str "times", .str "turn"]
abbrev wrdL : List V := [.str "ask", .str "odd"]
end
end MG

set_option Elab.async false
set_option linter.all false
set_option maxRecDepth 100000
namespace MG
open PySem PySem.Spec PyProof.Rows L2
section
variable {P : Program} {w : World} {K : PySem.W.Frag} {mg : Str → Option Value} {base : Heap}
/-! ### is_steps, is_body -/
/-! ### has_word, has_body, has_body_or_none -/
end
end MG

set_option Elab.async false
set_option linter.all false
set_option maxRecDepth 100000
namespace MG
open PySem PySem.Spec PyProof.Rows L2
section
variable {P : Program} {w : World} {K : PySem.W.Frag} {mg : Str → Option Value} {base : Heap}
/-! ### is_book: of a book -/
/-! ### is_changes -/
/-! ### what refuses -/
end
end MG

set_option Elab.async false
set_option linter.all false
set_option maxRecDepth 100000
namespace MG
open PySem PySem.Spec PyProof.Rows L2
/-! ### many things laid at once -/
def lays (H : Hp) (L : List (Addr × HO)) : Hp := L.foldl (fun H e => upd H e.1 e.2) H
theorem lays_cons {H : Hp} {e : Addr × HO} {L : List (Addr × HO)} : lays H (e :: L) = lays (upd H e.1 e.2) L := rfl
theorem lays_out : ∀ {L : List (Addr × HO)} {H : Hp} {b : Addr}, b ∉ L.map (·.1) → lays H L b = H b
  | [], _, _, _ => rfl
  | e :: L, H, b, h => by
    rw [List.map_cons, List.mem_cons, not_or] at h
    rw [lays_cons, lays_out h.2, upd_ne h.1]
theorem lays_in : ∀ {L : List (Addr × HO)} {H : Hp} {e : Addr × HO}, (L.map (·.1)).Nodup → e ∈ L → lays H L e.1 = some e.2
  | e' :: L, H, e, nd, h => by
    rw [List.map_cons, List.nodup_cons] at nd
    rw [lays_cons]
    rcases List.mem_cons.mp h with z | z
    · subst z; rw [lays_out nd.1, upd_same]
    · exact lays_in nd.2 z
section
variable {X : Cx} {pins : List (Addr × Obj)} {σ : L2.St} {H : Hp} {s : Shared} {h' : Heap}
theorem lays_same {L : List (Addr × HO)} (n : ∀ e ∈ L, H e.1 = none) : Same H (lays H L) := fun b u e => by
  rw [lays_out (fun z => ?_)]
  · exact e
  · obtain ⟨p, hp, rfl⟩ := List.mem_map.mp z
    rw [n p hp] at e; cases e
theorem inv_lays {L : List (Addr × HO)} {t' : Nat} (I : Inv X pins σ H s) (k : ∀ b u, s.heap.get? b = some u → h'.get? b = some u) (hp : ∀ e ∈ L, s.heap.objs.size ≤ e.1) (nd : (L.map (·.1)).Nodup)
    (new : ∀ e ∈ L, ObjOk X.prog X.w (lays H L) h' e.1 e.2) : Inv X pins σ (lays H L) { s with heap := h', toks := t' } := by
  have hn : ∀ e ∈ L, H e.1 = none := fun e he => I.hok.fresh (hp e he)
  have sm := lays_same hn
  refine I.un ⟨fun b u q _ _ _ => k b u q, fun b u q _ _ _ => ⟨u.slots, k b u q⟩, fun b u q n _ => ?_, fun b u q _ => ⟨u, k b u q⟩, fun b xs q => sm _ _ q, fun b u xs q => sm _ _ q, fun b ps q => ⟨#[], by rw [sm _ _ q]; simp⟩⟩ fun b u e => ?_
  · rw [lays_out (fun z => ?_)]
    · exact n
    · obtain ⟨p, hp', rfl⟩ := List.mem_map.mp z
      exact absurd (Heap.lt_size q) (Nat.not_lt.mpr (hp p hp'))
  · by_cases hb : b ∈ L.map (·.1)
    · obtain ⟨p, hp', rfl⟩ := List.mem_map.mp hb
      rw [lays_in nd hp'] at e
      cases e
      exact new p hp'
    · rw [lays_out hb] at e
      exact (I.hok b u e).stay (fun c v _ q => k c v q) (fun c q => sm _ _ q) fun c xs q => sm _ _ q
/-! ### list(d.items()) -/
def itemsH (v d : Addr) : HO := .ext fun h => h.IsItemsView v d
theorem itemsH_ok {P : Program} {w : World} {h : Heap} {v d : Addr} (x : h.IsItemsView v d) : ObjOk P w H h v (itemsH v d) :=
  ⟨x, let ⟨o, ho, _⟩ := x; ⟨o, ho⟩, fun h1 h2 ⟨o, ho, c⟩ q => ⟨o, q o ho, c⟩⟩
def tItems (td : TE) : TE := fun σ H Q => td σ H fun x H1 => ∃ d kvs, x = .ref d ∧ H1 d = some (.dK kvs) ∧ ∀ v, H1 v = none → Q (.ref v) (upd H1 v (itemsH v d))
theorem pe_items {e : Expr} {td : TE} {apos cpos : Pos} (he : PE X e td) (hbase : attributeBase e "items" X.env (eval e X.env) = eval e X.env := by rfl) (hline : (apos.endLine == cpos.line) = true := by rfl) :
    PE X (.Call (.Attribute e "items" apos) [] [] cpos) (tItems td) := by
  intro pins s σ H Q I h
  refine wpAny_Call_method (T := "dict") (id := "dict.items") hbase rfl hline F.plainAttrs_dict F.slot_dict_items F.type_dict_items (thn (he pins s σ H _ I h) fun u s1 ⟨x, H1, I1, rx, d, kvs, ex, hd, q⟩ => ?_)
  subst ex
  obtain rfl : u = Value.ref d := rx
  obtain ⟨hz, hs, vs, kv, hm⟩ := dk_of I1.hok hd
  refine ⟨hm.typeIs, hm.mapOf.noDict, ?_⟩
  show wpAny _ _ (callWith cpos (.builtin "dict.items") [.ref d] [] []) _ X.xe s1
  refine method_meetsIn F.slot_dict_items F.entry_dict_items rfl (PySem.evalArgs_none ⟨rfl, hm.typeIs, F.args_dict_items_1 _, _, meets_dict_items (mixKind X.prog X.w) d hs, ⟨vs, hm⟩, ?_⟩)
  exact ⟨.ref s1.heap.objs.size, upd H1 s1.heap.objs.size (itemsH s1.heap.objs.size d), I1.laid (t' := s1.toks) (fun b u q => Heap.get?_push_of_some _ q) (Nat.le_refl _) (itemsH_ok ⟨_, Heap.get?_push_size _ rfl, rfl, rfl⟩), rfl, q _ (I1.hok.fresh (Nat.le_refl _))⟩
theorem kv_ix {κ : Type} {kvs : List (κ × V)} {vs : List (κ × Value)} (h : KV kvs vs) : ∀ {i : Nat} {k : κ} {u : Value}, vs[i]? = some (k, u) → ∃ v, kvs[i]? = some (k, v) ∧ RelV v u := by
  unfold KV at h
  induction h with
  | nil => intro i k u e; simp at e
  | @cons a b l₁ l₂ r t ih =>
    intro i k u e
    cases i with
    | zero =>
      have e : b = (k, u) := by simpa using e
      subst e
      exact ⟨a.2, by rw [← show a.1 = k from r.1]; rfl, r.2⟩
    | succ i => simpa using ih (by simpa using e)
theorem paired_of_ix {α β : Type} {R : α → β → Prop} : ∀ {l : List α} {m : List β}, l.length = m.length → (∀ (i : Nat) a b, l[i]? = some a → m[i]? = some b → R a b) → Paired R l m
  | [], [], _, _ => .nil
  | [], _ :: _, h, _ => by simp at h
  | _ :: _, [], h, _ => by simp at h
  | a :: l, b :: m, h, k => .cons (k 0 a b rfl rfl) (paired_of_ix (by simpa using h) fun i x y e1 e2 => k (i + 1) x y (by simpa using e1) (by simpa using e2))
theorem call_list_items (hc : X.calm = true) : CallR X (.type "list") (fun vs H Q => ∃ v d, ∃ kvs : List (Key × V), vs = [V.ref v] ∧ H v = some (itemsH v d) ∧ H d = some (.dK kvs) ∧ kvs.length ≤ 1000 ∧
    ∀ (H' : Hp) (l : Addr) (ts : List Addr), Same H H' → H l = none → H' l = some (.lst (ts.map V.ref)) → Paired (fun t kv => H' t = some (.tup [kV kv.1, kv.2])) ts kvs → Q (.ref l) H') := by
  intro pins s σ H vs us Q I r h
  obtain ⟨v, d, kvs, rfl, hv, hd, hn, q⟩ := h
  rw [Vals.ref1 r]
  obtain ⟨z, hs, ws, rel, dd⟩ := dk_of I.hok hd
  obtain ⟨ep, hat⟩ := dd.dictAt
  have hl : kvs.length = ws.length := Paired.length rel
  have view : s.heap.IsItemsView v d := (I.hok v _ hv).1
  refine PySem.W.kdx_call (knd := mixKind X.prog X.w) (kvs := ws) (ep := ep) (I.ok.hd hc) view hat (by rw [← hl, sizeLine_eq]; omega) fun h' tk acc c as hk hD hal hG hacc => ?_
  have len : as.length = kvs.length := hal.trans hl.symm
  have nl : s.heap.objs.size ∉ as := fun m => Nat.lt_irrefl _ (hG.above _ m)
  have ndas : as.Nodup := hG.rise.imp fun h => Nat.ne_of_lt h
  have fst : ((as.zip kvs).map fun p : Addr × Key × V => (p.1, HO.tup [kV p.2.1, p.2.2])).map (·.1) = as := by
    rw [List.map_map]
    have : ((fun x : Addr × HO => x.1) ∘ fun p : Addr × Key × V => (p.1, HO.tup [kV p.2.1, p.2.2])) = Prod.fst := rfl
    rw [this, List.map_fst_zip (by omega)]
  have nd : (((s.heap.objs.size, HO.lst (as.map V.ref)) :: (as.zip kvs).map fun p : Addr × Key × V => (p.1, HO.tup [kV p.2.1, p.2.2])).map (·.1)).Nodup := by
    rw [List.map_cons, fst]; exact List.nodup_cons.mpr ⟨nl, ndas⟩
  have lo : ∀ e ∈ (s.heap.objs.size, HO.lst (as.map V.ref)) :: (as.zip kvs).map fun p : Addr × Key × V => (p.1, HO.tup [kV p.2.1, p.2.2]), s.heap.objs.size ≤ e.1 := by
    intro e he
    rcases List.mem_cons.mp he with rfl | he
    · exact Nat.le_refl _
    · have : e.1 ∈ as := by rw [← fst]; exact List.mem_map.mpr ⟨e, he, rfl⟩
      exact Nat.le_of_lt (hG.above _ this)
  have vr : ∀ (as : List Addr), Vals (as.map V.ref) (as.map Value.ref) := fun as => by
    induction as with
    | nil => exact .nil
    | cons a r ih => exact .cons rfl ih
  have I' := inv_lays (t' := tk) I hk lo nd fun e he => by
    rcases List.mem_cons.mp he with rfl | he
    · refine ⟨by rw [List.length_map, len, sizeLine_eq]; omega, as.map Value.ref, c, vr as, ?_⟩
      rw [← hacc]; simpa using hD
    · obtain ⟨⟨a, k, x⟩, hp, rfl⟩ := List.mem_map.mp he
      obtain ⟨j, hj⟩ := List.mem_iff_getElem?.mp hp
      obtain ⟨h1, h2⟩ := List.getElem?_zip_eq_some.mp hj
      obtain ⟨key, k', u, e1, e2, e3⟩ := hG.pairs j a h1
      obtain ⟨v', e4, e5⟩ := kv_ix rel e1
      rw [e4] at h2
      cases h2
      exact ⟨by show 2 ≤ sizeLine; decide, [key, u], .cons (relV_key (show keyIs _ key = true from e2)) (.cons e5 .nil), ⟨_, e3, rfl, _, rfl⟩⟩
  refine ⟨.ref s.heap.objs.size, _, I', rfl, q _ _ as (lays_same fun e he => I.hok.fresh (lo e he)) (I.hok.fresh (Nat.le_refl _)) (lays_in nd (List.mem_cons_self ..)) (paired_of_ix len fun i a b h1 h2 => ?_)⟩
  exact lays_in (e := (a, HO.tup [kV b.1, b.2])) nd (List.mem_cons_of_mem _ (List.mem_map.mpr ⟨(a, b), List.mem_of_getElem? (List.getElem?_zip_eq_some.mpr ⟨h1, h2⟩), rfl⟩))
end
end MG

set_option Elab.async false
set_option linter.all false
set_option maxRecDepth 100000
set_option maxHeartbeats 1000000
namespace MG
open PySem PySem.Spec PyProof.Rows L2
/-! ### changes -/
structure BuiltC (H0 : Hp) (D : Addr) (H : Hp) (cs : List Cha) : Prop where
  same : Same H0 H
  fresh : H0 D = none
  here : ChgAt H D cs
  new : ∀ e ∈ cs, ∀ b ss, e.2 = some (b, ss) → H0 b = none ∧ b ≠ D
  nd : (cs.filterMap fun e => e.2.map (·.1)).Nodup
theorem BuiltC.start {H0 : Hp} {D : Addr} (h : H0 D = none) : BuiltC H0 D (upd H0 D (.lst [])) [] := ⟨same_upd h, h, ⟨[], upd_same, .nil⟩, by simp, List.nodup_nil⟩
theorem BuiltC.grow {H0 H H' : Hp} {D : Addr} {cs : List Cha} (h : BuiltC H0 D H cs) (k : Same H H') : BuiltC H0 D H' cs := ⟨h.same.trans k, h.fresh, h.here.same k, h.new, h.nd⟩
theorem BuiltC.weaken {H0 H1 H : Hp} {D : Addr} {cs : List Cha} (h : BuiltC H1 D H cs) (k : Same H0 H1) : BuiltC H0 D H cs := ⟨k.trans h.same, k.free h.fresh, h.here, fun e he b ss z => ⟨k.free (h.new e he b ss z).1, (h.new e he b ss z).2⟩, h.nd⟩
theorem BuiltC.push {H0 H H1 : Hp} {D p : Addr} {cs : List Cha} {e : Cha} {vs : List V} (h : BuiltC H0 D H cs) (hv : H D = some (.lst vs)) (k : Same H H1) (hb : ∀ b ss, e.2 = some (b, ss) → H b = none ∧ BodyAt H1 b ss) (hp : H1 p = none) :
    BuiltC H0 D (upd (upd H1 p (.tup [.str e.1, chaV e.2])) D (.lst (vs ++ [.ref p]))) (cs ++ [e]) := by
  have s1 : Same H (upd H1 p (.tup [.str e.1, chaV e.2])) := k.trans (same_upd hp)
  have hD2 := s1 _ _ hv
  have Ls : Lists [D] (upd H1 p (.tup [.str e.1, chaV e.2])) := fun a ha => by rw [List.mem_singleton.mp ha]; exact ⟨_, hD2⟩
  have B := But.upd (H := upd H1 p (.tup [.str e.1, chaV e.2])) (a := D) (o := .lst (vs ++ [.ref p]))
  have hpb : upd H1 p (.tup [.str e.1, chaV e.2]) p = some (.tup [.str e.1, chaV e.2]) := upd_same
  have nD : ∀ b ss, e.2 = some (b, ss) → b ≠ D := fun b ss z q => by
    have := (hb b ss z).1
    rw [q, hv] at this; cases this
  refine ⟨fun b u e => ?_, h.fresh, ⟨_, upd_same, ?_⟩, ?_, ?_⟩
  · have e1 := s1 _ _ (h.same b u e)
    exact B _ _ (by simpa using ne_of_none e h.fresh) e1
  · obtain ⟨us, hu, hP⟩ := h.here
    rw [hv] at hu
    cases hu
    refine paired_snoc ⟨p, rfl, tup_but hpb Ls B, fun b ss z => ((hb b ss z).2.same (same_upd hp)).but Ls B (by simpa using nD b ss z)⟩ (paired_imp hP fun v e he q => (q.same s1).but Ls B fun b ss z => ?_)
    simpa using (h.new e he b ss z).2
  · intro c hc b ss z
    rcases List.mem_append.mp hc with hc | hc
    · exact h.new c hc b ss z
    · rw [List.mem_singleton.mp hc] at z
      exact ⟨h.same.free (hb b ss z).1, nD b ss z⟩
  · rw [List.filterMap_append, List.nodup_append]
    refine ⟨h.nd, ?_, fun a ha a' ha' => ?_⟩
    · cases e2 : e.2 with
      | none => simp [e2]
      | some b => simp [e2]
    · cases e2 : e.2 with
      | none => simp [e2] at ha'
      | some b =>
        have ha' : a' = b.1 := by simpa [e2] using ha'
        obtain ⟨c, hc, ec⟩ := List.mem_filterMap.mp ha
        obtain ⟨⟨b', ss'⟩, e3, e4⟩ := Option.map_eq_some_iff.mp ec
        have e4 : b' = a := e4
        obtain ⟨us, hu, hP⟩ := h.here
        obtain ⟨v, _, t, _, _, q⟩ := paired_memR hP hc
        obtain ⟨ws, hw, _⟩ := q b' ss' e3
        intro z
        have := (hb b.1 b.2 e2).1
        rw [← ha', ← z, ← e4, hw] at this
        cases this
def chaSB (c : Cha) : Str × Option Body := (c.1, c.2.map (·.2))
/-- what was used, as changes -/
theorem uses_cha {H0 : Hp} : ∀ {kvs : List (Key × V)} {us : List (Str × Option Body)}, Paired (UseAt H0) kvs us → ∃ cs : List Cha, cs.map chaSB = us ∧ Paired (fun kv c => kv = (Sum.inr c.1, chaV c.2) ∧ ∀ b ss, c.2 = some (b, ss) → BodyAt H0 b ss) kvs cs
  | [], [], .nil => ⟨[], rfl, .nil⟩
  | (k, v) :: kvs, (x, o) :: us, .cons ⟨h1, h2⟩ t => by
    obtain ⟨cs, e, p⟩ := uses_cha t
    have h1 : k = Sum.inr x := h1
    subst h1
    cases o with
    | none =>
      have h2 : v = .non := h2
      subst h2
      exact ⟨(x, none) :: cs, by rw [List.map_cons, e]; rfl, .cons ⟨rfl, fun b ss z => by cases z⟩ p⟩
    | some ss =>
      obtain ⟨b, h3, h4⟩ := h2
      have h3 : v = .ref b := h3
      subst h3
      exact ⟨(x, some (b, ss)) :: cs, by rw [List.map_cons, e]; rfl, .cons ⟨rfl, fun b' ss' z => by cases z; exact h4⟩ p⟩
theorem paired_comp {α β γ : Type} {R : α → β → Prop} {S : β → γ → Prop} {T : α → γ → Prop} (f : ∀ a b c, R a b → S b c → T a c) : ∀ {l : List α} {m : List β} {n : List γ}, Paired R l m → Paired S m n → Paired T l n
  | _, _, _, .nil, .nil => .nil
  | _, _, _, .cons r t, .cons s u => .cons (f _ _ _ r s) (paired_comp f t u)
theorem paired_refs {R : V → Cha → Prop} {S : Addr → Cha → Prop} (f : ∀ a c, S a c → R (.ref a) c) : ∀ {l : List Addr} {m : List Cha}, Paired S l m → Paired R (l.map V.ref) m
  | _, _, .nil => .nil
  | _, _, .cons r t => .cons (f _ _ r) (paired_refs f t)
end MG

set_option Elab.async false
set_option linter.all false
set_option maxRecDepth 100000
set_option maxHeartbeats 1000000
namespace MG
open PySem PySem.Spec PyProof.Rows L2
section
variable {P : Program} {w : World} {K : PySem.W.Frag} {mg : Str → Option Value} {base : Heap}
/-! ### copied -/
def spCopied : Sp := fun vs H Q _ => ∃ L es, vs = [.ref L] ∧ ChgAt H L es ∧ es.length ≤ 1000 ∧ ∀ H' D cs, BuiltC H D H' cs → cs.map chaSB = es.map chaSB → Q (.ref D) H'
theorem ok_copied {f : Addr} {fd : FuncData} (F : Fun K "copied" "copied" s_copied f fd) (b : ∀ x ∈ blts, mg x = none) : FnOk P w K mg base CX0 10 f fd ["pairs"] spCopied := by
  refine F.ok sc_copied (fun vs H Q E h => ?_) (fun cdv A outer s H vs Q E hr h => ?_)
  · obtain ⟨i, k, rfl, _⟩ := h; rfl
  · obtain ⟨L, es, rfl, ⟨us, hl, hv⟩, few, q⟩ := h
    refine ⟨_, (pss_one (ps_ret (pe_lc (own := [("word", 1), ("body", 2)]) rfl sc_copied.nd (pi_list (pv 0)) (blkOk_by (own := [("word", 1), ("body", 2)]) (N := N_copied) (sc := defScope s_copied) (by decide +kernel)) (fun _ _ _ _ _ => (pg_tupK (K := K) (n := 2) rfl (by rfl) (pgs_cons (pg_name (i := 1) sc_copied.nd rfl (by first | exact Or.inl rfl | exact Or.inr rfl)) (pgs_cons (pg_name (i := 2) sc_copied.nd rfl (by first | exact Or.inl rfl | exact Or.inr rfl)) pgs_nil)))) (fun _ _ _ _ _ => pts_nil) (fun _ _ _ _ _ => (pe_tup (pa_cons (pv 1) (pa_cons (pe_ifExp (pt_cmpR op_isN (pv 2) pe_non (nomark _)) pe_non (pe_callTy (call_list_ofK (K := K) rfl) (by rfl) (b "list" (by decide +kernel)) (by decide +kernel) (pa_cons (pv 2) pa_nil))) pa_nil))))))), ?_⟩
    have len := hv.length
    refine ⟨_, rfl, L, rfl, ⟨_, SqL.of hl⟩, ?_⟩
    refine lc_by (fun D i Hc => ∃ cs, BuiltC H D Hc cs ∧ cs.map chaSB = (es.take i).map chaSB) (fun D hD => ⟨[], BuiltC.start hD, rfl⟩) (fun D i Hc _ ⟨cs, hB, _⟩ => SqL.of (hB.same _ _ hl)) (fun D i v Hc hD hx ⟨cs, hB, hd⟩ => ?_) (fun D Hc hD ⟨cs, hB, hd⟩ => ?_)
    · obtain ⟨e, he, t, rfl, ht, hb⟩ := paired_at hv hx
      refine ⟨t, _, rfl, SqT.of (hB.same _ _ ht), rfl, _, _, rfl, _, _, rfl, rfl, rfl, ?_⟩
      dsimp only [tYes]
      obtain ⟨vs, hvs, hP⟩ := id hB.here
      have ln : vs.length < sizeLine := by
        have h1 := hP.length
        have h2 := congrArg List.length hd
        rw [List.length_map, List.length_map, List.length_take] at h2
        rw [sizeLine_eq]; omega
      have fin : ∀ {c : Cha}, chaSB c = chaSB e → (cs ++ [c]).map chaSB = (es.take (i + 1)).map chaSB := fun {c} ec => by rw [List.map_append, hd, List.take_succ, he, List.map_append, List.map_cons, List.map_nil, ec]; rfl
      obtain ⟨x, o⟩ := e
      cases o with
      | none =>
        refine iteT ⟨_, rfl, _, rfl, rfl, _, rfl, iteT ⟨by show 2 ≤ sizeLine; decide, fun p hp => ?_⟩⟩
        exact ⟨vs, (same_upd hp) _ _ hvs, ln, _, hB.push (e := (x, none)) hvs (Same.refl _) (fun b ss y => by cases y) hp, fin rfl⟩
      | some bs =>
        have dn : decide (V.ref bs.1 = V.non) = false := decide_eq_false (by intro z; cases z)
        obtain ⟨ws, hw, hst⟩ := (hb bs.1 bs.2 rfl).same hB.same
        refine iteT ⟨_, rfl, _, rfl, rfl, _, rfl, ?_⟩
        refine (show (if decide (V.ref bs.1 = V.non) = true then _ else _) from ?_)
        rw [dn]
        refine iteF ⟨_, rfl, bs.1, ws, rfl, .inl (SqL.of hw), fun l hl0 => ⟨by show 2 ≤ sizeLine; decide, fun p hp => ?_⟩⟩
        have sl := same_upd (o := .lst ws) hl0
        refine ⟨vs, (sl.trans (same_upd hp)) _ _ hvs, ln, _, hB.push (e := (x, some (l, bs.2))) hvs sl (fun b ss' y => ?_) hp, fin rfl⟩
        cases y
        exact ⟨hl0, ws, upd_same, L2.Paired.mapP hst fun _ _ z => z.same sl⟩
    · rw [len, List.take_length] at hd
      exact q Hc D cs hB hd
end
end MG

set_option Elab.async false
set_option linter.all false
set_option maxRecDepth 100000
namespace MG
open PySem PySem.Spec PyProof.Rows L2
section
variable {X : Cx}
end
end MG

set_option Elab.async false
set_option linter.all false
set_option maxRecDepth 100000
set_option maxHeartbeats 1000000
namespace MG
open PySem PySem.Spec PyProof.Rows L2
/-! ### a dict of bodies by their words, in its own turn -/
def kvE (e : Ent) : Key × V := (Sum.inr e.1, V.ref e.2.1)
structure DicM (H : Hp) (d : Addr) (fs : List Ent) : Prop where
  at_ : H d = some (.dK (fs.map kvE))
  nd : (fs.map (·.1)).Nodup
  bo : ∀ e ∈ fs, BodyAt H e.2.1 e.2.2
theorem DicM.same {H H' : Hp} {d : Addr} {fs : List Ent} (h : DicM H d fs) (k : Same H H') : DicM H' d fs := ⟨k _ _ h.at_, h.nd, fun e he => (h.bo e he).same k⟩
theorem val_kvE {x : Str} : ∀ (fs : List Ent), valV (fs.map kvE) (Sum.inr x) = (bodyOf fs x).map fun b => V.ref b.1
  | [] => rfl
  | e :: r => by
    rw [List.map_cons]
    by_cases h : e.1 = x
    · rw [valV_pos (by show Sum.inr e.1 = _; rw [h])]
      unfold bodyOf
      rw [List.find?_cons_of_pos (by simpa using h)]; rfl
    · rw [valV_neg (fun z => h (Sum.inr.inj z)), val_kvE r]
      unfold bodyOf
      rw [List.find?_cons_of_neg (by simpa using h)]
theorem dOf_fold : ∀ (ps acc : List Ent), ((acc ++ ps).map (·.1)).Nodup → (ps.map entP).foldl putS (acc.map kvE) = (acc ++ ps).map kvE
  | [], acc, _ => by rw [List.append_nil]; rfl
  | p :: ps, acc, h => by
    rw [List.map_cons, List.foldl_cons]
    have hn : p.1 ∉ acc.map (·.1) := by
      rw [List.map_append, List.nodup_append] at h
      intro m
      exact h.2.2 _ m p.1 (List.mem_map.mpr ⟨p, List.mem_cons_self .., rfl⟩) rfl
    have e : putS (acc.map kvE) (entP p) = (acc ++ [p]).map kvE := by
      show putK (acc.map kvE) (Sum.inr p.1) (.ref p.2.1) = _
      rw [putK_new _ (by rw [val_kvE]; cases e : bodyOf acc p.1 with
        | none => rfl
        | some b => exact absurd (List.mem_map.mpr ⟨_, bodyOf_some e, rfl⟩) hn), List.map_append]
      rfl
    rw [e, dOf_fold ps (acc ++ [p]) (by rw [List.append_assoc]; exact h), List.append_assoc]
    rfl
theorem dOf_nd {fs : List Ent} (h : (fs.map (·.1)).Nodup) : dOf (fs.map entP) = fs.map kvE := dOf_fold fs [] h
theorem sb_words {fs es : List Ent} (h : fs.map entSB = es.map entSB) : fs.map (·.1) = es.map (·.1) := by
  have e : ∀ l : List Ent, l.map (·.1) = (l.map entSB).map (·.1) := fun l => by rw [List.map_map]; rfl
  rw [e, e, h]
theorem DicAt.m {H : Hp} {d : Addr} {es : List Ent} (h : DicAt H d es) (nd : (es.map (·.1)).Nodup) : ∃ fs, DicM H d fs ∧ fs.map entSB = es.map entSB := by
  obtain ⟨fs, h1, h2, h3⟩ := h
  have nd' : (fs.map (·.1)).Nodup := by rw [sb_words h2]; exact nd
  exact ⟨fs, ⟨by rw [h1, dOf_nd nd'], nd', h3⟩, h2⟩
theorem DicM.at {H : Hp} {d : Addr} {fs : List Ent} (h : DicM H d fs) : DicAt H d fs := ⟨fs, by rw [dOf_nd h.nd]; exact h.at_, rfl, h.bo⟩
/-! ### changes, one by one -/
def putE : List Ent → Str → Addr × Body → List Ent
  | [], x, b => [(x, b)]
  | e :: r, x, b => if e.1 = x then (x, b) :: r else e :: putE r x b
theorem putK_hd {k : Key} {v v0 : V} {r : List (Key × V)} (h : ∀ e ∈ r, e.1 ≠ k) : putK ((k, v0) :: r) k v = (k, v) :: r := by
  unfold putK
  rw [if_pos (by simp)]
  rw [List.map_cons, if_pos (by simp)]
  congr 1
  refine (List.map_congr_left fun e he => ?_).trans (List.map_id r)
  rw [if_neg (by simpa using h e he)]; rfl
theorem putK_tl {e : Key × V} {k : Key} {v : V} {r : List (Key × V)} (h : e.1 ≠ k) : putK (e :: r) k v = e :: putK r k v := by
  have hb : ∀ p : Key × V → Bool, p e = false → (e :: r).any p = r.any p := fun p hp => by rw [List.any_cons, hp, Bool.false_or]
  unfold putK
  rw [hb _ (by simpa using h)]
  split
  · rw [List.map_cons, if_neg (by simpa using h)]
  · rfl
theorem putE_kv {x : Str} {b : Addr × Body} : ∀ (fs : List Ent), (fs.map (·.1)).Nodup → putK (fs.map kvE) (Sum.inr x) (.ref b.1) = (putE fs x b).map kvE
  | [], _ => rfl
  | e :: r, hd => by
    rw [List.map_cons, List.nodup_cons] at hd
    rw [List.map_cons]
    unfold putE
    by_cases h : e.1 = x
    · rw [if_pos h, List.map_cons, show kvE e = (Sum.inr x, V.ref e.2.1) from by rw [← h]; rfl]
      refine putK_hd fun q hq => ?_
      obtain ⟨f, hf, rfl⟩ := List.mem_map.mp hq
      intro z
      exact hd.1 (by rw [h, ← Sum.inr.inj z]; exact List.mem_map.mpr ⟨f, hf, rfl⟩)
    · rw [if_neg h, List.map_cons, ← putE_kv r hd.2]
      exact putK_tl (fun z => h (Sum.inr.inj z))
theorem putE_mem {x y : Str} {b : Addr × Body} : ∀ (fs : List Ent), y ∈ (putE fs x b).map (·.1) ↔ y ∈ fs.map (·.1) ∨ y = x
  | [] => by unfold putE; simp
  | e :: r => by
    unfold putE
    by_cases h : e.1 = x
    · rw [if_pos h]
      simp only [List.map_cons, List.mem_cons]
      constructor
      · rintro (h1 | h1)
        · exact .inr h1
        · exact .inl (.inr h1)
      · rintro ((h1 | h1) | h1)
        · exact .inl (h1.trans h)
        · exact .inr h1
        · exact .inl h1
    · rw [if_neg h]
      simp only [List.map_cons, List.mem_cons, putE_mem r, or_assoc]
theorem putE_nd {x : Str} {b : Addr × Body} : ∀ {fs : List Ent}, (fs.map (·.1)).Nodup → ((putE fs x b).map (·.1)).Nodup
  | [], _ => by unfold putE; simp
  | e :: r, h => by
    rw [List.map_cons, List.nodup_cons] at h
    unfold putE
    by_cases k : e.1 = x
    · rw [if_pos k, List.map_cons, List.nodup_cons]; exact ⟨by rw [← k]; exact h.1, h.2⟩
    · rw [if_neg k, List.map_cons, List.nodup_cons]
      refine ⟨fun m => ?_, putE_nd h.2⟩
      rcases (putE_mem r).mp m with m | m
      · exact h.1 m
      · exact k m
theorem putE_in {x : Str} {b : Addr × Body} : ∀ {fs : List Ent} {e : Ent}, e ∈ putE fs x b → e = (x, b) ∨ e ∈ fs
  | [], e, h => .inl (List.mem_singleton.mp h)
  | f :: r, e, h => by
    unfold putE at h
    by_cases k : f.1 = x
    · rw [if_pos k] at h
      rcases List.mem_cons.mp h with h | h
      · exact .inl h
      · exact .inr (List.mem_cons_of_mem _ h)
    · rw [if_neg k] at h
      rcases List.mem_cons.mp h with h | h
      · exact .inr (by rw [h]; exact List.mem_cons_self ..)
      · rcases putE_in h with h | h
        · exact .inl h
        · exact .inr (List.mem_cons_of_mem _ h)
def dropE (fs : List Ent) (x : Str) : List Ent := fs.filter fun e => decide (e.1 ≠ x)
theorem dropE_kv {x : Str} (fs : List Ent) : dropK (fs.map kvE) (Sum.inr x) = (dropE fs x).map kvE := by
  unfold dropK dropE
  rw [List.filter_map]
  congr 1
  refine List.filter_congr fun e _ => ?_
  show decide ((Sum.inr e.1 : Key) ≠ Sum.inr x) = _
  exact decide_eq_decide.mpr ⟨fun h z => h (by rw [z]), fun h z => h (Sum.inr.inj z)⟩
def stepE (fs : List Ent) (c : Cha) : List Ent := match c.2 with
  | some b => putE fs c.1 b
  | none => dropE fs c.1
theorem stepE_nd {fs : List Ent} (c : Cha) (h : (fs.map (·.1)).Nodup) : ((stepE fs c).map (·.1)).Nodup := by
  obtain ⟨x, o⟩ := c
  cases o with
  | some b => exact putE_nd h
  | none => exact (List.filter_sublist.map _).nodup h
end MG

set_option Elab.async false
set_option linter.all false
set_option maxRecDepth 100000
set_option maxHeartbeats 1000000
namespace MG
open PySem PySem.Spec PyProof.Rows L2
section
variable {P : Program} {w : World} {K : PySem.W.Frag} {mg : Str → Option Value} {base : Heap}
/-! ### changed, book_of -/
theorem DicM.put {H : Hp} {D : Addr} {fs : List Ent} (h : DicM H D fs) {x : Str} {b : Addr × Body} (hb : BodyAt H b.1 b.2) : DicM (upd H D (.dK (putK (fs.map kvE) (Sum.inr x) (.ref b.1)))) D (putE fs x b) := by
  have k1 : ∀ xs, H D ≠ some (.tup xs) := fun xs z => by rw [h.at_] at z; cases z
  have keep : ∀ {a : Addr} {ss : Body} {o : HO}, BodyAt H a ss → BodyAt (upd H D o) a ss := fun q => body_upd q (fun z => by obtain ⟨ws, hw, _⟩ := q; rw [z, h.at_] at hw; cases hw) k1
  refine ⟨by rw [upd_same, putE_kv fs h.nd], putE_nd h.nd, fun e he => ?_⟩
  rcases putE_in he with rfl | he
  · exact keep hb
  · exact keep (h.bo e he)
theorem DicM.drop {H : Hp} {D : Addr} {fs : List Ent} (h : DicM H D fs) (x : Str) : DicM (upd H D (.dK (dropK (fs.map kvE) (Sum.inr x)))) D (dropE fs x) := by
  have k1 : ∀ xs, H D ≠ some (.tup xs) := fun xs z => by rw [h.at_] at z; cases z
  have keep : ∀ {a : Addr} {ss : Body} {o : HO}, BodyAt H a ss → BodyAt (upd H D o) a ss := fun q => body_upd q (fun z => by obtain ⟨ws, hw, _⟩ := q; rw [z, h.at_] at hw; cases hw) k1
  exact ⟨by rw [upd_same, dropE_kv], stepE_nd (x, none) h.nd, fun e he => keep (h.bo e (List.mem_filter.mp he).1)⟩
end
end MG

set_option Elab.async false
set_option linter.all false
set_option maxRecDepth 100000
set_option maxHeartbeats 1000000
namespace MG
open PySem PySem.Spec PyProof.Rows L2
section
variable {P : Program} {w : World} {K : PySem.W.Frag} {mg : Str → Option Value} {base : Heap}
/-! ### bodies_of -/
/-- a dict of bodies by their words, as the book has them -/
def spBodiesOf : Sp := fun vs H Q _ => ∃ L es, vs = [.ref L] ∧ BookAt H L es ∧ es.length ≤ 20 ∧ ∀ H' d, Same H H' → H d = none → DicAt H' d es → Q (.ref d) H'
theorem ok_bodies_of {f : Addr} {fd : FuncData} (F : Fun K "bodies_of" "bodies_of" s_bodies_of f fd) (b : ∀ x ∈ blts, mg x = none) : FnOk P w K mg base CX0 10 f fd ["book"] spBodiesOf := by
  refine F.ok sc_bodies_of (fun vs H Q E h => ?_) (fun cdv A outer s H vs Q E hr h => ?_)
  · obtain ⟨v, st, rfl, _⟩ := h; rfl
  · obtain ⟨L, es, rfl, ⟨us, hl, hv⟩, few, q⟩ := h
    refine ⟨_, (pss_one (ps_ret (pe_Dc (own := [("word", 1), ("body", 2)]) rfl sc_bodies_of.nd pn_dict (pi_list (pv 0)) (blkOk_by (own := [("word", 1), ("body", 2)]) (N := N_bodies_of) (sc := defScope s_bodies_of) (by decide +kernel)) (fun _ _ _ _ _ => (pg_tupK (K := K) (n := 2) rfl (by rfl) (pgs_cons (pg_name (i := 1) sc_bodies_of.nd rfl (by first | exact Or.inl rfl | exact Or.inr rfl)) (pgs_cons (pg_name (i := 2) sc_bodies_of.nd rfl (by first | exact Or.inl rfl | exact Or.inr rfl)) pgs_nil)))) (fun _ _ _ _ _ => pts_nil) (fun _ _ _ _ _ => em_dict (pv 1) (pe_callTy (call_list_ofK (K := K) rfl) (by rfl) (b "list" (by decide +kernel)) (by decide +kernel) (pa_cons (pv 2) pa_nil)))))), ?_⟩
    have len := hv.length
    refine ⟨_, rfl, L, rfl, ⟨_, SqL.of hl⟩, fun D hD => ?_⟩
    refine ⟨fun i m Hc => i + m = us.length ∧ Same H Hc ∧ ∃ fs : List Ent, Hc D = some (.dK (dOf (fs.map entP))) ∧ fs.map entSB = (es.take i).map entSB ∧ ∀ e ∈ fs, BodyAt Hc e.2.1 e.2.2, ⟨us.length, by omega, same_upd hD, [], upd_same, rfl, by simp⟩, ?_⟩
    rintro i m Hc ⟨eim, sc, fs, hd, ef, hbs⟩
    have q1 : SqL K Hc L us := SqL.of (sc _ _ hl)
    have flen : fs.length ≤ 20 := by
      have h1 : (fs.map entSB).length = ((es.take i).map entSB).length := by rw [ef]
      rw [List.length_map, List.length_map, List.length_take] at h1
      omega
    rcases Nat.lt_or_ge i us.length with z | z
    · refine .inr ⟨⟨us, _, q1, List.getElem?_eq_getElem z⟩, fun H3 => Same H H3 ∧ ∃ fs : List Ent, H3 D = some (.dK (dOf (fs.map entP))) ∧ fs.map entSB = (es.take (i + 1)).map entSB ∧ ∀ e ∈ fs, BodyAt H3 e.2.1 e.2.2, fun H3 p => ⟨m - 1, by omega, by omega, p⟩, ?_⟩
      rintro y H3 ⟨rfl, hy⟩
      obtain ⟨e, he, t, rfl, ht, ws, hw, hst⟩ := paired_at hv (hy _ q1)
      refine ⟨t, _, rfl, SqT.of (sc _ _ ht), rfl, _, _, rfl, _, _, rfl, rfl, rfl, ?_⟩
      dsimp only [tYes]
      refine iteT ⟨_, rfl, _, rfl, e.2.1, ws, rfl, .inl (SqL.of (sc _ _ hw)), fun l hl0 => ?_⟩
      have sl := same_upd (o := .lst ws) hl0
      have hdl := sl _ _ hd
      refine ⟨Sum.inr e.1, _, rfl, hdl, ?_, fun a u ea => ?_, fs ++ [(e.1, l, e.2.2)], ?_, ?_, ?_⟩
      · have h1 : (dOf (fs.map entP)).length = (dedupS ((fs.map entP).map (·.1))).length := by rw [← List.length_map (·.1), keys_dOf, List.length_map]
        have h2 := dedup_len ((fs.map entP).map (·.1))
        rw [List.length_map, List.length_map] at h2
        rw [h1, sizeLine_eq]; omega
      · rw [upd_ne (ne_of_none ea hD)]; exact sl _ _ (sc _ _ ea)
      · rw [upd_same, List.map_append]
        unfold dOf
        rw [List.foldl_append]; rfl
      · rw [List.map_append, ef, List.take_succ, he, List.map_append]; rfl
      · have nl : l ≠ D := fun z => by rw [z, hd] at hl0; cases hl0
        have keep : ∀ {a : Addr} {ss : Body}, a ≠ D → BodyAt (upd H3 l (.lst ws)) a ss → BodyAt (upd (upd H3 l (.lst ws)) D (.dK (putK (dOf (fs.map entP)) (Sum.inr e.1) (.ref l)))) a ss := by
          rintro a ss na ⟨vs, h1, h2⟩
          refine ⟨vs, by rw [upd_ne na]; exact h1, L2.Paired.mapP h2 fun v s ⟨tt, h3, h4⟩ => ⟨tt, h3, ?_⟩⟩
          rw [upd_ne (fun z => by rw [z, hdl] at h4; cases h4)]; exact h4
        intro en hen
        rcases List.mem_append.mp hen with hen | hen
        · obtain ⟨vs, h1, h2⟩ := hbs en hen
          exact keep (fun z => by rw [z, hd] at h1; cases h1) ((hbs en hen).same sl)
        · rw [List.mem_singleton.mp hen]
          exact keep nl ⟨ws, upd_same, L2.Paired.mapP hst fun _ _ z => (z.same sc).same sl⟩
    · have ei : i = us.length := by omega
      subst ei
      rw [len, List.take_length] at ef
      exact .inl ⟨⟨us, q1, Nat.le_refl _⟩, q Hc D sc hD ⟨fs, hd, ef, hbs⟩⟩
end
end MG

set_option Elab.async false
set_option linter.all false
set_option maxRecDepth 100000
set_option maxHeartbeats 1000000
namespace MG
open PySem PySem.Spec PyProof.Rows L2
section
variable {P : Program} {w : World} {K : PySem.W.Frag} {mg : Str → Option Value} {base : Heap}
/-! ### exchanged -/
end
end MG

set_option Elab.async false
set_option linter.all false
set_option maxRecDepth 100000
set_option maxHeartbeats 1000000
namespace MG
open PySem PySem.Spec PyProof.Rows L2
section
variable {P : Program} {w : World} {K : PySem.W.Frag} {mg : Str → Option Value} {base : Heap}
/-! ### told, exchanged: refused, or as due -/
end
end MG

set_option Elab.async false
set_option linter.all false
set_option maxRecDepth 100000
namespace MG
open PySem PySem.Spec PyProof.Rows L2
/-! ### the classes of refusals -/
/-- that the class C, the j-th of cs, is of none of the others; se: what is caught -/
def kitsB (K : PySem.W.Frag) (C : Addr) (j : Nat) : Nat → List Addr → Bool
  | _, [] => true
  | i, D :: r => (PySem.W.kitOne K (.ref C) (.ref D) == some (decide (i = j))) && kitsB K C j (i + 1) r
def ekB (K : PySem.W.Frag) (cs : List Addr) (se : Addr) (j : Nat) : Bool := match cs[j]? with
  | some C => kitsB K C j 0 cs && (PySem.W.kitOne K (.ref C) (.type "ValueError") == some true) && (PySem.W.exmOne K (.ref C) (.ref se) == some true) && (PySem.W.findIn K (.ref C) "__getattribute__" == some (some (.builtin "BaseException.__getattribute__"))) && (PySem.W.findIn K (.ref C) "__getattr__" == some none) && (PySem.W.mroIn K C (.type "BaseException") == some true) && (PySem.W.clsIn K C).isSome &&
      (PySem.W.findIn K (.ref C) "__class__" == some (some (.builtin "object.__class__"))) && (PySem.W.mroIn K C (.type "object") == some true) && PySem.W.excIn K C veL "ValueError.__new__"
  | none => false
def egB (K : PySem.W.Frag) : Bool := (PySem.W.specialIn K (.builtin "object.__class__") "__get__" == some (some (.builtin "getset_descriptor.__get__"))) && (PySem.W.takesIn K (.builtin "object.__class__") == some true)
structure EKs (K : PySem.W.Frag) (cs : List Addr) (se : Addr) (j : Nat) (C : Addr) : Prop where
  at' : cs[j]? = some C
  kit : ∀ i D, cs[i]? = some D → PySem.W.kitOne K (.ref C) (.ref D) = some (decide (i = j))
  val : PySem.W.kitOne K (.ref C) (.type "ValueError") = some true
  exm : PySem.W.exmOne K (.ref C) (.ref se) = some true
  err : ErrC K C
  exc : Exc K C
theorem kitsB_at {K : PySem.W.Frag} {C : Addr} {j : Nat} : ∀ {cs : List Addr} {i : Nat}, kitsB K C j i cs = true → ∀ m D, cs[m]? = some D → PySem.W.kitOne K (.ref C) (.ref D) = some (decide (i + m = j))
  | [], _, _, m, D, e => by simp at e
  | D0 :: r, i, h, m, D, e => by
    unfold kitsB at h
    rw [Bool.and_eq_true] at h
    cases m with
    | zero => simp at e; subst e; exact eq_of_beq h.1
    | succ m =>
      have := kitsB_at h.2 m D (by simpa using e)
      rw [this]
      congr 2
      rw [Nat.add_right_comm, Nat.add_assoc]
theorem EKs.of {K : PySem.W.Frag} {cs : List Addr} {se : Addr} {j : Nat} {C : Addr} (h : ekB K cs se j = true) (hc : cs[j]? = some C) : EKs K cs se j C := by
  unfold ekB at h
  rw [hc] at h
  simp only [Bool.and_eq_true] at h
  obtain ⟨⟨⟨⟨⟨⟨⟨⟨⟨h1, h2⟩, h3⟩, h4⟩, h4a⟩, h4b⟩, h5⟩, h6⟩, h7⟩, h8⟩ := h
  exact ⟨hc, fun i D e => by have := kitsB_at h1 i D e; rw [Nat.zero_add] at this; exact this, eq_of_beq h2, eq_of_beq h3, ⟨eq_of_beq h4, eq_of_beq h4a, eq_of_beq h4b, h5, eq_of_beq h6, eq_of_beq h7⟩, ⟨h8⟩⟩
theorem ErrG.of {K : PySem.W.Frag} (h : egB K = true) : ErrG K := by
  unfold egB at h
  rw [Bool.and_eq_true] at h
  exact ⟨eq_of_beq h.1, eq_of_beq h.2⟩
/-- what is told of a refusal of the j-th class -/
def kindsV (j : Nat) : List V := [.bl (decide (0 = j)), .bl (decide (1 = j)), .bl (decide (2 = j)), .bl (decide (3 = j)), .bl (decide (4 = j)), .bl (decide (5 = j)), .bl (decide (6 = j)), .bl (decide (7 = j)), .bl (decide (8 = j)), .bl (decide (9 = j)), .bl (decide (10 = j)), .bl true]
def kindsD (j : Nat) : PyData := .list [.bool (decide (0 = j)), .bool (decide (1 = j)), .bool (decide (2 = j)), .bool (decide (3 = j)), .bool (decide (4 = j)), .bool (decide (5 = j)), .bool (decide (6 = j)), .bool (decide (7 = j)), .bool (decide (8 = j)), .bool (decide (9 = j)), .bool (decide (10 = j)), .bool true]
theorem kinds_dp {K : PySem.W.Frag} {H : Hp} {l : Addr} {j : Nat} (h : H l = some (.lst (kindsV j))) : Dp K H (.ref l) (kindsD j) :=
  .lst (SqL.of h) (.cons (.bl _) (.cons (.bl _) (.cons (.bl _) (.cons (.bl _) (.cons (.bl _) (.cons (.bl _) (.cons (.bl _) (.cons (.bl _) (.cons (.bl _) (.cons (.bl _) (.cons (.bl _) (.cons (.bl _) .nil))))))))))))
theorem kinds_flat (j : Nat) : Flat (kindsD j) 2 := flat_list fun d hd => by
  simp only [List.mem_cons, List.not_mem_nil, or_false] at hd
  rcases hd with rfl | rfl | rfl | rfl | rfl | rfl | rfl | rfl | rfl | rfl | rfl | rfl <;> exact flat_bool _
end MG

set_option Elab.async false
set_option linter.all false
set_option maxRecDepth 100000
namespace MG
open PySem PySem.Spec PyProof.Rows L2
/-! ### in, not in, index: by data -/
section
variable {X : Cx}
theorem op_eqDK {K : PySem.W.Frag} (hK : X.K = K) (hu : X.A.units + 64 < cLine) : OpR X (compareOp .Eq) (rEqD K) := hK ▸ op_eqD hu
end
end MG

set_option Elab.async false
set_option linter.all false
set_option maxRecDepth 100000
set_option maxHeartbeats 1000000
namespace MG
open PySem PySem.Spec PyProof.Rows L2
section
variable {P : Program} {w : World} {K : PySem.W.Frag} {mg : Str → Option Value} {base : Heap}
/-! ### of which classes a refusal is -/
def spKinds (cs : List Addr) (se : Addr) : Sp := fun vs H Q _ => ∃ ea j C, vs = [.ref ea] ∧ H ea = some (ErrO ea (.ref C)) ∧ EKs K cs se j C ∧ ∀ l H', Same H H' → H' l = some (.lst (kindsV j)) → Q (.ref l) H'
theorem ok_law_kinds {f se C_BadWord C_BadBody C_BadBook C_BadChanges C_BadCall C_BadText C_BadName C_Unknown C_Over C_Underway C_TooMany : Addr} {fd : FuncData} (F : Fun K "_law_kinds" "_law_kinds" s_law_kinds f fd) (b : ∀ x ∈ blts, mg x = none) (bval : mg "ValueError" = none) (eG : ErrG K) (m_BadWord : mg "BadWord" = some (.ref C_BadWord)) (m_BadBody : mg "BadBody" = some (.ref C_BadBody)) (m_BadBook : mg "BadBook" = some (.ref C_BadBook)) (m_BadChanges : mg "BadChanges" = some (.ref C_BadChanges)) (m_BadCall : mg "BadCall" = some (.ref C_BadCall)) (m_BadText : mg "BadText" = some (.ref C_BadText)) (m_BadName : mg "BadName" = some (.ref C_BadName)) (m_Unknown : mg "Unknown" = some (.ref C_Unknown)) (m_Over : mg "Over" = some (.ref C_Over)) (m_Underway : mg "Underway" = some (.ref C_Underway)) (m_TooMany : mg "TooMany" = some (.ref C_TooMany)) :
    FnOkH P w K mg base 20 f fd ["_law_error"] (spKinds (K := K) [C_BadWord, C_BadBody, C_BadBook, C_BadChanges, C_BadCall, C_BadText, C_BadName, C_Unknown, C_Over, C_Underway, C_TooMany] se) := by
  refine okH F sc_law_kinds (fun vs H Q E h => ?_) (fun cdv A outer s H vs Q hr h => ?_)
  · obtain ⟨L, es, x, rfl, _⟩ := h; rfl
  · obtain ⟨ea, j, C, rfl, he, ek, q⟩ := h
    refine ⟨_, (pss_cons (ps_set (i := 1) sc_law_kinds.nd rfl (by first | exact Or.inl rfl | exact Or.inr rfl) (pe_lst (pa_cons (pe_callB (call_isiE eG) (by rfl) (b "isinstance" (by decide +kernel)) (by decide +kernel) (pa_cons (pv 0) (pa_cons (pe_glob (v := .ref C_BadWord) (by rfl) m_BadWord rfl) pa_nil))) (pa_cons (pe_callB (call_isiE eG) (by rfl) (b "isinstance" (by decide +kernel)) (by decide +kernel) (pa_cons (pv 0) (pa_cons (pe_glob (v := .ref C_BadBody) (by rfl) m_BadBody rfl) pa_nil))) (pa_cons (pe_callB (call_isiE eG) (by rfl) (b "isinstance" (by decide +kernel)) (by decide +kernel) (pa_cons (pv 0) (pa_cons (pe_glob (v := .ref C_BadBook) (by rfl) m_BadBook rfl) pa_nil))) pa_nil))))) (pss_cons (ps_set (i := 1) sc_law_kinds.nd rfl (by first | exact Or.inl rfl | exact Or.inr rfl) (pe_op op_cat (pv 1) (pe_lst (pa_cons (pe_callB (call_isiE eG) (by rfl) (b "isinstance" (by decide +kernel)) (by decide +kernel) (pa_cons (pv 0) (pa_cons (pe_glob (v := .ref C_BadChanges) (by rfl) m_BadChanges rfl) pa_nil))) (pa_cons (pe_callB (call_isiE eG) (by rfl) (b "isinstance" (by decide +kernel)) (by decide +kernel) (pa_cons (pv 0) (pa_cons (pe_glob (v := .ref C_BadCall) (by rfl) m_BadCall rfl) pa_nil))) (pa_cons (pe_callB (call_isiE eG) (by rfl) (b "isinstance" (by decide +kernel)) (by decide +kernel) (pa_cons (pv 0) (pa_cons (pe_glob (v := .ref C_BadText) (by rfl) m_BadText rfl) pa_nil))) pa_nil)))))) (pss_cons (ps_expr (pe_bm PySem.F.plainAttrs_list PySem.F.slot_list_append PySem.F.type_list_append mt_append (pv 1) (pa_cons (pe_callB (call_isiE eG) (by rfl) (b "isinstance" (by decide +kernel)) (by decide +kernel) (pa_cons (pv 0) (pa_cons (pe_glob (v := .ref C_BadName) (by rfl) m_BadName rfl) pa_nil))) pa_nil))) (pss_cons (ps_set (i := 1) sc_law_kinds.nd rfl (by first | exact Or.inl rfl | exact Or.inr rfl) (pe_op op_cat (pv 1) (pe_lst (pa_cons (pe_callB (call_isiE eG) (by rfl) (b "isinstance" (by decide +kernel)) (by decide +kernel) (pa_cons (pv 0) (pa_cons (pe_glob (v := .ref C_Unknown) (by rfl) m_Unknown rfl) pa_nil))) (pa_cons (pe_callB (call_isiE eG) (by rfl) (b "isinstance" (by decide +kernel)) (by decide +kernel) (pa_cons (pv 0) (pa_cons (pe_glob (v := .ref C_Over) (by rfl) m_Over rfl) pa_nil))) (pa_cons (pe_callB (call_isiE eG) (by rfl) (b "isinstance" (by decide +kernel)) (by decide +kernel) (pa_cons (pv 0) (pa_cons (pe_glob (v := .ref C_Underway) (by rfl) m_Underway rfl) pa_nil))) pa_nil)))))) (pss_one (ps_ret (pe_op op_cat (pv 1) (pe_lst (pa_cons (pe_callB (call_isiE eG) (by rfl) (b "isinstance" (by decide +kernel)) (by decide +kernel) (pa_cons (pv 0) (pa_cons (pe_glob (v := .ref C_TooMany) (by rfl) m_TooMany rfl) pa_nil))) (pa_cons (pe_callB (call_isiE eG) (by rfl) (b "isinstance" (by decide +kernel)) (by decide +kernel) (pa_cons (pv 0) (pa_cons (pe_bltn (v := .ty "ValueError") (by rfl) bval (by decide +kernel) rfl) pa_nil))) pa_nil)))))))))), ?_⟩
    have k := ek.kit
    refine ⟨_, rfl, ea, C, _, _, rfl, he, ek.err, .inl ⟨_, rfl, k 0 _ rfl⟩, ?_⟩
    refine ⟨_, rfl, ea, C, _, _, rfl, he, ek.err, .inl ⟨_, rfl, k 1 _ rfl⟩, ?_⟩
    refine ⟨_, rfl, ea, C, _, _, rfl, he, ek.err, .inl ⟨_, rfl, k 2 _ rfl⟩, ?_⟩
    refine ⟨by show 3 ≤ sizeLine; decide, fun l1 hl1 => ?_⟩
    have s1 := same_upd (o := .lst [.bl (decide (0 = j)), .bl (decide (1 = j)), .bl (decide (2 = j))]) hl1
    have e1 : upd H l1 (.lst [.bl (decide (0 = j)), .bl (decide (1 = j)), .bl (decide (2 = j))]) l1 = _ := upd_same
    generalize upd H l1 (.lst [.bl (decide (0 = j)), .bl (decide (1 = j)), .bl (decide (2 = j))]) = H1 at s1 e1 ⊢
    have he1 := s1 _ _ he
    refine ⟨_, rfl, ?_⟩
    refine ⟨_, rfl, ea, C, _, _, rfl, he1, ek.err, .inl ⟨_, rfl, k 3 _ rfl⟩, ?_⟩
    refine ⟨_, rfl, ea, C, _, _, rfl, he1, ek.err, .inl ⟨_, rfl, k 4 _ rfl⟩, ?_⟩
    refine ⟨_, rfl, ea, C, _, _, rfl, he1, ek.err, .inl ⟨_, rfl, k 5 _ rfl⟩, ?_⟩
    refine ⟨by show 3 ≤ sizeLine; decide, fun l2 hl2 => ?_⟩
    have s2 := s1.trans (same_upd (o := .lst [.bl (decide (3 = j)), .bl (decide (4 = j)), .bl (decide (5 = j))]) hl2)
    have e2 : upd H1 l2 (.lst [.bl (decide (3 = j)), .bl (decide (4 = j)), .bl (decide (5 = j))]) l2 = _ := upd_same
    have e12 := (same_upd (o := .lst [.bl (decide (3 = j)), .bl (decide (4 = j)), .bl (decide (5 = j))]) hl2) _ _ e1
    generalize upd H1 l2 (.lst [.bl (decide (3 = j)), .bl (decide (4 = j)), .bl (decide (5 = j))]) = H2 at s2 e2 e12 ⊢
    refine ⟨l1, l2, _, _, rfl, rfl, e12, e2, by show 6 ≤ sizeLine; decide, fun l3 hl3 => ?_⟩
    have s3 := s2.trans (same_upd (o := .lst ([.bl (decide (0 = j)), .bl (decide (1 = j)), .bl (decide (2 = j))] ++ [.bl (decide (3 = j)), .bl (decide (4 = j)), .bl (decide (5 = j))])) hl3)
    have e3 : upd H2 l3 (.lst ([.bl (decide (0 = j)), .bl (decide (1 = j)), .bl (decide (2 = j))] ++ [.bl (decide (3 = j)), .bl (decide (4 = j)), .bl (decide (5 = j))])) l3 = _ := upd_same
    have n3 : H l3 = none := by
      cases z : H l3 with
      | none => rfl
      | some o => rw [s2 _ _ z] at hl3; cases hl3
    generalize upd H2 l3 (.lst ([.bl (decide (0 = j)), .bl (decide (1 = j)), .bl (decide (2 = j))] ++ [.bl (decide (3 = j)), .bl (decide (4 = j)), .bl (decide (5 = j))])) = H3 at s3 e3 ⊢
    have he3 := s3 _ _ he
    refine ⟨_, rfl, .inl ⟨rfl, _, SqL.of e3⟩, ?_⟩
    refine ⟨_, rfl, ea, C, _, _, rfl, he3, ek.err, .inl ⟨_, rfl, k 6 _ rfl⟩, ?_⟩
    refine ⟨l3, _, _, rfl, rfl, e3, by show 6 < sizeLine; decide, ?_⟩
    have s4 : Same H (upd H3 l3 (.lst ([.bl (decide (0 = j)), .bl (decide (1 = j)), .bl (decide (2 = j))] ++ [.bl (decide (3 = j)), .bl (decide (4 = j)), .bl (decide (5 = j))] ++ [.bl (decide (6 = j))]))) := fun a o e => by rw [upd_ne (ne_of_none e n3)]; exact s3 _ _ e
    have e4 : upd H3 l3 (.lst ([.bl (decide (0 = j)), .bl (decide (1 = j)), .bl (decide (2 = j))] ++ [.bl (decide (3 = j)), .bl (decide (4 = j)), .bl (decide (5 = j))] ++ [.bl (decide (6 = j))])) l3 = _ := upd_same
    generalize upd H3 l3 (.lst ([.bl (decide (0 = j)), .bl (decide (1 = j)), .bl (decide (2 = j))] ++ [.bl (decide (3 = j)), .bl (decide (4 = j)), .bl (decide (5 = j))] ++ [.bl (decide (6 = j))])) = H4 at s4 e4 ⊢
    have he4 := s4 _ _ he
    refine ⟨_, rfl, ?_⟩
    refine ⟨_, rfl, ea, C, _, _, rfl, he4, ek.err, .inl ⟨_, rfl, k 7 _ rfl⟩, ?_⟩
    refine ⟨_, rfl, ea, C, _, _, rfl, he4, ek.err, .inl ⟨_, rfl, k 8 _ rfl⟩, ?_⟩
    refine ⟨_, rfl, ea, C, _, _, rfl, he4, ek.err, .inl ⟨_, rfl, k 9 _ rfl⟩, ?_⟩
    refine ⟨by show 3 ≤ sizeLine; decide, fun l5 hl5 => ?_⟩
    have s5 := s4.trans (same_upd (o := .lst [.bl (decide (7 = j)), .bl (decide (8 = j)), .bl (decide (9 = j))]) hl5)
    have e5 : upd H4 l5 (.lst [.bl (decide (7 = j)), .bl (decide (8 = j)), .bl (decide (9 = j))]) l5 = _ := upd_same
    have e45 := (same_upd (o := .lst [.bl (decide (7 = j)), .bl (decide (8 = j)), .bl (decide (9 = j))]) hl5) _ _ e4
    generalize upd H4 l5 (.lst [.bl (decide (7 = j)), .bl (decide (8 = j)), .bl (decide (9 = j))]) = H5 at s5 e5 e45 ⊢
    refine ⟨l3, l5, _, _, rfl, rfl, e45, e5, by show 10 ≤ sizeLine; decide, fun l6 hl6 => ?_⟩
    have s6 := s5.trans (same_upd (o := .lst ([.bl (decide (0 = j)), .bl (decide (1 = j)), .bl (decide (2 = j))] ++ [.bl (decide (3 = j)), .bl (decide (4 = j)), .bl (decide (5 = j))] ++ [.bl (decide (6 = j))] ++ [.bl (decide (7 = j)), .bl (decide (8 = j)), .bl (decide (9 = j))])) hl6)
    have e6 : upd H5 l6 (.lst ([.bl (decide (0 = j)), .bl (decide (1 = j)), .bl (decide (2 = j))] ++ [.bl (decide (3 = j)), .bl (decide (4 = j)), .bl (decide (5 = j))] ++ [.bl (decide (6 = j))] ++ [.bl (decide (7 = j)), .bl (decide (8 = j)), .bl (decide (9 = j))])) l6 = _ := upd_same
    generalize upd H5 l6 (.lst ([.bl (decide (0 = j)), .bl (decide (1 = j)), .bl (decide (2 = j))] ++ [.bl (decide (3 = j)), .bl (decide (4 = j)), .bl (decide (5 = j))] ++ [.bl (decide (6 = j))] ++ [.bl (decide (7 = j)), .bl (decide (8 = j)), .bl (decide (9 = j))])) = H6 at s6 e6 ⊢
    have he6 := s6 _ _ he
    refine ⟨_, rfl, ?_⟩
    refine ⟨_, rfl, ea, C, _, _, rfl, he6, ek.err, .inl ⟨_, rfl, k 10 _ rfl⟩, ?_⟩
    refine ⟨_, rfl, ea, C, _, _, rfl, he6, ek.err, .inr ⟨_, rfl, ek.val⟩, ?_⟩
    refine ⟨by show 2 ≤ sizeLine; decide, fun l7 hl7 => ?_⟩
    have s7 := same_upd (o := .lst [.bl (decide (10 = j)), .bl true]) hl7
    refine ⟨l6, l7, _, _, rfl, rfl, s7 _ _ e6, upd_same, by show 12 ≤ sizeLine; decide, fun l8 hl8 => ?_⟩
    exact q l8 _ ((s6.trans s7).trans (same_upd hl8)) upd_same
/-- a call that is refused, or tells something -/
def spTR (cs : List Addr) (se : Addr) (f : Addr) (spL : Sp) : Sp := fun vs H Q _ => ∃ v j C, vs = [.ref f, v] ∧ EKs K cs se j C ∧ (∀ (Q : VK) (E : XK), (∀ H', Same H H' → E (.ref C) none H') → spL [v] H Q E) ∧ ∀ l H', Same H H' → H' l = some (.lst (kindsV j)) → Q (.ref l) H'
theorem ok_told_refusal {cs : List Addr} {f se g : Addr} {fd : FuncData} {spL : Sp} (F : Fun K "_law_told_refusal" "_law_told_refusal" s_law_told_refusal g fd) (m_StrideError : mg "StrideError" = some (.ref se)) (L : LFn P w K mg base 80 f spL)
    (c_law_kinds : CalH P w K mg base "_law_kinds" 20 ["_law_error"] (spKinds (K := K) cs se)) : FnOk P w K mg base CX0 85 g fd ["_law_ask", "_law_thing"] (spTR (K := K) cs se f spL) := by
  refine F.ok sc_law_told_refusal (fun vs H Q E h => ?_) (fun cdv A outer s H vs Q E hr h => ?_)
  · obtain ⟨L, es, x, rfl, _⟩ := h; rfl
  · obtain ⟨v, j, C, rfl, ek, hL, q⟩ := h
    refine ⟨_, (pss_cons (ps_try (i := 2) rfl rfl sc_law_told_refusal.nd rfl rfl (by rfl) m_StrideError (fun pn xe Ec hpt => (pss_one (ps_expr (pe_callVK (P := P) (w := w) (K := K) (mg := mg) (base := base) (k := 80) rfl rfl rfl rfl rfl (i := 0) rfl (by first | exact Or.inl rfl | exact Or.inr (Or.inl rfl) | exact Or.inr (Or.inr rfl)) hpt (hr.mono (by decide)) (pa_cons (pv 1) pa_nil))))) (fun ea => (pss_one (ps_ret (pe_calH c_law_kinds (RoomH.of (hr.mono (by decide))).mark (by rfl) (pa_cons (pv 2) pa_nil)))))) (pss_one (ps_ret (pe_lst pa_nil)))), ?_⟩
    refine ⟨f, spL, rfl, L, ⟨v, _, _, hL (fun _ _ => True) (fun _ _ _ => True) fun _ _ => trivial⟩, _, rfl, v, rfl, ?_⟩
    refine hL _ _ fun H' s' => ⟨ek.exm, fun ea σ' hn hlen => ⟨_, List.getElem?_set_self (by rw [hlen]; show (2 : Nat) < 3; decide), ea, j, C, rfl, upd_same, ek, fun l H'' s'' hl => q l H'' ((s'.trans (same_upd hn)).trans s'') hl⟩⟩
/-- all things are refused by the j-th class -/
def spAR (cs : List Addr) (se : Addr) (f : Addr) (spL : Sp) : Sp := fun vs H Q _ => ∃ l us j C, vs = [.ref f, .ref l, .int (j : Nat)] ∧ H l = some (.lst us) ∧ us.length ≤ 1000 ∧ j < 11 ∧ EKs K cs se j C ∧ (∀ u ∈ us, ∀ H' (Q : VK) (E : XK), Same H H' → (∀ H'', Same H' H'' → E (.ref C) none H'') → spL [u] H' Q E) ∧ ∀ H', Same H H' → Q (.bl true) H'
theorem ok_all_refused {cs : List Addr} {f se g : Addr} {fd : FuncData} {spL : Sp} (F : Fun K "_law_all_refused" "_law_all_refused" s_law_all_refused g fd) (b : ∀ x ∈ blts, mg x = none)
    (c_law_told_refusal : Cal P w K mg base "_law_told_refusal" 85 ["_law_ask", "_law_thing"] (spTR (K := K) cs se f spL)) : FnOk P w K mg base CX0 90 g fd ["_law_ask", "_law_things", "_law_which"] (spAR (K := K) cs se f spL) := by
  refine F.ok sc_law_all_refused (fun vs H Q E h => ?_) (fun cdv A outer s H vs Q E hr h => ?_)
  · obtain ⟨L, es, x, y, rfl, _⟩ := h; rfl
  · obtain ⟨l, us, j, C, rfl, hl, lus, hj, ek, hus, q⟩ := h
    refine ⟨_, (pss_cons (ps_set (i := 3) sc_law_all_refused.nd rfl (by first | exact Or.inl rfl | exact Or.inr rfl) (pe_op op_cat (pe_lc (own := [("_law_at", 4)]) rfl sc_law_all_refused.nd (pi_range1 (by rfl) (b "range" (by decide +kernel)) (pa_cons pe_int pa_nil)) (blkOk_by (own := [("_law_at", 4)]) (N := N_law_all_refused) (sc := defScope s_law_all_refused) (by decide +kernel)) (fun _ _ _ _ _ => (pg_name (i := 4) sc_law_all_refused.nd rfl (by first | exact Or.inl rfl | exact Or.inr rfl))) (fun _ _ _ _ _ => pts_nil) (fun _ _ _ _ _ => (pe_cmpR op_eq (pv 4) (pv 2) (nomark _)))) (pe_lst (pa_cons pe_bl pa_nil)))) (pss_one (ps_ret (pe_callB (cr_all rfl) (by rfl) (b "all" (by decide +kernel)) (by decide +kernel) (pa_cons (pe_lc (own := [("_law_thing", 5)]) rfl sc_law_all_refused.nd (pi_list (pv 1)) (blkOk_by (own := [("_law_thing", 5)]) (N := N_law_all_refused) (sc := defScope s_law_all_refused) (by decide +kernel)) (fun _ _ _ _ _ => (pg_name (i := 5) sc_law_all_refused.nd rfl (by first | exact Or.inl rfl | exact Or.inr rfl))) (fun _ _ _ _ _ => pts_nil) (fun _ _ _ _ _ => (pe_cmpR (op_eqDK (K := K) rfl hr.units) (pe_cal c_law_told_refusal (hr.mono (by decide)) (by rfl) (pa_cons (pv 0) (pa_cons (pv 5) pa_nil))) (pv 3) (nomark _)))) pa_nil))))), ?_⟩
    have nl : ∀ {D : Addr}, H D = none → D ≠ l := fun h z => by rw [z, hl] at h; cases h
    dsimp only [tSeq, tAsg, gName, tOp]
    refine ⟨11, rfl, by decide, by decide, fun D hD => lc_range (fun i H' => H' = upd H D (.lst ((List.range i).map fun k => V.bl (decide (k = j))))) rfl (fun i H' hi e => ?_) (fun H' e => ?_)⟩
    · subst e
      refine ⟨rfl, ?_⟩
      dsimp only [tYes]
      refine iteT ⟨_, rfl, _, rfl, rfl, _, upd_same, ?_, ?_⟩
      · rw [List.length_map, List.length_range, sizeLine_eq]; have : i < 11 := hi; omega
      · rw [upd_upd, List.range_succ, List.map_append]
        have e : decide (V.int (0 + (i : Int)) = V.int (j : Nat)) = decide (i = j) := decide_eq_decide.mpr ⟨fun z => by injection z with z; omega, fun z => by rw [z, Int.zero_add]⟩
        rw [e]; rfl
    · subst e
      refine ⟨by decide, fun p hp => ?_⟩
      have s1 : Same H (upd H D (.lst ((List.range 11).map fun k => V.bl (decide (k = j))))) := same_upd hD
      refine ⟨D, p, _, _, rfl, rfl, (same_upd hp) _ _ upd_same, upd_same, by show 12 ≤ sizeLine; decide, fun Du hDu => ?_⟩
      have s2 : Same H (upd (upd (upd H D (.lst ((List.range 11).map fun k => V.bl (decide (k = j))))) p (.lst [.bl true])) Du (.lst (kindsV j))) := (supd (supd s1 hp) hDu)
      have e2 : upd (upd (upd H D (.lst ((List.range 11).map fun k => V.bl (decide (k = j))))) p (.lst [.bl true])) Du (.lst (kindsV j)) Du = _ := upd_same
      show tRet _ _ _ (upd (upd (upd H D (.lst ((List.range 11).map fun k => V.bl (decide (k = j))))) p (.lst [.bl true])) Du (.lst (kindsV j)))
      generalize upd (upd (upd H D (.lst ((List.range 11).map fun k => V.bl (decide (k = j))))) p (.lst [.bl true])) Du (.lst (kindsV j)) = H1 at s2 e2 ⊢
      dsimp only [tRet, tCB, tCons, tNil]
      refine ⟨_, rfl, l, rfl, ⟨_, SqL.of (s2 _ _ hl)⟩, lc_by (fun D i H' => Same H1 H' ∧ H' D = some (.lst ((List.replicate i true).map V.bl))) (fun D hD => ⟨same_upd hD, upd_same⟩) (fun D i H' _ h => SqL.of (h.1 _ _ (s2 _ _ hl))) (fun D i x H' hD hx h => ?_) (fun D H' hD h => ?_)⟩
      · obtain ⟨s3, hacc⟩ := h
        refine ⟨rfl, ?_⟩
        dsimp only [tYes]
        have hxm := List.mem_of_getElem? hx
        have hi : i < us.length := by rcases Nat.lt_or_ge i us.length with z | z; exact z; rw [List.getElem?_eq_none z] at hx; cases hx
        have hn : H1 D = none := hD
        refine iteT ⟨_, rfl, _, rfl, x, j, C, rfl, ek, (fun Q' E' k => hus x hxm H' Q' E' (s2.trans s3) k), fun lr H'' s4 hr2 => ?_⟩
        refine ⟨_, rfl, _, _, kinds_dp hr2, kinds_dp (s4 _ _ (s3 _ _ e2)), (kinds_flat j).shaped, (kinds_flat j).shaped, ?_⟩
        rw [(kinds_flat j).refl]
        refine ⟨_, s4 _ _ hacc, by rw [List.length_map, List.length_replicate, sizeLine_eq]; omega, fun b o e => ?_, ?_⟩
        · rw [upd_ne (ne_of_none e hn)]; exact s4 _ _ (s3 _ _ e)
        · rw [upd_same, List.replicate_succ', List.map_append]; rfl
      · obtain ⟨s3, hacc⟩ := h
        refine ⟨D, List.replicate us.length true, rfl, SqL.of hacc, ?_⟩
        rw [show (List.replicate us.length true).all id = true from List.all_eq_true.mpr fun z hz => by rw [(List.mem_replicate.mp hz).2]; rfl]
        exact q _ (s2.trans s3)
end
end MG

set_option Elab.async false
set_option linter.all false
set_option maxRecDepth 100000
set_option maxHeartbeats 1000000
set_option exponentiation.threshold 1100
namespace MG
open PySem PySem.Spec PyProof.Rows L2
/-- a statement's rule, not to be looked into -/
@[irreducible] def PSi (X : Cx) (st : Stmt) (t : TS) : Prop := PS X st t
theorem PSi.mk {X : Cx} {st : Stmt} {t : TS} (h : PS X st t) : PSi X st t := by unfold PSi; exact h
theorem PSi.out {X : Cx} {st : Stmt} {t : TS} (h : PSi X st t) : PS X st t := by unfold PSi at h; exact h
@[irreducible] def PSsi (X : Cx) (sts : List Stmt) (t : TS) : Prop := PSs X sts t
theorem PSsi.mk {X : Cx} {sts : List Stmt} {t : TS} (h : PSs X sts t) : PSsi X sts t := by unfold PSsi; exact h
theorem PSsi.out {X : Cx} {sts : List Stmt} {t : TS} (h : PSsi X sts t) : PSs X sts t := by unfold PSsi at h; exact h
theorem pss_consI {X : Cx} {st : Stmt} {rest : List Stmt} {t u : TS} (h : PSi X st t) (r : PSs X rest u) : PSsi X (st :: rest) (tSeq t u) := .mk (pss_cons h.out r)
theorem Fun.okI {P : Program} {w : World} {K : PySem.W.Frag} {mg : Str → Option Value} {base : Heap} {x qual : Str} {st : Stmt} {f : Addr} {fd : FuncData} {N ps : List Str} {k : Nat} {sp : Sp} (F : Fun K x qual st f fd) (S : FnScope N ps (defScope st)) (len : ∀ vs H Q E, sp vs H Q E → vs.length = ps.length)
    (hbody : ∀ (cdv : Value) (A : Around) (outer : List Env) (s : Shared) (H : Hp) (vs : List V) (Q : VK) (E : XK), Room k (A.deeper (envOfC qual (defScope st) s.heap.objs.size f cdv)) → sp vs H Q E →
      ∃ t, PSsi (cxOf CX0 P w K mg base N qual (defScope st) f cdv A outer s H E).nox (defBody st) t ∧ t { nx := fun _ H' => Q .non H', rt := Q } (start N vs) H) : FnOk P w K mg base CX0 (k + 1) f fd ps sp :=
  F.ok S len fun cdv A outer s H vs Q E hr hsp => let ⟨t, h1, h2⟩ := hbody cdv A outer s H vs Q E hr hsp; ⟨t, h1.out, h2⟩
/-! ### displays within displays, not to be looked into -/
@[irreducible] def PEi (X : Cx) (e : Expr) (t : TE) : Prop := PE X e t
theorem PEi.mk {X : Cx} {e : Expr} {t : TE} (h : PE X e t) : PEi X e t := by unfold PEi; exact h
theorem PEi.out {X : Cx} {e : Expr} {t : TE} (h : PEi X e t) : PE X e t := by unfold PEi at h; exact h
@[irreducible] def PAi (X : Cx) (es : List Expr) (t : TA) : Prop := PA X es t
theorem PAi.mk {X : Cx} {e : List Expr} {t : TA} (h : PA X e t) : PAi X e t := by unfold PAi; exact h
theorem PAi.out {X : Cx} {e : List Expr} {t : TA} (h : PAi X e t) : PA X e t := by unfold PAi at h; exact h
section
variable {X : Cx}
end
end MG

set_option Elab.async false
set_option linter.all false
set_option maxRecDepth 100000
set_option maxHeartbeats 1000000
namespace MG
open PySem PySem.Spec PyProof.Rows L2
section
variable {X : Cx}
theorem pss_oneI {st : Stmt} {t : TS} (h : PSi X st t) : PSsi X [st] t := .mk (pss_one h.out)
theorem pss_consII {st : Stmt} {rest : List Stmt} {t u : TS} (h : PSi X st t) (r : PSsi X rest u) : PSsi X (st :: rest) (tSeq t u) := .mk (pss_cons h.out r.out)
end
end MG

set_option Elab.async false
set_option linter.all false
set_option maxRecDepth 100000
namespace MG
open PySem PySem.Spec PyProof.Rows L2
/-- for over enumerate(a list) -/
theorem for_enumL {K : PySem.W.Frag} {a : Addr} {xs : List V} {g : TG} {tb : TS} {D : Ends} {σ : L2.St} {H : Hp} (Pv : Nat → L2.St → Hp → Prop) (h0 : Pv 0 σ H) (hl : ∀ i σ H, i ≤ xs.length → Pv i σ H → SqL K H a xs)
    (hs : ∀ i x σ H T, xs[i]? = some x → Pv i σ H → H T = none → g (.ref T) σ (upd H T (.tup [.int (i : Nat), x])) fun σ2 H2 => tb { D with nx := Pv (i + 1), ct := Pv (i + 1), bk := D.nx } σ2 H2) (hd : ∀ σ H, Pv xs.length σ H → D.nx σ H) :
    ∃ W : Nat → Nat → L2.St → Hp → Prop, (∃ m, W 0 m σ H) ∧ ∀ i m σ H, W i m σ H →
      ((Ite K a).stop i H ∧ D.nx σ H) ∨ ((Ite K a).go i H ∧ ∃ N : L2.St → Hp → Prop, (∀ σ' H', N σ' H' → ∃ m', m' < m ∧ W (i + 1) m' σ' H') ∧ ∀ x H', (Ite K a).yld i H x H' → g x σ H' fun σ2 H2 => tb { D with nx := N, ct := N, bk := D.nx } σ2 H2) := by
  refine ⟨fun i m σ H => m = xs.length - i ∧ i ≤ xs.length ∧ Pv i σ H, ⟨xs.length, by simp, Nat.zero_le _, h0⟩, ?_⟩
  rintro i m σ H ⟨rfl, hi, p⟩
  have q := hl i σ H hi p
  by_cases hlt : i < xs.length
  · refine .inr ⟨⟨xs, xs[i], q, by simp [hlt]⟩, Pv (i + 1), fun σ' H' p' => ⟨xs.length - (i + 1), by omega, rfl, hlt, p'⟩, fun x H' y => ?_⟩
    obtain ⟨T, x', rfl, hT, rfl, y⟩ := y
    exact hs i x' σ H T (y xs q) p hT
  · have e : i = xs.length := by omega
    subst e
    exact .inl ⟨⟨xs, q, Nat.le_refl _⟩, hd σ H p⟩
end MG

set_option Elab.async false
set_option linter.all false
set_option maxRecDepth 100000
set_option maxHeartbeats 1000000
namespace MG
open PySem PySem.Spec PyProof.Rows L2
theorem cutA_from (xs : List V) {n : Nat} (h : n ≤ xs.length) : cutV xs (some (n : Int)) none = xs.drop n := by
  have e : HT.sIx xs.length 0 (some (n : Int)) = n := by rw [HT.sIx_nat]; omega
  have e2 : HT.sIx xs.length xs.length none = xs.length := rfl
  unfold cutV
  rw [e, e2]
  exact List.take_of_length_le (by rw [List.length_drop]; omega)
theorem cutA_to (xs : List V) {n : Nat} (h : n ≤ xs.length) : cutV xs none (some (n : Int)) = xs.take n := by
  have e : HT.sIx xs.length xs.length (some (n : Int)) = n := by rw [HT.sIx_nat]; omega
  have e2 : HT.sIx xs.length 0 none = 0 := rfl
  unfold cutV
  rw [e, e2]
  rfl
theorem pairedA_drop {α β : Type} {F : α → β → Prop} : ∀ {l : List α} {m : List β} (n : Nat), Paired F l m → Paired F (l.drop n) (m.drop n)
  | _, _, 0, h => h
  | _, _, n + 1, .nil => .nil
  | _, _, n + 1, .cons _ t => pairedA_drop n t
theorem pairedA_take {α β : Type} {F : α → β → Prop} : ∀ {l : List α} {m : List β} (n : Nat), Paired F l m → Paired F (l.take n) (m.take n)
  | _, _, 0, h => .nil
  | _, _, n + 1, .nil => .nil
  | _, _, n + 1, .cons r t => .cons r (pairedA_take n t)
theorem ThsAt.updE {H : Hp} {l : Addr} {o : HO} {d0 : Th} (h0 : ThAt H (.ref l) d0) : ∀ {ds : List Th} {xs : List V}, (∀ d ∈ ds, d.sz < d0.sz) → ThsAt H xs ds → ThsAt (L2.upd H l o) xs ds
  | _, _, _, .nil => .nil
  | d :: ds, _, z, .cons r t => .cons (ThAt.upd h0 d (z d List.mem_cons_self) r) (ThsAt.updE h0 (fun c hc => z c (List.mem_cons_of_mem _ hc)) t)
/-! ### written things in statements: not to be looked into -/
/-- what a written thing's names must be -/
def NsOk (X : Cx) (ns : List (Str × Nat)) : Prop := ∀ p ∈ ns, X.N[p.2]? = some p.1 ∧ Vis X.env.scope p.1 ∧ (p.1 == ("__debug__" : Str)) = false ∧ (p.1 == ("__classdict__" : Str)) = false
section
variable {X : Cx} {n : Nat} {ns : List (Str × Nat)}
theorem NsOk.nil : NsOk X [] := fun p hp => nomatch hp
theorem NsOk.cons {x : Str} {i : Nat} (h : X.N[i]? = some x) (v : Vis X.env.scope x) (r : NsOk X ns) (d : (x == ("__debug__" : Str)) = false := by decide) (c : (x == ("__classdict__" : Str)) = false := by decide) : NsOk X ((x, i) :: ns) := fun p hp => by
  rcases List.mem_cons.mp hp with z | z
  · subst z; exact ⟨h, v, d, c⟩
  · exact r p z
theorem pei_litX {e : Expr} (n : Nat) (h : NsOk X ns) : PEi X e (tLitX n ns e) := .mk (pe_litX n ns h)
theorem ps_setX {i : Nat} {x : Str} {es : List Expr} {pos pos' p2 : Pos} (hN : X.N.Nodup) (hi : X.N[i]? = some x) (hx : Loc X.env.scope x) (h : NsOk X ns) (hf : X.fn x = true ∨ X.env.scope.names.lookup x = some .local) :
    PSi X (.Assign [.Name x pos'] (.List es p2) pos) (tAsg (tLitX n ns (.List es p2)) (gName i)) := .mk (ps_set hN hi hx (pe_litX n ns h) rfl hf)
theorem ps_setX2 {i : Nat} {x : Str} {a b : Expr} {op : Operator} {pos pos' p2 : Pos} (hN : X.N.Nodup) (hi : X.N[i]? = some x) (hx : Loc X.env.scope x) (h : NsOk X ns) (hf : X.fn x = true ∨ X.env.scope.names.lookup x = some .local) :
    PSi X (.Assign [.Name x pos'] (.BinOp a op b p2) pos) (tAsg (tLitX n ns (.BinOp a op b p2)) (gName i)) := .mk (ps_set hN hi hx (pe_litX n ns h) rfl hf)
theorem ps_retX {e : Expr} {pos : Pos} (h : NsOk X ns) : PSi X (.Return (some e) pos) (tRet (tLitX n ns e)) := .mk (ps_ret (pe_litX n ns h))
/-- x.append(a tuple) -/
theorem ps_appX {j : Nat} {x : Str} {es : List Expr} {k : Nat} {p p1 p2 p3 pos : Pos} (hi : X.N[j]? = some x) (hv : Vis X.env.scope x) (h : NsOk X ns) (hd : (x == ("__debug__" : Str)) = false := by decide) (hcd : (x == ("__classdict__" : Str)) = false := by decide) (hline : (p1.endLine == p2.line) = true := by rfl) :
    PSi X (.Expr (.Call (.Attribute (.Name x p) "append" p1) [.Tuple es k p3] [] p2) pos) (tDrop (tBM X.K "list" rAppend (tVar j) (tCons (tLitX n ns (.Tuple es k p3)) tNil))) :=
  .mk (ps_expr (pe_bm PySem.F.plainAttrs_list PySem.F.slot_list_append PySem.F.type_list_append mt_append (pe_var hi hv hd hcd) (pa_cons (pe_litX n ns h) pa_nil (star_tup ..)) rfl rfl hline (star_tup ..) rfl))
/-- x = y + e, e boxed -/
theorem ps_setCat {i : Nat} {x : Str} {a e : Expr} {ta te : TE} {pos pos' p2 : Pos} (hN : X.N.Nodup) (hi : X.N[i]? = some x) (hx : Loc X.env.scope x) (ha : PE X a ta) (he : PEi X e te) (hf : X.fn x = true ∨ X.env.scope.names.lookup x = some .local) :
    PSi X (.Assign [.Name x pos'] (.BinOp a .Add e p2) pos) (tAsg (tOp rCat ta te) (gName i)) := .mk (ps_set hN hi hx (pe_op op_cat ha he.out) rfl hf)
theorem ps_retCat {a e : Expr} {ta te : TE} {pos p2 : Pos} (ha : PE X a ta) (he : PEi X e te) : PSi X (.Return (some (.BinOp a .Add e p2)) pos) (tRet (tOp rCat ta te)) := .mk (ps_ret (pe_op op_cat ha he.out))
theorem ps_forI {tg iter : Expr} {body : List Stmt} {wi : TI} {g : TG} {tb : TS} {pos : Pos} (hp : PassesOwn (model X.prog X.w) X.A X.env X.xe) (hc : X.calm = true) (hi : PI X tg iter wi) (hg : PG X tg g) (hb : PSsi X body tb) (hs : ∀ x, foldedSetIterable iter X.env x = pure x := by intro _; rfl) : PSi X (.For tg iter body [] pos) (tFor wi g tb) := .mk (ps_for hp hc hi hg hb.out hs)
/-- [a written thing for .. in .. if ..] -/
theorem pei_lcX {elt tg iter : Expr} {ifs : List Expr} {scope : Scope} {own : List (Str × Nat)} {pos : Pos} {wi : TI} {g : TG} {tt : TT} (hc : X.calm = true) (hN : X.N.Nodup) (hi : PI X tg iter wi) (ok : BlkOk X.N X.env.scope scope own)
    (hg : ∀ (s : Shared) (H : Hp) (C : Addr) (cl : List (Str × Addr)) (fp : List Addr), PG (X.blk s H scope (compEnvC scope cl C X.env) fp) tg g) (ht : ∀ (s : Shared) (H : Hp) (C : Addr) (cl : List (Str × Addr)) (fp : List Addr), PTs (X.blk s H scope (compEnvC scope cl C X.env) fp) ifs tt)
    (he : ∀ (s : Shared) (H : Hp) (C : Addr) (cl : List (Str × Addr)) (fp : List Addr), NsOk (X.blk s H scope (compEnvC scope cl C X.env) fp) ns) (hs : ∀ x, foldedSetIterable iter X.env x = pure x := by intro _; rfl) :
    PEi X (.ListComp elt [⟨tg, iter, ifs, 0⟩] scope pos) (tLc wi g tt (tLitX n ns elt) (own.map (·.2))) := .mk (pe_lc hc hN hi ok hg ht (fun s H C cl fp => pe_litX n ns (he s H C cl fp)) hs)
end
end MG

set_option Elab.async false
set_option linter.all false
set_option maxRecDepth 100000
set_option maxHeartbeats 1000000
namespace MG
open PySem PySem.Spec PyProof.Rows L2
def badWords0 (far : Int) : List Th := [.non, .int 5, .bl true, .str "", .str "A", .str "a b", .str "a1", .str "abcdefghi", .str "-", .lst [.str "a"], .tup [.str "a"], .dct 0, .str (repS "a" (9 + far % 20)), .str "b\n"]
def badWords (far : Int) : List Th := badWords0 far ++ [.str " a", .str "a:"]
def badSteps0 (far : Int) : List Th := [.non, .str "say", .int 5, .bl true, .lst [.str "say"], .tup [], .tup [.str "say", .int 1], .tup [.str "shout"], .tup [.int 5], .tup [.non], .tup [.str "plus"], .tup [.str "plus", .non]]
def badSteps1 (far : Int) : List Th := badSteps0 far ++ [.tup [.str "plus", .str "1"], .tup [.str "plus", .bl true], .tup [.str "plus", .int 100], .tup [.str "plus", .int (-100)], .tup [.str "times", .int (100 + far)]]
def badSteps2 (far : Int) : List Th := badSteps1 far ++ [.tup [.str "turn", .int (-100 - far)]]
def badSteps3 (far : Int) : List Th := badSteps2 far ++ [.tup [.str "plus", .int 1, .int 1], .tup [.str "ask"], .tup [.str "ask", .int 5], .tup [.str "ask", .str "A"], .tup [.str "odd", .non], .tup [.str "odd", .str ""]]
def badSteps4 (far : Int) : List Th := badSteps3 far ++ [.tup [.str "odd", .str "abcdefghi"]]
def badSteps5 (far : Int) : List Th := badSteps4 far ++ [.tup [.str "hear", .str "a"], .tup [.str "end", .int 0], .tup [.str "Say"], .tup [.tup [.str "say"]], .tup [.str "turn", .lst [.int 1]], .tup [.str "ask", .tup [.str "a"]]]
def badSteps (far : Int) : List Th := badSteps5 far ++ [.tup [.str "", .str "a"], .dct 0]
section
variable {P : Program} {w : World} {K : PySem.W.Frag} {mg : Str → Option Value} {base : Heap}
def spBadL (g : Int → List Th) : Sp := fun vs H Q _ => ∃ far, vs = [.int far] ∧ 0 ≤ far ∧ far < 1000 ∧ ∀ l H', Same H H' → H l = none → ThAt H' (.ref l) (.lst (g far)) → Q (.ref l) H'
theorem ok_bad_words {f : Addr} {fd : FuncData} (F : Fun K "_law_bad_words" "_law_bad_words" s_law_bad_words f fd) : FnOk P w K mg base CX0 5 f fd ["_law_far"] (spBadL badWords) := by
  refine Fun.okI F sc_law_bad_words (fun vs H Q E h => ?_) (fun cdv A outer s H vs Q E hr h => ?_)
  · obtain ⟨far, rfl, _⟩ := h; rfl
  · obtain ⟨far, rfl, lo, hi, q⟩ := h
    refine ⟨_, (pss_consII (ps_setX (n := 16) (ns := [("_law_far", 0)]) (i := 1) sc_law_bad_words.nd rfl (by first | exact Or.inl rfl | exact Or.inr rfl) (NsOk.cons (x := "_law_far") (i := 0) rfl (by first | exact Or.inl rfl | exact Or.inr (Or.inl rfl) | exact Or.inr (Or.inr rfl)) NsOk.nil) (by first | exact .inl rfl | exact .inr rfl)) (pss_oneI (ps_retX (n := 16) (ns := [("_law_found", 1)]) (NsOk.cons (x := "_law_found") (i := 1) rfl (by first | exact Or.inl rfl | exact Or.inr (Or.inl rfl) | exact Or.inr (Or.inr rfl)) NsOk.nil)))), ?_⟩
    refine litH ⟨[.int far], .lst (badWords0 far), [9 + far % 20], by kernel_rfl, on1 rfl (.int _), (by intro i hi; rw [List.mem_singleton.mp hi]; omega), fun v H1 s1 t1 fr => ?_⟩
    refine litH ⟨[.lst (badWords0 far)], .lst (badWords far), [], by kernel_rfl, on1 rfl t1, (fun i hi => nomatch hi), fun v2 H2 s2 t2 fr2 => ?_⟩
    obtain ⟨l, xs, rfl, _, _⟩ := t2.lstOf
    exact q l H2 (s1.trans s2) (s1.free (fr2 rfl l rfl)) t2
theorem ok_bad_steps {f : Addr} {fd : FuncData} (F : Fun K "_law_bad_steps" "_law_bad_steps" s_law_bad_steps f fd) : FnOk P w K mg base CX0 5 f fd ["_law_far"] (spBadL badSteps) := by
  refine Fun.okI F sc_law_bad_steps (fun vs H Q E h => ?_) (fun cdv A outer s H vs Q E hr h => ?_)
  · obtain ⟨far, rfl, _⟩ := h; rfl
  · obtain ⟨far, rfl, lo, hi, q⟩ := h
    refine ⟨_, (pss_consII (ps_setX (n := 16) (ns := []) (i := 1) sc_law_bad_steps.nd rfl (by first | exact Or.inl rfl | exact Or.inr rfl) NsOk.nil (by first | exact .inl rfl | exact .inr rfl)) (pss_consII (ps_setX2 (n := 16) (ns := [("_law_found", 1), ("_law_far", 0)]) (i := 1) sc_law_bad_steps.nd rfl (by first | exact Or.inl rfl | exact Or.inr rfl) (NsOk.cons (x := "_law_found") (i := 1) rfl (by first | exact Or.inl rfl | exact Or.inr (Or.inl rfl) | exact Or.inr (Or.inr rfl)) (NsOk.cons (x := "_law_far") (i := 0) rfl (by first | exact Or.inl rfl | exact Or.inr (Or.inl rfl) | exact Or.inr (Or.inr rfl)) NsOk.nil)) (by first | exact .inl rfl | exact .inr rfl)) (pss_consII (ps_appX (n := 16) (ns := [("_law_far", 0)]) (j := 1) rfl (by first | exact Or.inl rfl | exact Or.inr (Or.inl rfl) | exact Or.inr (Or.inr rfl)) (NsOk.cons (x := "_law_far") (i := 0) rfl (by first | exact Or.inl rfl | exact Or.inr (Or.inl rfl) | exact Or.inr (Or.inr rfl)) NsOk.nil)) (pss_consII (ps_setX2 (n := 16) (ns := [("_law_found", 1)]) (i := 1) sc_law_bad_steps.nd rfl (by first | exact Or.inl rfl | exact Or.inr rfl) (NsOk.cons (x := "_law_found") (i := 1) rfl (by first | exact Or.inl rfl | exact Or.inr (Or.inl rfl) | exact Or.inr (Or.inr rfl)) NsOk.nil) (by first | exact .inl rfl | exact .inr rfl)) (pss_consII (ps_appX (n := 16) (ns := []) (j := 1) rfl (by first | exact Or.inl rfl | exact Or.inr (Or.inl rfl) | exact Or.inr (Or.inr rfl)) NsOk.nil) (pss_consII (ps_setX2 (n := 16) (ns := [("_law_found", 1)]) (i := 1) sc_law_bad_steps.nd rfl (by first | exact Or.inl rfl | exact Or.inr rfl) (NsOk.cons (x := "_law_found") (i := 1) rfl (by first | exact Or.inl rfl | exact Or.inr (Or.inl rfl) | exact Or.inr (Or.inr rfl)) NsOk.nil) (by first | exact .inl rfl | exact .inr rfl)) (pss_oneI (ps_retX (n := 16) (ns := [("_law_found", 1)]) (NsOk.cons (x := "_law_found") (i := 1) rfl (by first | exact Or.inl rfl | exact Or.inr (Or.inl rfl) | exact Or.inr (Or.inr rfl)) NsOk.nil))))))))), ?_⟩
    refine litH ⟨[], .lst (badSteps0 far), [], by kernel_rfl, on0, (fun i hi => nomatch hi), fun v H1 s1 t1 fr => ?_⟩
    refine litH ⟨[.lst (badSteps0 far), .int far], .lst (badSteps1 far), [], by kernel_rfl, on2 rfl t1 rfl (.int _), (fun i hi => nomatch hi), fun v2 H2 s2 t2 fr2 => ?_⟩
    obtain ⟨l, xs, rfl, hl, hxs⟩ := id t2.lstOf
    have nl : H l = none := s1.free (fr2 rfl l rfl)
    refine ⟨_, rfl, .inl ⟨rfl, _, SqL.of hl⟩, ?_⟩
    refine litH ⟨[.int far], .tup [.str "turn", .int (-100 - far)], [], by kernel_rfl, on1 rfl (.int _), (fun i hi => nomatch hi), fun v3 H3 s3 t3 _ => ?_⟩
    refine ⟨l, _, _, rfl, rfl, s3 _ _ hl, by rw [hxs.length]; show 17 < sizeLine; decide, ?_⟩
    have t4 : ThAt (upd H3 l (.lst (xs ++ [v3]))) (.ref l) (.lst (badSteps2 far)) := (t2.same s3).push (s3 _ _ hl) t3 (by show 3 < _; simp only [Th.sz]; have := szs_len (badSteps1 far); have : (badSteps1 far).length = 17 := rfl; omega)
    have s4 : Same H (upd H3 l (.lst (xs ++ [v3]))) := fun b o e => by rw [upd_ne (ne_of_none e nl)]; exact s3 _ _ (s2 _ _ (s1 _ _ e))
    generalize upd H3 l (.lst (xs ++ [v3])) = H4 at t4 s4 ⊢
    refine litH ⟨[.lst (badSteps2 far)], .lst (badSteps3 far), [], by kernel_rfl, on1 rfl t4, (fun i hi => nomatch hi), fun v5 H5 s5 t5 fr5 => ?_⟩
    obtain ⟨l5, xs5, rfl, hl5, hxs5⟩ := id t5.lstOf
    have nl5 : H l5 = none := s4.free (fr5 rfl l5 rfl)
    refine ⟨_, rfl, .inl ⟨rfl, _, SqL.of hl5⟩, ?_⟩
    refine litH ⟨[], .tup [.str "odd", .str "abcdefghi"], [], by kernel_rfl, on0, (fun i hi => nomatch hi), fun v6 H6 s6 t6 _ => ?_⟩
    refine ⟨l5, _, _, rfl, rfl, s6 _ _ hl5, by rw [hxs5.length]; show 24 < sizeLine; decide, ?_⟩
    have t7 : ThAt (upd H6 l5 (.lst (xs5 ++ [v6]))) (.ref l5) (.lst (badSteps4 far)) := (t5.same s6).push (s6 _ _ hl5) t6 (by show 3 < _; simp only [Th.sz]; have := szs_len (badSteps3 far); have : (badSteps3 far).length = 24 := rfl; omega)
    have s7 : Same H (upd H6 l5 (.lst (xs5 ++ [v6]))) := fun b o e => by rw [upd_ne (ne_of_none e nl5)]; exact s6 _ _ (s5 _ _ (s4 _ _ e))
    generalize upd H6 l5 (.lst (xs5 ++ [v6])) = H7 at t7 s7 ⊢
    refine litH ⟨[.lst (badSteps4 far)], .lst (badSteps5 far), [], by kernel_rfl, on1 rfl t7, (fun i hi => nomatch hi), fun v8 H8 s8 t8 fr8 => ?_⟩
    refine litH ⟨[.lst (badSteps5 far)], .lst (badSteps far), [], by kernel_rfl, on1 rfl t8, (fun i hi => nomatch hi), fun v9 H9 s9 t9 fr9 => ?_⟩
    obtain ⟨l9, xs9, rfl, _, _⟩ := t9.lstOf
    exact q l9 H9 ((s7.trans s8).trans s9) ((s7.trans s8).free (fr9 rfl l9 rfl)) t9
theorem small_steps (far : Int) : ∀ d ∈ badSteps far, d.sz ≤ 4 := by
  intro d hd
  simp only [badSteps, badSteps5, badSteps4, badSteps3, badSteps2, badSteps1, badSteps0, List.append_assoc, List.cons_append, List.nil_append, List.mem_cons, List.not_mem_nil, or_false] at hd
  rcases hd with rfl | rfl | rfl | rfl | rfl | rfl | rfl | rfl | rfl | rfl | rfl | rfl | rfl | rfl | rfl | rfl | rfl | rfl | rfl | rfl | rfl | rfl | rfl | rfl | rfl | rfl | rfl | rfl | rfl | rfl | rfl | rfl | rfl <;> simp only [Th.sz, Th.szs] <;> decide
def badBodies0 (far : Int) : List Th := [.non, .int 5, .str "say", .tup [], .tup [.tup [.str "say"]], .dct 0, .lst (List.replicate 10 [Th.tup [.str "say"]]).flatten, .lst (List.replicate (10 + far % 9).toNat [Th.tup [.str "say"]]).flatten]
def goodSteps : List Th := [.tup [.str "say"], .tup [.str "plus", .int 99], .tup [.str "odd", .str "abcdefgh"], .tup [.str "turn", .int (-99)], .tup [.str "end"]]
def badAmong (k : Nat) (d : Th) : Th := .lst (goodSteps.take (k % 6) ++ [d] ++ goodSteps.drop (k % 6))
def badBodies (far : Int) : List Th := badBodies0 far ++ (badSteps far).zipIdx.map fun p => badAmong p.2 p.1
theorem ok_bad_bodies {f : Addr} {fd : FuncData} (F : Fun K "_law_bad_bodies" "_law_bad_bodies" s_law_bad_bodies f fd) (b : ∀ x ∈ blts, mg x = none) (c_law_bad_steps : Cal P w K mg base "_law_bad_steps" 5 ["_law_far"] (spBadL badSteps)) : FnOk P w K mg base CX0 10 f fd ["_law_far"] (spBadL badBodies) := by
  refine Fun.okI F sc_law_bad_bodies (fun vs H Q E h => ?_) (fun cdv A outer s H vs Q E hr h => ?_)
  · obtain ⟨far, rfl, _⟩ := h; rfl
  · obtain ⟨far, rfl, lo, hi, q⟩ := h
    refine ⟨_, (pss_consII (ps_setX (n := 16) (ns := [("_law_far", 0)]) (i := 1) sc_law_bad_bodies.nd rfl (by first | exact Or.inl rfl | exact Or.inr rfl) (NsOk.cons (x := "_law_far") (i := 0) rfl (by first | exact Or.inl rfl | exact Or.inr (Or.inl rfl) | exact Or.inr (Or.inr rfl)) NsOk.nil) (by first | exact .inl rfl | exact .inr rfl)) (pss_consI (ps_forI PassesOwn.never rfl (pi_enum (by rfl) (b "enumerate" (by decide +kernel)) (pa_cons (pe_cal c_law_bad_steps (hr.mono (by decide)) (by rfl) (pa_cons (pv 0) pa_nil)) pa_nil)) (pg_tup (by rfl) (pgs_cons (pg_name (i := 2) sc_law_bad_bodies.nd rfl (by first | exact Or.inl rfl | exact Or.inr rfl)) (pgs_cons (pg_name (i := 3) sc_law_bad_bodies.nd rfl (by first | exact Or.inl rfl | exact Or.inr rfl)) pgs_nil))) (pss_consI (ps_setX (n := 16) (ns := []) (i := 4) sc_law_bad_bodies.nd rfl (by first | exact Or.inl rfl | exact Or.inr rfl) NsOk.nil (by first | exact .inl rfl | exact .inr rfl)) (pss_one (ps_expr (pe_bm PySem.F.plainAttrs_list PySem.F.slot_list_append PySem.F.type_list_append mt_append (pv 1) (pa_cons (pe_op op_cat (pe_op op_cat (pe_slice sl_list (pv 4) po_none (po_some (pe_op op_mod (pv 2) pe_int))) (pe_lst (pa_cons (pv 3) pa_nil))) (pe_slice sl_list (pv 4) (po_some (pe_op op_mod (pv 2) pe_int)) po_none)) pa_nil)))))) (pss_one (ps_ret (pv 1))))), ?_⟩
    refine litH ⟨[.int far], .lst (badBodies0 far), [10, 10 + far % 9], by kernel_rfl, on1 rfl (.int _), (by intro i hi; simp only [List.mem_cons, List.not_mem_nil, or_false] at hi; rcases hi with rfl | rfl <;> omega), fun v H1 s1 t1 fr => ?_⟩
    obtain ⟨l1, xs1, rfl, hl1, hx1⟩ := id t1.lstOf
    have nl1 : H l1 = none := fr rfl l1 rfl
    dsimp only [gName, tSeq]
    refine ⟨_, rfl, far, rfl, lo, hi, fun ls H2 s2 nls t2 => ?_⟩
    obtain ⟨_, xsS, e2, hls, hxS⟩ := id t2.lstOf
    cases e2
    have nls1 : ls ≠ l1 := fun z => by rw [z, hl1] at nls; cases nls
    refine ⟨ls, xsS, rfl, SqL.of hls, for_enumL (fun i σ Hc => (∃ o2 o3 o4, σ = [some (.int far), some (.ref l1), o2, o3, o4]) ∧ Same H Hc ∧ Hc ls = some (.lst xsS) ∧ ThsAt Hc xsS (badSteps far) ∧ ThAt Hc (.ref l1) (.lst (badBodies0 far ++ ((badSteps far).take i).zipIdx.map fun p => badAmong p.2 p.1))) ⟨⟨_, _, _, rfl⟩, s1.trans s2, hls, hxS, ?_⟩ (fun i σ Hc _ h => SqL.of h.2.2.1) ?_ ?_⟩
    · rw [List.take_zero]
      simpa using t1.same s2
    · rintro i x σ Hc T hx ⟨⟨o2, o3, o4, rfl⟩, sc, hlsc, hxc, hlc⟩ hT
      obtain ⟨dx, hdx, htx⟩ := ths_at hxc hx
      have sT := same_upd (o := .tup [.int (i : Nat), x]) hT
      refine ⟨T, _, rfl, SqT.of upd_same, rfl, _, _, rfl, _, _, rfl, rfl, ?_⟩
      generalize upd Hc T (.tup [.int (i : Nat), x]) = HT at sT ⊢
      dsimp only [tSeq, tAsg, gName]
      refine litH ⟨[], .lst goodSteps, [], by kernel_rfl, on0, (fun i hi => nomatch hi), fun vg H3 s3 t3 _ => ?_⟩
      obtain ⟨lg, vg, rfl, hlg, hxg⟩ := id t3.lstOf
      have sc3 := sT.trans s3
      have htx3 : ThAt H3 x dx := htx.same sc3
      have hlc3 := hlc.same sc3
      have hls3 := sc3 _ _ hlsc
      have hxc3 := ThsAt.same sc3 _ hxc
      have sH3 : Same H H3 := sc.trans sc3
      obtain ⟨_, xl, el, hxl, hthl⟩ := id hlc3.lstOf
      cases el
      have lenl : xl.length ≤ 100 := by
        rw [hthl.length, List.length_append, List.length_map, List.length_zipIdx, List.length_take]
        have e1 : (badBodies0 far).length = 8 := rfl
        have e2 : (badSteps far).length = 33 := rfl
        omega
      have leng : vg.length = 5 := hxg.length
      have e6 : ((i : Nat) : Int) % 6 = ((i % 6 : Nat) : Int) := by omega
      have lt6 : i % 6 ≤ vg.length := by omega
      dsimp only [tDrop]
      refine ⟨_, rfl, .inl ⟨rfl, _, SqL.of hxl⟩, ?_⟩
      refine ⟨_, rfl, _, rfl, _, _, rfl, rfl, (by show (0 : Int) < 6; decide), _, rfl, lg, vg, rfl, SqL.of hlg, fun p1 hp1 => ?_⟩
      rw [e6, cutA_to vg lt6]
      have s4 := same_upd (o := .lst (vg.take (i % 6))) hp1
      have hp1s : upd H3 p1 (.lst (vg.take (i % 6))) p1 = _ := upd_same
      generalize upd H3 p1 (.lst (vg.take (i % 6))) = H4 at s4 hp1s ⊢
      refine ⟨_, rfl, (by show 1 ≤ sizeLine; decide), fun p2 hp2 => ?_⟩
      have s5 := same_upd (o := .lst [x]) hp2
      have hp2s : upd H4 p2 (.lst [x]) p2 = _ := upd_same
      generalize upd H4 p2 (.lst [x]) = H5 at s5 hp2s ⊢
      refine ⟨p1, p2, _, _, rfl, rfl, s5 _ _ hp1s, hp2s, (by rw [List.length_take, sizeLine_eq]; show _ + 1 ≤ _; omega), fun p3 hp3 => ?_⟩
      have s6 := same_upd (o := .lst (vg.take (i % 6) ++ [x])) hp3
      have hp3s : upd H5 p3 (.lst (vg.take (i % 6) ++ [x])) p3 = _ := upd_same
      generalize upd H5 p3 (.lst (vg.take (i % 6) ++ [x])) = H6 at s6 hp3s ⊢
      have s36 := (s4.trans s5).trans s6
      refine ⟨_, rfl, _, rfl, _, _, rfl, rfl, (by show (0 : Int) < 6; decide), _, rfl, lg, vg, rfl, SqL.of (s36 _ _ hlg), fun p4 hp4 => ?_⟩
      rw [e6, cutA_from vg lt6]
      have s7 := same_upd (o := .lst (vg.drop (i % 6))) hp4
      have hp4s : upd H6 p4 (.lst (vg.drop (i % 6))) p4 = _ := upd_same
      generalize upd H6 p4 (.lst (vg.drop (i % 6))) = H7 at s7 hp4s ⊢
      refine ⟨p3, p4, _, _, rfl, rfl, s7 _ _ hp3s, hp4s, (by rw [List.length_append, List.length_take, List.length_drop, sizeLine_eq]; show _ + 1 + _ ≤ _; omega), fun p5 hp5 => ?_⟩
      have s8 := same_upd (o := .lst (vg.take (i % 6) ++ [x] ++ vg.drop (i % 6))) hp5
      have hp5s : upd H7 p5 (.lst (vg.take (i % 6) ++ [x] ++ vg.drop (i % 6))) p5 = _ := upd_same
      generalize upd H7 p5 (.lst (vg.take (i % 6) ++ [x] ++ vg.drop (i % 6))) = H8 at s8 hp5s ⊢
      have s38 := (s36.trans s7).trans s8
      have t5 : ThAt H8 (.ref p5) (badAmong i dx) := by
        have g := ThsAt.same s38 _ hxg
        refine .lst hp5s (pairedApp (pairedApp (pairedA_take _ g) (.cons (htx3.same s38) .nil)) (pairedA_drop _ g))
      refine ⟨l1, _, _, rfl, rfl, s38 _ _ hxl, (by rw [sizeLine_eq]; omega), ?_⟩
      have dsz := small_steps far dx (List.mem_of_getElem? hdx)
      have push := (hlc3.same s38).push (s38 _ _ hxl) t5 (by
        simp only [badAmong, Th.sz, szs_app, Th.szs]
        have e1 : Th.szs (goodSteps.take (i % 6)) + Th.szs (goodSteps.drop (i % 6)) = 13 := by rw [← szs_app, List.take_append_drop]; simp only [goodSteps, Th.sz, Th.szs]
        have e2 : 29 ≤ Th.szs (badBodies0 far) := by
          simp only [badBodies0, Th.sz, Th.szs]
          have : (List.replicate 10 [Th.tup [.str "say"]]).flatten = List.replicate 10 (Th.tup [.str "say"]) := rfl
          rw [this]
          simp only [List.replicate, Th.sz, Th.szs]
          omega
        omega)
      refine ⟨⟨_, _, _, rfl⟩, fun b o e => ?_, ?_, ?_, ?_⟩
      · rw [upd_ne (ne_of_none e nl1)]; exact s38 _ _ (sH3 _ _ e)
      · rw [upd_ne nls1]; exact s38 _ _ hls3
      · refine ThsAt.updE (hlc3.same s38) (fun c hc => ?_) (ThsAt.same s38 _ hxc3)
        have z1 := small_steps far c hc
        have z2 := szs_len (badBodies0 far)
        have z3 : (badBodies0 far).length = 8 := rfl
        simp only [Th.sz, szs_app]
        omega
      · have tk : (badSteps far).take (i + 1) = (badSteps far).take i ++ [dx] := by rw [List.take_succ, hdx]; rfl
        rw [tk, List.zipIdx_append, List.map_append, ← List.append_assoc]
        have hi' : ((badSteps far).take i).length = i := by
          rw [List.length_take]
          have := (List.getElem?_eq_some_iff.mp hdx).1
          omega
        rw [hi']
        simpa using push
    · rintro σ Hc ⟨⟨o2, o3, o4, rfl⟩, sc, _, _, hlc⟩
      refine ⟨_, rfl, q l1 Hc sc nl1 ?_⟩
      rw [hxS.length, List.take_length] at hlc
      exact hlc
end
end MG

set_option Elab.async false
set_option linter.all false
set_option maxRecDepth 100000
set_option maxHeartbeats 1000000
namespace MG
open PySem PySem.Spec PyProof.Rows L2
/-! ### a comprehension of written things -/
def wo1 (H : Hp) (D : Addr) : Hp := fun b => if b = D then none else H b
theorem wo1_ne {H : Hp} {D b : Addr} (h : b ≠ D) : wo1 H D b = H b := if_neg h
theorem wo1_at {H : Hp} {D : Addr} : wo1 H D D = none := if_pos rfl
theorem wo1_sub {H : Hp} {D : Addr} : Same (wo1 H D) H := fun b o e => by
  by_cases z : b = D
  · rw [z, wo1_at] at e; cases e
  · rw [wo1_ne z] at e; exact e
theorem wo1_same {H H' : Hp} {D : Addr} (s : Same H H') : Same (wo1 H D) (wo1 H' D) := fun b o e => by
  by_cases z : b = D
  · rw [z, wo1_at] at e; cases e
  · rw [wo1_ne z] at e ⊢; exact s _ _ e
theorem wo1_of {H H' : Hp} {D : Addr} (s : Same H H') (n : H D = none) : Same H (wo1 H' D) := fun b o e => by rw [wo1_ne (ne_of_none e n)]; exact s _ _ e
theorem wo1_upd {H : Hp} {D : Addr} {o : HO} : wo1 (upd H D o) D = wo1 H D := by
  funext b
  by_cases z : b = D
  · rw [z, wo1_at, wo1_at]
  · rw [wo1_ne z, wo1_ne z, upd_ne z]
theorem lc_lit {K : PySem.W.Frag} {L : Addr} {us : List V} {ds : List Th} {vs : List Nat} {σ : L2.St} {H1 : Hp} {Qd : Addr → Hp → Prop} {n : Nat} {x : Str} {i : Nat} {elt : Expr} {tt : TT} (f : Th → Th) (keep : Th → Bool)
    (hl : H1 L = some (.lst us)) (hu : ThsAt H1 us ds) (few : us.length ≤ 1000)
    (hw : ∀ v, wipe ((wipe σ vs).set i (some v)) vs = wipe σ vs) (hg : ∀ v : V, ((wipe σ vs).set i (some v))[i]? = some (some v))
    (hlit : ∀ d ∈ ds, keep d = true → lit n (mkRho [(x, i)] [d]) elt = some (f d, []))
    (htt : ∀ (v : V) (d : Th) (H2 : Hp) (R : Bool → Hp → Prop), ThAt H2 v d → R (keep d) H2 → tt ((wipe σ vs).set i (some v)) H2 R)
    (hq : ∀ D H', Same H1 H' → H1 D = none → ThAt H' (.ref D) (.lst ((ds.filter keep).map f)) → Qd D H') :
    ∀ D, H1 D = none → ∃ W : Nat → Nat → Hp → Prop, (∃ m, W 0 m (upd H1 D (.lst []))) ∧ ∀ i' m H, W i' m H →
      ((Itl K L).stop i' H ∧ Qd D H) ∨ ((Itl K L).go i' H ∧ ∃ Nx : Hp → Prop, (∀ H', Nx H' → ∃ m', m' < m ∧ W (i' + 1) m' H') ∧ ∀ x' H', (Itl K L).yld i' H x' H' → gName i x' (wipe σ vs) H' fun σ2 H2 => wipe σ2 vs = wipe σ vs ∧ tt σ2 H2 fun b H3 =>
        if b = true then tLitX n [(x, i)] elt σ2 H3 fun y H4 => ∃ acc, H4 D = some (.lst acc) ∧ acc.length < sizeLine ∧ Nx (upd H4 D (.lst (acc ++ [y]))) else Nx H3) := by
  refine lc_by (Qd := Qd) (fun D j H' => Same H1 H' ∧ ∃ acc, H' D = some (.lst acc) ∧ ThsAt (wo1 H' D) acc (((ds.take j).filter keep).map f) ∧ acc.length ≤ j) (fun D hD => ⟨same_upd hD, [], upd_same, .nil, Nat.le_refl _⟩) (fun D j H' _ h => SqL.of (h.1 _ _ hl)) (fun D j v H' hD hx h => ?_) (fun D H' hD h => ?_)
  · obtain ⟨s1, acc, ha, hacc, lacc⟩ := h
    obtain ⟨d, hd, hv⟩ := ths_at hu hx
    have hi : j < us.length := by rcases Nat.lt_or_ge j us.length with z | z; exact z; rw [List.getElem?_eq_none z] at hx; cases hx
    have tk : ds.take (j + 1) = ds.take j ++ [d] := by rw [List.take_succ, hd]; rfl
    refine ⟨hw v, htt v d H' _ (hv.same s1) ?_⟩
    cases kd : keep d with
    | true =>
      refine iteT ⟨[d], f d, [], hlit d (List.mem_of_getElem? hd) kd, wo1 H' D, wo1_sub, on1 (hg v) (hv.same (wo1_of s1 hD)), (fun i hi => nomatch hi), fun y H4 G4 gr t4 _ => ⟨acc, gr.sH _ _ ha, by rw [sizeLine_eq]; omega, ?_, acc ++ [y], upd_same, ?_, ?_⟩⟩
      · exact fun b o e => by rw [upd_ne (ne_of_none e hD)]; exact gr.sH _ _ (s1 _ _ e)
      · rw [wo1_upd, tk, List.filter_append, List.map_append]
        have e1 : List.filter keep [d] = [d] := by simp [kd]
        rw [e1]
        refine pairedApp (ThsAt.same (wo1_same gr.sH) _ hacc) (.cons (ThAt.same (fun b o e => ?_) _ t4) .nil)
        have nb : b ≠ D := fun z => by
          rw [z, gr.new D (by rw [ha]; exact fun z => nomatch z) wo1_at] at e; cases e
        rw [wo1_ne nb]; exact gr.sub _ _ e
      · rw [List.length_append, List.length_singleton]; omega
    | false =>
      refine iteF ⟨s1, acc, ha, ?_, by omega⟩
      rw [tk, List.filter_append, List.map_append]
      have e1 : List.filter keep [d] = [] := by simp [kd]
      rw [e1]
      simpa using hacc
  · obtain ⟨s1, acc, ha, hacc, lacc⟩ := h
    rw [hu.length, List.take_length] at hacc
    exact hq D H' s1 hD (.lst ha (ThsAt.same wo1_sub _ hacc))
end MG

set_option Elab.async false
set_option linter.all false
set_option maxRecDepth 100000
set_option maxHeartbeats 1000000
namespace MG
open PySem PySem.Spec PyProof.Rows L2
def notNon (d : Th) : Bool := !isNon d
theorem notNon_of {H : Hp} {v : V} {d : Th} (h : ThAt H v d) : (!decide (v = V.non)) = notNon d := by
  cases h with
  | non => rfl
  | _ => rw [decide_eq_false (by intro z; cases z)]; rfl
def badBooks0 : List Th := [.non, .int 5, .str "a:", .tup [], .tup [.tup [.str "a", .lst []]], .dct 0, .dct 1, .lst [.non], .lst [.str "a"], .lst [.tup [.str "a"]], .lst [.tup [.str "a", .lst [], .lst []]], .lst [.lst [.str "a", .lst []]]]
def badBooks1 : List Th := badBooks0 ++ [.lst [.tup [.str "a", .non]], .lst [.tup [.str "a", .lst []], .tup [.str "a", .lst []]], .lst [.tup [.str "b", .lst []], .tup [.str "a", .lst []]], .lst [.tup [.str "a", .lst []], .tup [.str "c", .lst []], .tup [.str "b", .lst []]]]
def bookW (d : Th) : Th := .lst [.tup [.str "a", .lst []], .tup [d, .lst []], .tup [.str "zz", .lst []]]
def bookB2 (d : Th) : Th := .lst [.tup [.str "a", .lst []], .tup [.str "b", d]]
def badBooks (far : Int) : List Th := badBooks1 ++ ((badWords far).filter fun _ => true).map bookW ++ ((badBodies far).filter notNon).map bookB2
theorem words_bad {far : Int} (lo : 0 ≤ far) : ∀ d ∈ badWords far, wordB d = false := by
  intro d hd
  simp only [badWords, badWords0, List.append_assoc, List.cons_append, List.nil_append, List.mem_cons, List.not_mem_nil, or_false] at hd
  rcases hd with rfl | rfl | rfl | rfl | rfl | rfl | rfl | rfl | rfl | rfl | rfl | rfl | rfl | rfl | rfl | rfl
  all_goals first
    | decide +kernel
    | (show lowB _ = false
       unfold lowB
       have h1 : 0 ≤ far % 20 := Int.emod_nonneg _ (by decide)
       have : (repS "a" (9 + far % 20)).length = (9 + far % 20).toNat * 1 := repS_len _ _ (by omega)
       rw [decide_eq_false (show ¬ (repS "a" (9 + far % 20)).length ≤ 8 by omega)]; simp)
theorem stepB_two (n : Str) (p : Th) : stepB (.tup [.str n, p]) = if inV (.str n) numA = true then rngB p else inV (.str n) wrdA && wordB p := rfl
theorem steps_bad {far : Int} (lo : 0 ≤ far) : ∀ d ∈ badSteps far, stepB d = false := by
  intro d hd
  simp only [badSteps, badSteps5, badSteps4, badSteps3, badSteps2, badSteps1, badSteps0, List.append_assoc, List.cons_append, List.nil_append, List.mem_cons, List.not_mem_nil, or_false] at hd
  rcases hd with rfl | rfl | rfl | rfl | rfl | rfl | rfl | rfl | rfl | rfl | rfl | rfl | rfl | rfl | rfl | rfl | rfl | rfl | rfl | rfl | rfl | rfl | rfl | rfl | rfl | rfl | rfl | rfl | rfl | rfl | rfl | rfl | rfl
  all_goals first
    | decide +kernel
    | (rw [stepB_two, if_pos (by decide +kernel)]
       show (decide (-99 ≤ _) && decide (_ ≤ (99 : Int))) = false
       first
       | rw [decide_eq_false (show ¬ (100 + far ≤ (99 : Int)) by omega), Bool.and_false]
       | rw [decide_eq_false (show ¬ ((-99 : Int) ≤ -100 - far) by omega), Bool.false_and])
theorem bodies_bad {far : Int} (lo : 0 ≤ far) : ∀ d ∈ badBodies far, notNon d = true → bodyB d = false := by
  intro d hd nn
  unfold badBodies at hd
  rcases List.mem_append.mp hd with h | h
  · simp only [badBodies0, List.mem_cons, List.not_mem_nil, or_false] at h
    have h1 : 0 ≤ far % 9 := Int.emod_nonneg _ (by decide)
    rcases h with rfl | rfl | rfl | rfl | rfl | rfl | rfl | rfl
    · cases nn
    · rfl
    · rfl
    · rfl
    · rfl
    · rfl
    · decide +kernel
    · show (_ && decide (_ ≤ 9)) = false
      rw [decide_eq_false (by rw [len_rep]; simp; omega), Bool.and_false]
  · obtain ⟨p, hp, rfl⟩ := List.mem_map.mp h
    have hb := steps_bad lo p.1 (by
      obtain ⟨q1, q2⟩ := p
      have := List.mem_zipIdx hp
      exact this.2.2 ▸ List.getElem_mem _)
    show ((goodSteps.take (p.2 % 6) ++ [p.1] ++ goodSteps.drop (p.2 % 6)).all stepB && _) = false
    rw [List.all_append, List.all_append]
    simp [hb]
theorem books_bad {far : Int} (lo : 0 ≤ far) : ∀ d ∈ badBooks far, bookB d = false ∧ fewB d := by
  intro d hd
  unfold badBooks at hd
  rcases List.mem_append.mp hd with hd | hd
  · rcases List.mem_append.mp hd with hd | hd
    · simp only [badBooks1, badBooks0, List.append_assoc, List.cons_append, List.nil_append, List.mem_cons, List.not_mem_nil, or_false] at hd
      rcases hd with rfl | rfl | rfl | rfl | rfl | rfl | rfl | rfl | rfl | rfl | rfl | rfl | rfl | rfl | rfl | rfl
      all_goals exact ⟨by decide +kernel, by first | trivial | (show _ ≤ 20; decide)⟩
    · obtain ⟨c, hc, rfl⟩ := List.mem_map.mp hd
      have hw := words_bad lo c (List.mem_filter.mp hc).1
      refine ⟨?_, by show 3 ≤ 20; decide⟩
      simp [bookW, bookB, hasB, hw]
  · obtain ⟨c, hc, rfl⟩ := List.mem_map.mp hd
    have hw := bodies_bad lo c (List.mem_filter.mp hc).1 (List.mem_filter.mp hc).2
    refine ⟨?_, by show 2 ≤ 20; decide⟩
    simp [bookB2, bookB, hasB, hw]
section
variable {P : Program} {w : World} {K : PySem.W.Frag} {mg : Str → Option Value} {base : Heap}
theorem ok_bad_books {f : Addr} {fd : FuncData} (F : Fun K "_law_bad_books" "_law_bad_books" s_law_bad_books f fd) (c_law_bad_words : Cal P w K mg base "_law_bad_words" 5 ["_law_far"] (spBadL badWords)) (c_law_bad_bodies : Cal P w K mg base "_law_bad_bodies" 10 ["_law_far"] (spBadL badBodies)) : FnOk P w K mg base CX0 20 f fd ["_law_far"] (spBadL badBooks) := by
  refine Fun.okI F sc_law_bad_books (fun vs H Q E h => ?_) (fun cdv A outer s H vs Q E hr h => ?_)
  · obtain ⟨far, rfl, _⟩ := h; rfl
  · obtain ⟨far, rfl, lo, hi, q⟩ := h
    refine ⟨_, (pss_consII (ps_setX (n := 16) (ns := []) (i := 1) sc_law_bad_books.nd rfl (by first | exact Or.inl rfl | exact Or.inr rfl) NsOk.nil (by first | exact .inl rfl | exact .inr rfl)) (pss_consII (ps_setX2 (n := 16) (ns := [("_law_found", 1)]) (i := 1) sc_law_bad_books.nd rfl (by first | exact Or.inl rfl | exact Or.inr rfl) (NsOk.cons (x := "_law_found") (i := 1) rfl (by first | exact Or.inl rfl | exact Or.inr (Or.inl rfl) | exact Or.inr (Or.inr rfl)) NsOk.nil) (by first | exact .inl rfl | exact .inr rfl)) (pss_consII (ps_setCat (i := 1) sc_law_bad_books.nd rfl (by first | exact Or.inl rfl | exact Or.inr rfl) (pv 1) (pei_lcX (n := 16) (ns := [("_law_word", 2)]) (own := [("_law_word", 2)]) rfl sc_law_bad_books.nd (pi_list (pe_cal c_law_bad_words (hr.mono (by decide)) (by rfl) (pa_cons (pv 0) pa_nil))) (blkOk_by (own := [("_law_word", 2)]) (N := N_law_bad_books) (sc := defScope s_law_bad_books) (by decide +kernel)) (fun _ _ _ _ _ => (pg_name (i := 2) sc_law_bad_books.nd rfl (by first | exact Or.inl rfl | exact Or.inr rfl))) (fun _ _ _ _ _ => pts_nil) (fun _ _ _ _ _ => (NsOk.cons (x := "_law_word") (i := 2) rfl (by first | exact Or.inl rfl | exact Or.inr (Or.inl rfl) | exact Or.inr (Or.inr rfl)) NsOk.nil))) (by first | exact .inl rfl | exact .inr rfl)) (pss_oneI (ps_retCat (pv 1) (pei_lcX (n := 16) (ns := [("_law_body", 3)]) (own := [("_law_body", 3)]) rfl sc_law_bad_books.nd (pi_list (pe_cal c_law_bad_bodies (hr.mono (by decide)) (by rfl) (pa_cons (pv 0) pa_nil))) (blkOk_by (own := [("_law_body", 3)]) (N := N_law_bad_books) (sc := defScope s_law_bad_books) (by decide +kernel)) (fun _ _ _ _ _ => (pg_name (i := 3) sc_law_bad_books.nd rfl (by first | exact Or.inl rfl | exact Or.inr rfl))) (fun _ _ _ _ _ => pts_one (pt_cmpR op_notN (pv 3) pe_non (nomark _))) (fun _ _ _ _ _ => (NsOk.cons (x := "_law_body") (i := 3) rfl (by first | exact Or.inl rfl | exact Or.inr (Or.inl rfl) | exact Or.inr (Or.inr rfl)) NsOk.nil)))))))), ?_⟩
    refine litH ⟨[], .lst badBooks0, [], by kernel_rfl, on0, (fun i hi => nomatch hi), fun v H1 s1 t1 fr => ?_⟩
    refine litH ⟨[.lst badBooks0], .lst badBooks1, [], by kernel_rfl, on1 rfl t1, (fun i hi => nomatch hi), fun v2 H2 s2 t2 fr2 => ?_⟩
    obtain ⟨l2, x2, rfl, hl2, hx2⟩ := id t2.lstOf
    have s12 := s1.trans s2
    refine ⟨_, rfl, _, rfl, far, rfl, lo, hi, fun ls H3 s3 nls t3 => ?_⟩
    obtain ⟨_, xw, ew, hls, hxw⟩ := id t3.lstOf
    cases ew
    refine ⟨ls, rfl, ⟨_, SqL.of hls⟩, ?_⟩
    refine lc_lit (K := K) (vs := [2]) (σ := [some (.int far), some (.ref l2), none, none]) (n := 16) (x := "_law_word") (i := 2) (tt := tYes) bookW (fun _ => true) hls hxw (by rw [hxw.length]; show 16 ≤ 1000; decide) (by exact fun _ => rfl) (by exact fun _ => rfl) (fun d _ _ => by cases d <;> kernel_rfl) (fun v d H2 R _ h => h) fun D H4 s4 nD t4 => ?_
    obtain ⟨_, xD, eD, hD, hxD⟩ := id t4.lstOf
    cases eD
    have lw : ((badWords far).filter fun _ => true).length = 16 := rfl
    refine ⟨l2, D, _, _, rfl, rfl, s4 _ _ (s3 _ _ hl2), hD, by rw [hx2.length, hxD.length, List.length_map, lw]; show 32 ≤ sizeLine; decide, fun p hp => ?_⟩
    have s5 := same_upd (o := .lst (x2 ++ xD)) hp
    have t5 : ThAt (upd H4 p (.lst (x2 ++ xD))) (.ref p) (.lst (badBooks1 ++ ((badWords far).filter fun _ => true).map bookW)) := .lst upd_same (pairedApp (ThsAt.same ((s3.trans s4).trans s5) _ hx2) (ThsAt.same s5 _ hxD))
    have np : H p = none := ((s12.trans s3).trans s4).free hp
    have sH5 := ((s12.trans s3).trans s4).trans s5
    have hp5 : upd H4 p (.lst (x2 ++ xD)) p = _ := upd_same
    generalize upd H4 p (.lst (x2 ++ xD)) = H5 at t5 sH5 hp5 ⊢
    refine ⟨_, rfl, _, rfl, far, rfl, lo, hi, fun lb H6 s6 nlb t6 => ?_⟩
    obtain ⟨_, xb, eb, hlb, hxb⟩ := id t6.lstOf
    cases eb
    have lb0 : (badBodies far).length = 41 := by
      unfold badBodies
      rw [List.length_append, List.length_map, List.length_zipIdx]; rfl
    refine ⟨lb, rfl, ⟨_, SqL.of hlb⟩, ?_⟩
    refine lc_lit (K := K) (vs := [3]) (σ := [some (.int far), some (.ref p), none, none]) (n := 16) (x := "_law_body") (i := 3) bookB2 notNon hlb hxb (by rw [hxb.length, lb0]; decide) (by exact fun _ => rfl) (by exact fun _ => rfl) (fun d _ _ => by cases d <;> kernel_rfl) (fun v d H2 R hv h => ⟨_, rfl, rfl, _, notNon_of hv ▸ rfl, h⟩) fun D2 H7 s7 nD2 t7 => ?_
    obtain ⟨_, xE, eE, hE, hxE⟩ := id t7.lstOf
    cases eE
    have lf : ((badBodies far).filter notNon).length ≤ 41 := by rw [← lb0]; exact List.length_filter_le _ _
    have s57 := s6.trans s7
    refine ⟨p, D2, _, _, rfl, rfl, s57 _ _ hp5, hE, by rw [List.length_append, hx2.length, hxD.length, hxE.length, List.length_map, List.length_map, lw, sizeLine_eq]; show 16 + 16 + _ ≤ _; omega, fun r hr2 => ?_⟩
    have s8 := same_upd (o := .lst (x2 ++ xD ++ xE)) hr2
    obtain ⟨_, _, e9, h9, hx9⟩ := t5.lstOf
    cases e9
    rw [hp5] at h9
    cases h9
    exact q r _ ((sH5.trans s57).trans s8) ((sH5.trans s57).free hr2) (.lst upd_same (pairedApp (ThsAt.same (s57.trans s8) _ hx9) (ThsAt.same s8 _ hxE)))
end
end MG

set_option Elab.async false
set_option linter.all false
set_option maxRecDepth 100000
set_option maxHeartbeats 1000000
namespace MG
open PySem PySem.Spec PyProof.Rows L2
/-! ### things are apart from a table -/
mutual
theorem th_wo1 {H : Hp} {P : Addr} {ps : Array Value} (h : H P = some (tabE P ps)) : ∀ (d : Th) {v : V}, ThAt H v d → ThAt (wo1 H P) v d
  | _, _, .non => .non
  | _, _, .int i => .int i
  | _, _, .bl i => .bl i
  | _, _, .str x z => .str x z
  | .lst ds, v, k => by
    cases k with
    | @lst a xs _ e p => exact .lst (by rw [wo1_ne (fun z => by rw [z, h] at e; cases e)]; exact e) (ths_wo1 h ds p)
  | .tup ds, v, k => by
    cases k with
    | @tup a xs _ e p => exact .tup (by rw [wo1_ne (fun z => by rw [z, h] at e; cases e)]; exact e) (ths_wo1 h ds p)
  | .dct n, v, k => by
    cases k with
    | @dct a kvs e => exact .dct (by rw [wo1_ne (fun z => by rw [z, h] at e; cases e)]; exact e)
theorem ths_wo1 {H : Hp} {P : Addr} {ps : Array Value} (h : H P = some (tabE P ps)) : ∀ (ds : List Th) {xs : List V}, ThsAt H xs ds → ThsAt (wo1 H P) xs ds
  | [], _, .nil => .nil
  | d :: ds, _, .cons r t => .cons (th_wo1 h d r) (ths_wo1 h ds t)
end
theorem ButP.wo {P : Addr} {H H' : Hp} (b : ButP P H H') : Same (wo1 H P) (wo1 H' P) := fun a o e => by
  by_cases z : a = P
  · rw [z, wo1_at] at e; cases e
  · rw [wo1_ne z] at e ⊢; exact b a o z e
theorem TabL.tab {H : Hp} {P : Addr} {q : Str} (t : TabL H P q) : ∃ ps, H P = some (tabE P ps) := let ⟨ps, e, _⟩ := t; ⟨ps, e⟩
theorem TB.on.wo {T : TB} {H : Hp} {P : Addr} (h : T.on H) (n : P ≠ T.w ∧ P ≠ T.b ∧ P ≠ T.k ∧ P ≠ T.c) : T.on (wo1 H P) := ⟨by rw [wo1_ne n.1.symm]; exact h.1, by rw [wo1_ne n.2.1.symm]; exact h.2.1, by rw [wo1_ne n.2.2.1.symm]; exact h.2.2.1, by rw [wo1_ne n.2.2.2.symm]; exact h.2.2.2⟩
theorem cutA_toB (xs : List V) (n : Nat) : cutV xs none (some (n : Int)) = xs.take n := by
  by_cases h : n ≤ xs.length
  · exact cutA_to xs h
  · have e : HT.sIx xs.length xs.length (some (n : Int)) = xs.length := by rw [HT.sIx_nat]; omega
    have e2 : HT.sIx xs.length 0 none = 0 := rfl
    unfold cutV
    rw [e, e2]
    show xs.take _ = _
    rw [List.take_of_length_le (by omega), List.take_of_length_le (by omega)]
/-- nothing is refused here -/
theorem passNo {X : Cx} : Passes (CXE X.prog X.w) X (fun _ _ _ => False) := fun _ _ _ _ _ _ _ ⟨_, _, _, _, _, _, _, _, _, h⟩ => h.elim
section
variable {X : Cx} {n : Nat} {ns : List (Str × Nat)}
/-- a, b = f(..), [a display] -/
theorem ps_asg2X {tg f : Expr} {args : List Expr} {kws : List Keyword} {cp lp p2 pos : Pos} {es : List Expr} {k : Nat} {ta : TE} {g : TG} (ha : PE X (.Call f args kws cp) ta) (h : NsOk X ns) (hg : PG X tg g)
    (hs : swapsWithSole [tg] (.Tuple [.Call f args kws cp, .List es lp] k p2) pos.line X.env = pure false := by rfl) (hw : swappedStores [tg] (.Tuple [.Call f args kws cp, .List es lp] k p2) X.env = pure none := by rfl) (h1 : (assignEach [tg] X.env).map (·.2) = [assign tg X.env] := by rfl) :
    PSi X (.Assign [tg] (.Tuple [.Call f args kws cp, .List es lp] k p2) pos) (tAsg (tTup (tCons ta (tCons (tLitX n ns (.List es lp)) tNil))) g) :=
  .mk (ps_asg (pe_tup (pa_cons ha (pa_consL (pe_litX n ns h) pa_nil))) hg hs hw h1)
/-- a def that lays lambdas -/
theorem okGI {P : Program} {w : World} {K : PySem.W.Frag} {mg : Str → Option Value} {base : Heap} {x qual : Str} {st : Stmt} {f c Pt : Addr} {fd : FuncData} {N ps : List Str} {k : Nat} {sp : Sp} (F : FunG K x qual st f fd c Pt) (S : FnScope N ps (defScope st)) (len : ∀ vs H Q E, sp vs H Q E → vs.length = ps.length)
    (hbody : ∀ (A : Around) (outer : List Env) (s : Shared) (H : Hp) (vs : List V) (Q : VK) (E : XK), Room k (A.deeper (envOfC qual (defScope st) s.heap.objs.size f (.ref c))) → sp vs H Q E →
      ∃ t, PSsi (cxOf CX0 P w K mg base N qual (defScope st) f (.ref c) A outer s H E).nox (defBody st) t ∧ t { nx := fun _ H' => Q .non H', rt := Q } (start N vs) H) : FnOk P w K mg base CX0 (k + 1) f fd ps sp :=
  F.ok S len fun A outer s H vs Q E hr h => let ⟨t, h1, h2⟩ := hbody A outer s H vs Q E hr h; ⟨t, h1.out, h2⟩
/-- a lambda that stands in the heap -/
theorem lam_fnH {P : Program} {w : World} {K : PySem.W.Frag} {mg : Str → Option Value} {base : Heap} {N : List Str} {x qual : Str} {scope : Scope} {params : Arguments} {body : Expr} {f c : Addr} {cl : List (Str × Addr)} {k : Nat} {H0 : Hp} (_h : H0 f = some (LamO f qual params body scope cl c)) (ws : List V) (t : XK → TE) (S : LamSc N x scope) (C : ClOk base N scope cl ws) (hb : ∀ pm ctv u, bindArgs (PySem.W.kla_fn "<lambda>" qual params body scope cl pm (.ref c) ctv) ⟨[u], []⟩ = pure [(x, u)])
    (hbody : ∀ (A : Around) (outer : List Env) (s : Shared) (H : Hp) (E : XK), Room k (A.deeper (PySem.W.envX qual scope s.heap.objs.size f (.ref c) cl)) → PE (cxL P w K mg base N qual scope f c cl A outer s H E) body (t E)) :
    LFn P w K mg base (k + 1) f (spLamF f c qual params body scope cl ws t) := lam_fn S C hb hbody
/-- the free names of a lambda are the def's -/
def lamB (names : List (Str × NameKind)) (sc : Scope) : Bool := names.all fun y => !(y.2 == .free) || (sc.names.lookup y.1 == some .cell) || (sc.names.lookup y.1 == some .free)
theorem lam_names {names : List (Str × NameKind)} {sc : Scope} {env : Env} (h : lamB names sc = true) (e : env.scope = sc) : ∀ y ∈ names, y.2 = .free → env.kindOf y.1 = some .cell ∨ env.kindOf y.1 = some .free := fun y hy hf => by
  have := List.all_eq_true.mp h y hy
  rw [hf] at this
  simp only [Bool.or_eq_true, Bool.not_eq_true'] at this
  subst e
  rcases this with (z | z) | z
  · cases z
  · exact .inl (eq_of_beq z)
  · exact .inr (eq_of_beq z)
end
end MG

set_option Elab.async false
set_option linter.all false
set_option maxRecDepth 100000
set_option maxHeartbeats 1000000
namespace MG
open PySem PySem.Spec PyProof.Rows L2
/-! ### laws of refusals: what holds all the time, lambdas that capture up to two names -/
/-- what holds all the time: apart from the table -/
structure G30 (K : PySem.W.Frag) (T : TB) (Pl : Addr) (q : Str) (S : Addr) (W : Hp) (H : Hp) : Prop where
  same : Same W (wo1 H Pl)
  tab : TabL H Pl q
theorem G30.lam {K : PySem.W.Frag} {T : TB} {Pl S : Addr} {q : Str} {W H H' : Hp} (g : G30 K T Pl q S W H) (b : ButP Pl H H') (t : TabL H' Pl q) : G30 K T Pl q S W H' := ⟨g.same.trans b.wo, t⟩
theorem G30.go {K : PySem.W.Frag} {T : TB} {Pl S : Addr} {q : Str} {W H H' : Hp} (g : G30 K T Pl q S W H) (s : Same H H') : G30 K T Pl q S W H' := ⟨g.same.trans (wo1_same s), g.tab.same s⟩
theorem free_no {sc : Scope} {y : Str} (h : (sc.names.all fun z => !(z.2 == .free)) = true) : sc.names.lookup y ≠ some .free := fun e => by
  have := List.all_eq_true.mp h _ (PySem.mem_of_lookup e)
  simp at this
theorem free_one {sc : Scope} {y z : Str} (h : (sc.names.all fun p => !(p.2 == .free) || p.1 == y) = true) (e : sc.names.lookup z = some .free) : z = y := by
  have := List.all_eq_true.mp h _ (PySem.mem_of_lookup e)
  simpa using this
theorem door_pack {He : Hp} {fl cl : Addr} {qual : Str} {params : Arguments} {body : Expr} {scope : Scope} {clos : List (Str × Addr)} (_h : He fl = some (LamO fl qual params body scope clos cl)) (ws : List V) (t : XK → TE) : ∃ spL, spL = spLamF fl cl qual params body scope clos ws t := ⟨_, rfl⟩
/-- a lambda without names of the def -/
theorem clo_none {base : Heap} {x : Str} {scope : Scope} (h : ∀ y, scope.names.lookup y ≠ some .free) : ClOk base [x] scope [] [] := ⟨fun y e => absurd e (h y), (fun y c e => nomatch e), (fun y z c e => nomatch e), (fun i y v e => nomatch e), rfl⟩
theorem clo_one {base : Heap} {x y : Str} {scope : Scope} {c : Addr} {u : Value} {v : V} (h : ∀ z, scope.names.lookup z = some .free → z = y) (hc : base.IsCell c (some u)) (r : RelV v u) : ClOk base [x, y] scope [(y, c)] [v] := by
  refine ⟨fun z e => ⟨c, by rw [h z e]; simp⟩, fun z c' e => ?_, fun z z' c' e1 e2 => ?_, fun i z w e1 e2 => ?_, rfl⟩
  · rw [List.lookup_cons] at e
    split at e
    · cases e; exact ⟨_, hc⟩
    · cases e
  · rw [List.lookup_cons] at e1 e2
    split at e1
    · rename_i h1
      split at e2
      · rename_i h2; rw [eq_of_beq h1, eq_of_beq h2]
      · cases e2
    · cases e1
  · cases i with
    | zero => simp at e1 e2; subst e1 e2; exact ⟨c, u, by simp, r, hc⟩
    | succ i => simp at e1
section
variable {X : Cx} {n : Nat} {ns : List (Str × Nat)}
end
end MG

set_option Elab.async false
set_option linter.all false
set_option maxRecDepth 100000
set_option maxHeartbeats 1000000
namespace MG
open PySem PySem.Spec PyProof.Rows L2
/-! ### calls among any things -/
def heardB : Th → Bool | .lst ds => decide (ds.length ≤ 20) && ds.all numB | _ => false
def strB : Th → Bool | .int i => decide (0 ≤ i) && decide (i ≤ 120) | _ => false
def callB : Th → Bool | .tup [w, n, h, s] => wordB w && (numB n && (heardB h && strB s)) | _ => false
def calTh (x : Str) (z : Int) (hs : List Int) (st : Int) : Th := .tup [.str x, .int z, .lst (hs.map Th.int), .int st]
theorem nums_of : ∀ {ds : List Th}, ds.all numB = true → ∃ hs : List Int, ds = hs.map Th.int
  | [], _ => ⟨[], rfl⟩
  | d :: r, h => by
    rw [List.all_cons, Bool.and_eq_true] at h
    obtain ⟨hs, e⟩ := nums_of h.2
    cases d <;> first | (cases h.1; done) | skip
    rename_i i
    exact ⟨i :: hs, by rw [e]; rfl⟩
theorem nums_at {H : Hp} : ∀ {hs : List Int} {us : List V}, ThsAt H us (hs.map Th.int) → us = hs.map V.int
  | [], _, .nil => rfl
  | i :: hs, _, .cons r t => by
    cases r
    rw [nums_at t]; rfl
theorem callB_len {ds : List Th} (h : ds.length ≠ 4) : callB (.tup ds) = false := by
  rcases ds with _ | ⟨a, _ | ⟨b, _ | ⟨c, _ | ⟨d, _ | ⟨e, r⟩⟩⟩⟩⟩ <;> first | rfl | exact absurd rfl h
/-- a good call, where it lies -/
theorem callB_at {H : Hp} {v : V} {d : Th} (h : ThAt H v d) (k : callB d = true) : ∃ c hh x z hs st, v = .ref c ∧ d = calTh x z hs st ∧ H c = some (.tup [.str x, .int z, .ref hh, .int st]) ∧ H hh = some (.lst (hs.map V.int)) ∧ WordOk x ∧ hs.length ≤ 20 ∧ 0 ≤ st ∧ st ≤ 120 := by
  unfold callB at k
  split at k
  · rename_i dw dn dh ds
    rw [Bool.and_eq_true, Bool.and_eq_true, Bool.and_eq_true] at k
    obtain ⟨k1, k2, k3, k4⟩ := k
    obtain ⟨t, us, rfl, ht, hv⟩ := h.tupOf
    cases hv with
    | cons r1 hv =>
      cases hv with
      | cons r2 hv =>
        cases hv with
        | cons r3 hv =>
          cases hv with
          | cons r4 hv =>
            cases hv
            obtain ⟨x, rfl, rfl, okx⟩ := wordAt_of r1 k1
            cases dn <;> first | (cases k2; done) | skip
            cases r2
            cases ds <;> first | (cases k4; done) | skip
            cases r4
            cases dh <;> first | (cases k3; done) | skip
            rename_i z st gs
            obtain ⟨hh, ws, rfl, hhl, hhv⟩ := r3.lstOf
            have k3 : (decide (gs.length ≤ 20) && gs.all numB) = true := k3
            rw [Bool.and_eq_true] at k3
            obtain ⟨hs, rfl⟩ := nums_of k3.2
            have ew := nums_at hhv
            subst ew
            have k4 : (decide (0 ≤ st) && decide (st ≤ 120)) = true := k4
            rw [Bool.and_eq_true] at k4
            exact ⟨t, hh, x, z, hs, st, rfl, rfl, ht, hhl, okx, by have := of_decide_eq_true k3.1; rwa [List.length_map] at this, of_decide_eq_true k4.1, of_decide_eq_true k4.2⟩
  · cases k
end MG

set_option Elab.async false
set_option linter.all false
set_option maxRecDepth 100000
set_option maxHeartbeats 1000000
namespace MG
open PySem PySem.Spec PyProof.Rows L2
/-! ### comprehensions over a written tuple -/
theorem lc_byT2 {K : PySem.W.Frag} {g : TG} {tt : TT} {te : TE} {vs : List Nat} {σ : L2.St} {a : Addr} {xs : List V} {H1 : Hp} {Qd : Addr → Hp → Prop} (Pv : Addr → Nat → Hp → Prop) (h0 : ∀ D, H1 D = none → Pv D 0 (upd H1 D (.lst []))) (hl : ∀ D i H, i ≤ xs.length → Pv D i H → SqT K H a xs)
    (hs : ∀ D i x H, H1 D = none → xs[i]? = some x → Pv D i H → g x (wipe σ vs) H fun σ2 H2 => wipe σ2 vs = wipe σ vs ∧ tt σ2 H2 fun b H3 =>
      if b = true then te σ2 H3 fun y H4 => ∃ acc, H4 D = some (.lst acc) ∧ acc.length < sizeLine ∧ Pv D (i + 1) (upd H4 D (.lst (acc ++ [y]))) else Pv D (i + 1) H3) (hd : ∀ D H, H1 D = none → Pv D xs.length H → Qd D H) :
    ∀ D, H1 D = none → ∃ W : Nat → Nat → Hp → Prop, (∃ m, W 0 m (upd H1 D (.lst []))) ∧ ∀ i m H, W i m H →
      ((Itt K a).stop i H ∧ Qd D H) ∨ ((Itt K a).go i H ∧ ∃ Nx : Hp → Prop, (∀ H', Nx H' → ∃ m', m' < m ∧ W (i + 1) m' H') ∧ ∀ x H', (Itt K a).yld i H x H' → g x (wipe σ vs) H' fun σ2 H2 => wipe σ2 vs = wipe σ vs ∧ tt σ2 H2 fun b H3 =>
        if b = true then te σ2 H3 fun y H4 => ∃ acc, H4 D = some (.lst acc) ∧ acc.length < sizeLine ∧ Nx (upd H4 D (.lst (acc ++ [y]))) else Nx H3) :=
  fun D hD => lc_tup (Pv D) (h0 D hD) (hl D) (fun i x H hx p => hs D i x H hD hx p) (fun H p => hd D H hD p)
theorem lc_litT {K : PySem.W.Frag} {L : Addr} {us : List V} {ds : List Th} {vs : List Nat} {σ : L2.St} {H1 : Hp} {Qd : Addr → Hp → Prop} {n : Nat} {x : Str} {i : Nat} {elt : Expr} {tt : TT} (f : Th → Th) (keep : Th → Bool)
    (hl : H1 L = some (.tup us)) (hu : ThsAt H1 us ds) (few : us.length ≤ 1000)
    (hw : ∀ v, wipe ((wipe σ vs).set i (some v)) vs = wipe σ vs) (hg : ∀ v : V, ((wipe σ vs).set i (some v))[i]? = some (some v))
    (hlit : ∀ d ∈ ds, keep d = true → lit n (mkRho [(x, i)] [d]) elt = some (f d, []))
    (htt : ∀ (v : V) (d : Th) (H2 : Hp) (R : Bool → Hp → Prop), ThAt H2 v d → R (keep d) H2 → tt ((wipe σ vs).set i (some v)) H2 R)
    (hq : ∀ D H', Same H1 H' → H1 D = none → ThAt H' (.ref D) (.lst ((ds.filter keep).map f)) → Qd D H') :
    ∀ D, H1 D = none → ∃ W : Nat → Nat → Hp → Prop, (∃ m, W 0 m (upd H1 D (.lst []))) ∧ ∀ i' m H, W i' m H →
      ((Itt K L).stop i' H ∧ Qd D H) ∨ ((Itt K L).go i' H ∧ ∃ Nx : Hp → Prop, (∀ H', Nx H' → ∃ m', m' < m ∧ W (i' + 1) m' H') ∧ ∀ x' H', (Itt K L).yld i' H x' H' → gName i x' (wipe σ vs) H' fun σ2 H2 => wipe σ2 vs = wipe σ vs ∧ tt σ2 H2 fun b H3 =>
        if b = true then tLitX n [(x, i)] elt σ2 H3 fun y H4 => ∃ acc, H4 D = some (.lst acc) ∧ acc.length < sizeLine ∧ Nx (upd H4 D (.lst (acc ++ [y]))) else Nx H3) := by
  refine lc_byT2 (Qd := Qd) (fun D j H' => Same H1 H' ∧ ∃ acc, H' D = some (.lst acc) ∧ ThsAt (wo1 H' D) acc (((ds.take j).filter keep).map f) ∧ acc.length ≤ j) (fun D hD => ⟨same_upd hD, [], upd_same, .nil, Nat.le_refl _⟩) (fun D j H' _ h => SqT.of (h.1 _ _ hl)) (fun D j v H' hD hx h => ?_) (fun D H' hD h => ?_)
  · obtain ⟨s1, acc, ha, hacc, lacc⟩ := h
    obtain ⟨d, hd, hv⟩ := ths_at hu hx
    have hi : j < us.length := by rcases Nat.lt_or_ge j us.length with z | z; exact z; rw [List.getElem?_eq_none z] at hx; cases hx
    have tk : ds.take (j + 1) = ds.take j ++ [d] := by rw [List.take_succ, hd]; rfl
    refine ⟨hw v, htt v d H' _ (hv.same s1) ?_⟩
    cases kd : keep d with
    | true =>
      refine iteT ⟨[d], f d, [], hlit d (List.mem_of_getElem? hd) kd, wo1 H' D, wo1_sub, on1 (hg v) (hv.same (wo1_of s1 hD)), (fun i hi => nomatch hi), fun y H4 G4 gr t4 _ => ⟨acc, gr.sH _ _ ha, by rw [sizeLine_eq]; omega, ?_, acc ++ [y], upd_same, ?_, ?_⟩⟩
      · exact fun b o e => by rw [upd_ne (ne_of_none e hD)]; exact gr.sH _ _ (s1 _ _ e)
      · rw [wo1_upd, tk, List.filter_append, List.map_append]
        have e1 : List.filter keep [d] = [d] := by simp [kd]
        rw [e1]
        refine pairedApp (ThsAt.same (wo1_same gr.sH) _ hacc) (.cons (ThAt.same (fun b o e => ?_) _ t4) .nil)
        have nb : b ≠ D := fun z => by
          rw [z, gr.new D (by rw [ha]; exact fun z => nomatch z) wo1_at] at e; cases e
        rw [wo1_ne nb]; exact gr.sub _ _ e
      · rw [List.length_append, List.length_singleton]; omega
    | false =>
      refine iteF ⟨s1, acc, ha, ?_, by omega⟩
      rw [tk, List.filter_append, List.map_append]
      have e1 : List.filter keep [d] = [] := by simp [kd]
      rw [e1]
      simpa using hacc
  · obtain ⟨s1, acc, ha, hacc, lacc⟩ := h
    rw [hu.length, List.take_length] at hacc
    exact hq D H' s1 hD (.lst ha (ThsAt.same wo1_sub _ hacc))
section
variable {X : Cx} {n m : Nat} {ns ms : List (Str × Nat)}
/-- [a written thing for .. in a written tuple if ..] -/
theorem pei_lcXT {elt tg : Expr} {es : List Expr} {kk : Nat} {p0 : Pos} {ifs : List Expr} {scope : Scope} {own : List (Str × Nat)} {pos : Pos} {g : TG} {tt : TT} (hc : X.calm = true) (hN : X.N.Nodup) (hi : NsOk X ms) (ok : BlkOk X.N X.env.scope scope own)
    (hg : ∀ (s : Shared) (H : Hp) (C : Addr) (cl : List (Str × Addr)) (fp : List Addr), PG (X.blk s H scope (compEnvC scope cl C X.env) fp) tg g) (ht : ∀ (s : Shared) (H : Hp) (C : Addr) (cl : List (Str × Addr)) (fp : List Addr), PTs (X.blk s H scope (compEnvC scope cl C X.env) fp) ifs tt)
    (he : ∀ (s : Shared) (H : Hp) (C : Addr) (cl : List (Str × Addr)) (fp : List Addr), NsOk (X.blk s H scope (compEnvC scope cl C X.env) fp) ns) :
    PEi X (.ListComp elt [⟨tg, .Tuple es kk p0, ifs, 0⟩] scope pos) (tLc (iTup X.K (tLitX m ms (.Tuple es kk p0))) g tt (tLitX n ns elt) (own.map (·.2))) := pei_lcX hc hN (pi_tup (pe_litX m ms hi)) ok hg ht he (fun _ => rfl)
end
end MG

set_option Elab.async false
set_option linter.all false
set_option maxRecDepth 100000
set_option maxHeartbeats 1000000
namespace MG
open PySem PySem.Spec PyProof.Rows L2
/-! ### what is no call -/
def badCal0 : List Th := [.non, .int 5, .str "a", .tup [], .tup [.str "a"], .tup [.str "a", .int 0, .lst []], .tup [.str "a", .int 0, .lst [], .int 5, .int 5], .lst [.str "a", .int 0, .lst [], .int 5], .dct 0]
def calW (d : Th) : Th := .tup [d, .int 0, .lst [], .int 5]
def calN (d : Th) : Th := .tup [.str "a", d, .lst [], .int 5]
def calH (d : Th) : Th := .tup [.str "a", .int 0, d, .int 5]
def calS (d : Th) : Th := .tup [.str "a", .int 0, .lst [], d]
def noNum : List Th := [.non, .str "0", .bl true, .lst [.int 0], .tup [.int 0]]
def noHeard : List Th := [.non, .tup [], .tup [.int 0], .str "00", .int 5, .lst [.non], .lst [.int 0, .str "1"], .lst [.bl true], .lst [.lst [.int 0]], .lst (List.replicate 21 [Th.int 0]).flatten]
def noStr (far : Int) : List Th := [.non, .str "5", .bl true, .int (-1), .int (-1 - far), .int 121, .int (121 + far), .lst [.int 5]]
def badCal1 (far : Int) : List Th := badCal0 ++ ((badWords far).filter fun _ => true).map calW
def badCal2 (far : Int) : List Th := badCal1 far ++ (noNum.filter fun _ => true).map calN
def badCal3 (far : Int) : List Th := badCal2 far ++ (noHeard.filter fun _ => true).map calH
def badCalls (far : Int) : List Th := badCal3 far ++ ((noStr far).filter fun _ => true).map calS
theorem calls_bad {far : Int} (lo : 0 ≤ far) : ∀ d ∈ badCalls far, callB d = false := by
  intro d hd
  unfold badCalls badCal3 badCal2 badCal1 at hd
  rcases List.mem_append.mp hd with hd | hd
  · rcases List.mem_append.mp hd with hd | hd
    · rcases List.mem_append.mp hd with hd | hd
      · rcases List.mem_append.mp hd with hd | hd
        · simp only [badCal0, List.mem_cons, List.not_mem_nil, or_false] at hd
          rcases hd with rfl | rfl | rfl | rfl | rfl | rfl | rfl | rfl | rfl <;> decide +kernel
        · obtain ⟨c, hc, rfl⟩ := List.mem_map.mp hd
          have hw := words_bad lo c (List.mem_filter.mp hc).1
          simp [calW, callB, hw]
      · obtain ⟨c, hc, rfl⟩ := List.mem_map.mp hd
        have hc := (List.mem_filter.mp hc).1
        simp only [noNum, List.mem_cons, List.not_mem_nil, or_false] at hc
        rcases hc with rfl | rfl | rfl | rfl | rfl <;> decide +kernel
    · obtain ⟨c, hc, rfl⟩ := List.mem_map.mp hd
      have hc := (List.mem_filter.mp hc).1
      simp only [noHeard, List.mem_cons, List.not_mem_nil, or_false] at hc
      rcases hc with rfl | rfl | rfl | rfl | rfl | rfl | rfl | rfl | rfl | rfl <;> decide +kernel
  · obtain ⟨c, hc, rfl⟩ := List.mem_map.mp hd
    have hc := (List.mem_filter.mp hc).1
    have hs : strB c = false := by
      simp only [noStr, List.mem_cons, List.not_mem_nil, or_false] at hc
      rcases hc with rfl | rfl | rfl | rfl | rfl | rfl | rfl | rfl
      all_goals first
        | decide +kernel
        | (show (decide (0 ≤ _) && decide (_ ≤ (120 : Int))) = false
           first
           | rw [decide_eq_false (show ¬ (0 ≤ (-1 : Int) - far) by omega), Bool.false_and]
           | rw [decide_eq_false (show ¬ ((121 : Int) + far ≤ 120) by omega), Bool.and_false])
    simp [calS, callB, hs]
section
variable {P : Program} {w : World} {K : PySem.W.Frag} {mg : Str → Option Value} {base : Heap}
theorem ok_bad_calls {f : Addr} {fd : FuncData} (F : Fun K "_law_bad_calls" "_law_bad_calls" s_law_bad_calls f fd) (c_law_bad_words : Cal P w K mg base "_law_bad_words" 5 ["_law_far"] (spBadL badWords)) : FnOk P w K mg base CX0 20 f fd ["_law_far"] (spBadL badCalls) := by
  refine Fun.okI F sc_law_bad_calls (fun vs H Q E h => ?_) (fun cdv A outer s H vs Q E hr h => ?_)
  · obtain ⟨far, rfl, _⟩ := h; rfl
  · obtain ⟨far, rfl, lo, hi, q⟩ := h
    refine ⟨_, (pss_consII (ps_setX (n := 16) (ns := []) (i := 1) sc_law_bad_calls.nd rfl (by first | exact Or.inl rfl | exact Or.inr rfl) NsOk.nil (by first | exact .inl rfl | exact .inr rfl)) (pss_consII (ps_setCat (i := 1) sc_law_bad_calls.nd rfl (by first | exact Or.inl rfl | exact Or.inr rfl) (pv 1) (pei_lcX (n := 16) (ns := [("_law_word", 2)]) (own := [("_law_word", 2)]) rfl sc_law_bad_calls.nd (pi_list (pe_cal c_law_bad_words (hr.mono (by decide)) (by rfl) (pa_cons (pv 0) pa_nil))) (blkOk_by (own := [("_law_word", 2)]) (N := N_law_bad_calls) (sc := defScope s_law_bad_calls) (by decide +kernel)) (fun _ _ _ _ _ => (pg_name (i := 2) sc_law_bad_calls.nd rfl (by first | exact Or.inl rfl | exact Or.inr rfl))) (fun _ _ _ _ _ => pts_nil) (fun _ _ _ _ _ => (NsOk.cons (x := "_law_word") (i := 2) rfl (by first | exact Or.inl rfl | exact Or.inr (Or.inl rfl) | exact Or.inr (Or.inr rfl)) NsOk.nil))) (by first | exact .inl rfl | exact .inr rfl)) (pss_consII (ps_setCat (i := 1) sc_law_bad_calls.nd rfl (by first | exact Or.inl rfl | exact Or.inr rfl) (pv 1) (pei_lcXT (m := 16) (ms := []) (n := 16) (ns := [("_law_one", 3)]) (own := [("_law_one", 3)]) rfl sc_law_bad_calls.nd NsOk.nil (blkOk_by (own := [("_law_one", 3)]) (N := N_law_bad_calls) (sc := defScope s_law_bad_calls) (by decide +kernel)) (fun _ _ _ _ _ => (pg_name (i := 3) sc_law_bad_calls.nd rfl (by first | exact Or.inl rfl | exact Or.inr rfl))) (fun _ _ _ _ _ => pts_nil) (fun _ _ _ _ _ => (NsOk.cons (x := "_law_one") (i := 3) rfl (by first | exact Or.inl rfl | exact Or.inr (Or.inl rfl) | exact Or.inr (Or.inr rfl)) NsOk.nil))) (by first | exact .inl rfl | exact .inr rfl)) (pss_consII (ps_setCat (i := 1) sc_law_bad_calls.nd rfl (by first | exact Or.inl rfl | exact Or.inr rfl) (pv 1) (pei_lcXT (m := 16) (ms := []) (n := 16) (ns := [("_law_one", 3)]) (own := [("_law_one", 3)]) rfl sc_law_bad_calls.nd NsOk.nil (blkOk_by (own := [("_law_one", 3)]) (N := N_law_bad_calls) (sc := defScope s_law_bad_calls) (by decide +kernel)) (fun _ _ _ _ _ => (pg_name (i := 3) sc_law_bad_calls.nd rfl (by first | exact Or.inl rfl | exact Or.inr rfl))) (fun _ _ _ _ _ => pts_nil) (fun _ _ _ _ _ => (NsOk.cons (x := "_law_one") (i := 3) rfl (by first | exact Or.inl rfl | exact Or.inr (Or.inl rfl) | exact Or.inr (Or.inr rfl)) NsOk.nil))) (by first | exact .inl rfl | exact .inr rfl)) (pss_oneI (ps_retCat (pv 1) (pei_lcXT (m := 16) (ms := [("_law_far", 0)]) (n := 16) (ns := [("_law_one", 3)]) (own := [("_law_one", 3)]) rfl sc_law_bad_calls.nd (NsOk.cons (x := "_law_far") (i := 0) rfl (by first | exact Or.inl rfl | exact Or.inr (Or.inl rfl) | exact Or.inr (Or.inr rfl)) NsOk.nil) (blkOk_by (own := [("_law_one", 3)]) (N := N_law_bad_calls) (sc := defScope s_law_bad_calls) (by decide +kernel)) (fun _ _ _ _ _ => (pg_name (i := 3) sc_law_bad_calls.nd rfl (by first | exact Or.inl rfl | exact Or.inr rfl))) (fun _ _ _ _ _ => pts_nil) (fun _ _ _ _ _ => (NsOk.cons (x := "_law_one") (i := 3) rfl (by first | exact Or.inl rfl | exact Or.inr (Or.inl rfl) | exact Or.inr (Or.inr rfl)) NsOk.nil))))))))), ?_⟩
    refine litH ⟨[], .lst badCal0, [], by kernel_rfl, on0, (fun i hi => nomatch hi), fun v H1 s1 t1 fr => ?_⟩
    obtain ⟨l2, x2, rfl, hl2, hx2⟩ := id t1.lstOf
    refine ⟨_, rfl, _, rfl, far, rfl, lo, hi, fun ls H3 s3 nls t3 => ?_⟩
    obtain ⟨_, xw, ew, hls, hxw⟩ := id t3.lstOf
    cases ew
    refine ⟨ls, rfl, ⟨_, SqL.of hls⟩, ?_⟩
    refine lc_lit (K := K) (vs := [2]) (σ := [some (.int far), some (.ref l2), none, none]) (n := 16) (x := "_law_word") (i := 2) (tt := tYes) calW (fun _ => true) hls hxw (by rw [hxw.length]; show 16 ≤ 1000; decide) (by exact fun _ => rfl) (by exact fun _ => rfl) (fun d _ _ => by cases d <;> kernel_rfl) (fun v d H2 R _ h => h) fun D H4 s4 nD t4 => ?_
    obtain ⟨_, xD, eD, hD, hxD⟩ := id t4.lstOf
    cases eD
    have lw : ((badWords far).filter fun _ => true).length = 16 := rfl
    refine ⟨l2, D, _, _, rfl, rfl, s4 _ _ (s3 _ _ hl2), hD, by rw [hx2.length, hxD.length, List.length_map, lw]; show 25 ≤ sizeLine; decide, fun p hp => ?_⟩
    have s5 := same_upd (o := .lst (x2 ++ xD)) hp
    have t5 : ThAt (upd H4 p (.lst (x2 ++ xD))) (.ref p) (.lst (badCal1 far)) := .lst upd_same (pairedApp (ThsAt.same ((s3.trans s4).trans s5) _ hx2) (ThsAt.same s5 _ hxD))
    have sH5 := ((s1.trans s3).trans s4).trans s5
    generalize upd H4 p (.lst (x2 ++ xD)) = H5 at t5 sH5 ⊢
    clear hp s5 s1 s3 s4 t1 t3 t4 hls hxw hD hxD hl2 hx2 nD nls fr lw
    -- no numbers
    refine ⟨_, rfl, ?_⟩
    refine litH ⟨[], .tup noNum, [], by kernel_rfl, on0, (fun i hi => nomatch hi), fun va Ha sa ta _ => ?_⟩
    obtain ⟨la, xa, rfl, hla, hxa⟩ := id ta.tupOf
    refine ⟨la, rfl, ⟨_, SqT.of hla⟩, ?_⟩
    refine lc_litT (K := K) (vs := [3]) (σ := [some (.int far), some (.ref p), none, none]) (n := 16) (x := "_law_one") (i := 3) (tt := tYes) calN (fun _ => true) hla hxa (by rw [hxa.length]; show 5 ≤ 1000; decide) (by exact fun _ => rfl) (by exact fun _ => rfl) (fun d _ _ => by cases d <;> kernel_rfl) (fun v d H2 R _ h => h) fun D Hb sb nD tb => ?_
    obtain ⟨_, xD, eD, hD, hxD⟩ := id tb.lstOf
    cases eD
    obtain ⟨_, xp, ep, hpl, hxp⟩ := id t5.lstOf
    cases ep
    have sab := sa.trans sb
    refine ⟨p, D, _, _, rfl, rfl, sab _ _ hpl, hD, by rw [hxp.length, hxD.length]; show 30 ≤ sizeLine; decide, fun p2 hp2 => ?_⟩
    have sc := same_upd (o := .lst (xp ++ xD)) hp2
    have t6 : ThAt (upd Hb p2 (.lst (xp ++ xD))) (.ref p2) (.lst (badCal2 far)) := .lst upd_same (pairedApp (ThsAt.same (sab.trans sc) _ hxp) (ThsAt.same sc _ hxD))
    have sH6 := sH5.trans (sab.trans sc)
    generalize upd Hb p2 (.lst (xp ++ xD)) = H6 at t6 sH6 ⊢
    clear t5 sH5 hla hxa ta sa sb nD tb hD hxD hpl hxp sab hp2 sc
    -- nothing heard
    refine ⟨_, rfl, ?_⟩
    refine litH ⟨[], .tup noHeard, [21], by kernel_rfl, on0, (by intro i hi; rw [List.mem_singleton.mp hi]; decide), fun va Ha sa ta _ => ?_⟩
    obtain ⟨la, xa, rfl, hla, hxa⟩ := id ta.tupOf
    refine ⟨la, rfl, ⟨_, SqT.of hla⟩, ?_⟩
    refine lc_litT (K := K) (vs := [3]) (σ := [some (.int far), some (.ref p2), none, none]) (n := 16) (x := "_law_one") (i := 3) (tt := tYes) calH (fun _ => true) hla hxa (by rw [hxa.length]; show 10 ≤ 1000; decide) (by exact fun _ => rfl) (by exact fun _ => rfl) (fun d _ _ => by cases d <;> kernel_rfl) (fun v d H2 R _ h => h) fun D Hb sb nD tb => ?_
    obtain ⟨_, xD, eD, hD, hxD⟩ := id tb.lstOf
    cases eD
    obtain ⟨_, xp, ep, hpl, hxp⟩ := id t6.lstOf
    cases ep
    have sab := sa.trans sb
    refine ⟨p2, D, _, _, rfl, rfl, sab _ _ hpl, hD, by rw [hxp.length, hxD.length]; show 40 ≤ sizeLine; decide, fun p3 hp3 => ?_⟩
    have sc := same_upd (o := .lst (xp ++ xD)) hp3
    have t7 : ThAt (upd Hb p3 (.lst (xp ++ xD))) (.ref p3) (.lst (badCal3 far)) := .lst upd_same (pairedApp (ThsAt.same (sab.trans sc) _ hxp) (ThsAt.same sc _ hxD))
    have sH7 := sH6.trans (sab.trans sc)
    generalize upd Hb p3 (.lst (xp ++ xD)) = H7 at t7 sH7 ⊢
    clear t6 sH6 hla hxa ta sa sb nD tb hD hxD hpl hxp sab hp3 sc
    -- no strength
    refine ⟨_, rfl, ?_⟩
    refine litH ⟨[.int far], .tup (noStr far), [], by kernel_rfl, on1 rfl (.int far), (fun i hi => nomatch hi), fun va Ha sa ta _ => ?_⟩
    obtain ⟨la, xa, rfl, hla, hxa⟩ := id ta.tupOf
    refine ⟨la, rfl, ⟨_, SqT.of hla⟩, ?_⟩
    refine lc_litT (K := K) (vs := [3]) (σ := [some (.int far), some (.ref p3), none, none]) (n := 16) (x := "_law_one") (i := 3) (tt := tYes) calS (fun _ => true) hla hxa (by rw [hxa.length]; show 8 ≤ 1000; decide) (by exact fun _ => rfl) (by exact fun _ => rfl) (fun d _ _ => by cases d <;> kernel_rfl) (fun v d H2 R _ h => h) fun D Hb sb nD tb => ?_
    obtain ⟨_, xD, eD, hD, hxD⟩ := id tb.lstOf
    cases eD
    obtain ⟨_, xp, ep, hpl, hxp⟩ := id t7.lstOf
    cases ep
    have sab := sa.trans sb
    refine ⟨p3, D, _, _, rfl, rfl, sab _ _ hpl, hD, by rw [hxp.length, hxD.length]; show 48 ≤ sizeLine; decide, fun p4 hp4 => ?_⟩
    have sc := same_upd (o := .lst (xp ++ xD)) hp4
    exact q p4 _ (sH7.trans (sab.trans sc)) ((sH7.trans sab).free hp4) (.lst upd_same (pairedApp (ThsAt.same (sab.trans sc) _ hxp) (ThsAt.same sc _ hxD)))
end
end MG

set_option Elab.async false
set_option linter.all false
set_option maxRecDepth 100000
set_option maxHeartbeats 1000000
namespace MG
open PySem PySem.Spec PyProof.Rows L2
/-- a call at c: its word, its number, its heard numbers (at h), its strength -/
structure CallAt (H : Hp) (c h : Addr) (x : Str) (z : Int) (hs : List Int) (st : Int) : Prop where
  at_ : H c = some (.tup [.str x, .int z, .ref h, .int st])
  he : H h = some (.lst (hs.map V.int))
theorem CallAt.same {H H' : Hp} {c h : Addr} {x : Str} {z : Int} {hs : List Int} {st : Int} (m : CallAt H c h x z hs st) (k : Same H H') : CallAt H' c h x z hs st := ⟨k _ _ m.at_, k _ _ m.he⟩
structure CallOk (x : Str) (hs : List Int) (st : Int) : Prop where
  w : WordOk x
  few : hs.length ≤ 20
  lo : 0 ≤ st
  hi : st ≤ 120
section
variable {P : Program} {w : World} {K : PySem.W.Frag} {mg : Str → Option Value} {base : Heap}
end
end MG

set_option Elab.async false
set_option linter.all false
set_option maxRecDepth 100000
set_option maxHeartbeats 1000000
namespace MG
open PySem PySem.Spec PyProof.Rows L2
section
variable {P : Program} {w : World} {K : PySem.W.Frag} {mg : Str → Option Value} {base : Heap}
end
end MG

set_option Elab.async false
set_option linter.all false
set_option maxRecDepth 100000
set_option maxHeartbeats 1000000
namespace MG
open PySem PySem.Spec PyProof.Rows L2
section
variable {P : Program} {w : World} {K : PySem.W.Frag} {mg : Str → Option Value} {base : Heap}
/-! ### is_heard, is_strength, is_call: of any thing; checked_call: refused, or as due -/
def spHeardA (Ph : Addr) : Sp := fun vs H Q _ => ∃ v d, vs = [v] ∧ ThAt H v d ∧ H Ph = some (tabH Ph) ∧ ∀ H', Same H H' → Q (.bl (heardB d)) H'
theorem ok_is_heardA {f c Ph bm : Addr} {fd : FuncData} {ob : Obj} {t9 : Tok} (F : FunG K "is_heard" "is_heard" s_is_heard f fd c Ph) (b : ∀ x ∈ blts, mg x = none) (hB : BMod base mainGlobals mg bm ob) (g_MOST_HEARD : mg "MOST_HEARD" = some (.int 20 t9))
    (c_is_number : Cal P w K mg base "is_number" 5 ["thing"] spNumberA) : FnOk P w K mg base CX0 30 f fd ["thing"] (spHeardA Ph) := by
  refine F.ok sc_is_heard (fun vs H Q E h => ?_) (fun A outer s H vs Q E hr h => ?_)
  · obtain ⟨v, d, rfl, _⟩ := h; rfl
  · obtain ⟨v, d, rfl, hd, hp, q⟩ := h
    refine ⟨_, (pss_one (ps_ret (pe_and (pe_callB call_isi (by rfl) (b "isinstance" (by decide +kernel)) (by decide +kernel) (pa_cons (pv 0) (pa_cons (pe_bltn (v := .ty "list") (by rfl) (b "list" (by decide +kernel)) (by decide +kernel) rfl) pa_nil))) (pe_and (pe_cmpR op_le (pe_callB call_len_seq (by rfl) (b "len" (by decide +kernel)) (by decide +kernel) (pa_cons (pv 0) pa_nil)) (pe_glob (v := .int 20) (by rfl) g_MOST_HEARD ⟨_, rfl⟩) (nomark _)) (pe_one (pe_allG (N := ["one"]) rfl hr (by rfl) (b "all" (by decide +kernel)) rfl F.hd hB ⟨rfl, rfl, by decide +kernel, by decide +kernel, by decide +kernel, by decide +kernel⟩ (pi_list (pv 0)) (fun _ _ _ _ _ _ => (pg_name (i := 0) (show (["one"] : List Str).Nodup from by decide +kernel) rfl (by first | exact Or.inl rfl | exact Or.inr rfl))) (fun _ _ _ _ _ _ hr => (pe_cal c_is_number (hr.mono (by decide)) (by rfl) (pa_cons (pv 0) pa_nil))))))))), ?_⟩
    refine ⟨_, rfl, _, _, _, _, rfl, hd.tyOf, kit_lst _ d, _, rfl, ?_⟩
    cases d with
    | lst ds =>
      obtain ⟨l, us, rfl, hl, hv⟩ := hd.lstOf
      have len := hv.length
      refine iteT ⟨_, rfl, _, _, rfl, .inl (SqL.of hl), _, _, rfl, rfl, _, rfl, ?_⟩
      refine (show (if decide ((us.length : Int) ≤ 20) = true then _ else _) from ?_)
      have q : ∀ H', Same H H' → Q (.bl (decide (ds.length ≤ 20) && ds.all numB)) H' := q
      by_cases l2 : ds.length ≤ 20
      · have d1 : decide ((us.length : Int) ≤ 20) = true := decide_eq_true (by omega)
        rw [d1]
        refine iteT ?_
        rw [decide_eq_true l2] at q
        refine ⟨_, rfl, l, rfl, ⟨_, SqL.of hl⟩, hp, all_by (fun i H' => Same H H' ∧ ∀ j x, j < i → ds[j]? = some x → numB x = true) us.length ⟨Same.refl H, fun j x z => by omega⟩ (fun i H1 hi s1 => ?_) (fun H1 s1 => ⟨⟨_, SqL.of (s1.1 _ _ hl), Nat.le_refl _⟩, ?_⟩)⟩
        · obtain ⟨s1, hy⟩ := s1
          have e : us[i]? = some us[i] := List.getElem?_eq_getElem hi
          refine ⟨⟨_, _, SqL.of (s1 _ _ hl), e⟩, ?_⟩
          rintro y H2 ⟨rfl, hy2⟩
          have hy2 := hy2 _ (SqL.of (s1 _ _ hl))
          obtain ⟨dx, h1, h2⟩ := ths_at hv hy2
          refine ⟨_, rfl, y, dx, rfl, h2.same s1, _, rfl, ?_⟩
          cases z : numB dx with
          | true =>
            refine iteT ⟨s1, fun j x hj hx => ?_⟩
            rcases Nat.lt_or_ge j i with g | g
            · exact hy j x g hx
            · have : j = i := by omega
              subst this
              rw [h1] at hx; cases hx; exact z
          | false =>
            have q := q _ s1
            rw [all_first h1 z, Bool.and_false] at q
            exact iteF q
        · obtain ⟨s1, hy⟩ := s1
          have q := q _ s1
          rw [all_yes fun j x hx => hy j x (by have := (List.getElem?_eq_some_iff.mp hx).1; rw [hv.length]; exact this) hx] at q
          exact q
      · have d1 : decide ((us.length : Int) ≤ 20) = false := decide_eq_false (by omega)
        rw [d1]
        rw [decide_eq_false l2] at q
        exact iteF (q _ (Same.refl H))
    | _ => exact iteF (q _ (Same.refl H))
def spStrengthA : Sp := fun vs H Q _ => ∃ v d, vs = [v] ∧ ThAt H v d ∧ Q (.bl (strB d)) H
theorem ok_is_strengthA {f : Addr} {fd : FuncData} {t9 : Tok} (F : Fun K "is_strength" "is_strength" s_is_strength f fd) (b : ∀ x ∈ blts, mg x = none) (g_MOST_STRENGTH : mg "MOST_STRENGTH" = some (.int 120 t9)) (c_is_number : Cal P w K mg base "is_number" 5 ["thing"] spNumberA) : FnOk P w K mg base CX0 10 f fd ["thing"] spStrengthA := by
  refine F.ok sc_is_strength (fun vs H Q E h => ?_) (fun cdv A outer s H vs Q E hr h => ?_)
  · obtain ⟨v, d, rfl, _⟩ := h; rfl
  · obtain ⟨v, d, rfl, hd, q⟩ := h
    refine ⟨_, (pss_one (ps_ret (pe_and (pe_cal c_is_number (hr.mono (by decide)) (by rfl) (pa_cons (pv 0) pa_nil)) (pe_one (pe_chain op_le op_le pe_int (pv 0) (pe_glob (v := .int 120) (by rfl) g_MOST_STRENGTH ⟨_, rfl⟩)))))), ?_⟩
    refine ⟨_, rfl, v, d, rfl, hd, _, rfl, ?_⟩
    cases d with
    | int st =>
      cases hd
      refine iteT ?_
      have q : Q (.bl (decide (0 ≤ st) && decide (st ≤ 120))) H := q
      refine ⟨_, rfl, _, _, rfl, rfl, _, rfl, ?_⟩
      refine (show (if decide ((0 : Int) ≤ st) = true then _ else _) from ?_)
      by_cases lo : 0 ≤ st
      · rw [decide_eq_true lo] at q ⊢
        refine iteT ⟨_, _, rfl, rfl, ?_⟩
        exact q
      · rw [decide_eq_false lo] at q ⊢
        exact iteF q
    | _ => exact iteF q
def spCallA (Pw Ph : Addr) : Sp := fun vs H Q _ => ∃ v d, vs = [v] ∧ ThAt H v d ∧ H Pw = some (tabH Pw) ∧ H Ph = some (tabH Ph) ∧ ∀ H', Same H H' → Q (.bl (callB d)) H'
theorem ok_is_callA {f Pw Ph : Addr} {fd : FuncData} {t4 : Tok} (F : Fun K "is_call" "is_call" s_is_call f fd) (b : ∀ x ∈ blts, mg x = none) (g_CALL_PARTS : mg "CALL_PARTS" = some (.int 4 t4)) (c_is_word : Cal P w K mg base "is_word" 10 ["thing"] (spWordA Pw)) (c_is_number : Cal P w K mg base "is_number" 5 ["thing"] spNumberA)
    (c_is_heard : Cal P w K mg base "is_heard" 30 ["thing"] (spHeardA Ph)) (c_is_strength : Cal P w K mg base "is_strength" 10 ["thing"] spStrengthA) : FnOk P w K mg base CX0 40 f fd ["thing"] (spCallA Pw Ph) := by
  refine F.ok sc_is_call (fun vs H Q E h => ?_) (fun cdv A outer s H vs Q E hr h => ?_)
  · obtain ⟨v, d, rfl, _⟩ := h; rfl
  · obtain ⟨v, d, rfl, hd, hw, hp, q⟩ := h
    refine ⟨_, (pss_cons (ps_if (PW.pt (pw_or (pt_not (pt_val (pe_callB call_isi (by rfl) (b "isinstance" (by decide +kernel)) (by decide +kernel) (pa_cons (pv 0) (pa_cons (pe_bltn (v := .ty "tuple") (by rfl) (b "tuple" (by decide +kernel)) (by decide +kernel) rfl) pa_nil))))) (pw_or1 (pt_cmpR op_ne (pe_callB call_len_seq (by rfl) (b "len" (by decide +kernel)) (by decide +kernel) (pa_cons (pv 0) pa_nil)) (pe_glob (v := .int 4) (by rfl) g_CALL_PARTS ⟨_, rfl⟩) (nomark _))))) (pss_one (ps_ret pe_bl)) pss_nil) (pss_cons (ps_asg (pv 0) (pg_tup (by rfl) (pgs_cons (pg_name (i := 1) sc_is_call.nd rfl (by first | exact Or.inl rfl | exact Or.inr rfl)) (pgs_cons (pg_name (i := 2) sc_is_call.nd rfl (by first | exact Or.inl rfl | exact Or.inr rfl)) (pgs_cons (pg_name (i := 3) sc_is_call.nd rfl (by first | exact Or.inl rfl | exact Or.inr rfl)) (pgs_cons (pg_name (i := 4) sc_is_call.nd rfl (by first | exact Or.inl rfl | exact Or.inr rfl)) pgs_nil)))))) (pss_one (ps_ret (pe_and (pe_cal c_is_word (hr.mono (by decide)) (by rfl) (pa_cons (pv 1) pa_nil)) (pe_and (pe_cal c_is_number (hr.mono (by decide)) (by rfl) (pa_cons (pv 2) pa_nil)) (pe_and (pe_cal c_is_heard (hr.mono (by decide)) (by rfl) (pa_cons (pv 3) pa_nil)) (pe_one (pe_cal c_is_strength (hr.mono (by decide)) (by rfl) (pa_cons (pv 4) pa_nil)))))))))), ?_⟩
    refine ⟨_, rfl, _, _, _, _, rfl, hd.tyOf, kit_tup _ d, _, rfl, ?_⟩
    cases d with
    | tup ds =>
      obtain ⟨t, us, rfl, ht, hv⟩ := hd.tupOf
      have len := hv.length
      refine iteF ⟨_, rfl, _, _, rfl, .inr (SqT.of ht), rfl, _, rfl, ?_⟩
      refine (show (if (!decide (V.int ((us.length : Nat) : Int) = V.int 4)) = true then _ else _) from ?_)
      by_cases l4 : ds.length = 4
      · have e4 : us.length = 4 := by omega
        rw [show (!decide (V.int ((us.length : Nat) : Int) = V.int 4)) = false from by rw [e4]; decide]
        refine iteF ?_
        rcases ds with _ | ⟨d0, _ | ⟨d1, _ | ⟨d2, _ | ⟨d3, _ | ⟨d4, r⟩⟩⟩⟩⟩ <;> first | (simp at l4; done) | skip
        cases hv with
        | @cons v0 _ _ _ r0 hv =>
        cases hv with
        | @cons v1 _ _ _ r1 hv =>
        cases hv with
        | @cons v2 _ _ _ r2 hv =>
        cases hv with
        | @cons v3 _ _ _ r3 hv =>
        cases hv
        have q : ∀ H', Same H H' → Q (.bl (wordB d0 && (numB d1 && (heardB d2 && strB d3)))) H' := q
        refine ⟨_, rfl, t, _, rfl, SqT.of ht, rfl, _, _, rfl, _, _, rfl, _, _, rfl, _, _, rfl, rfl, ?_⟩
        refine ⟨_, rfl, v0, d0, rfl, r0, hw, _, rfl, ?_⟩
        cases z0 : wordB d0 with
        | false => rw [z0] at q; exact iteF (q _ (Same.refl H))
        | true =>
          rw [z0] at q
          refine iteT ⟨_, rfl, v1, d1, rfl, r1, _, rfl, ?_⟩
          cases z1 : numB d1 with
          | false => rw [z1] at q; exact iteF (q _ (Same.refl H))
          | true =>
            rw [z1] at q
            refine iteT ⟨_, rfl, v2, d2, rfl, r2, hp, fun H2 s2 => ⟨_, rfl, ?_⟩⟩
            cases z2 : heardB d2 with
            | false => rw [z2] at q; exact iteF (q _ s2)
            | true =>
              rw [z2] at q
              exact iteT ⟨_, rfl, v3, d3, rfl, r3.same s2, q _ s2⟩
      · rw [callB_len l4] at q
        rw [show (!decide (V.int ((us.length : Nat) : Int) = V.int 4)) = true from by
          rw [decide_eq_false (fun z => l4 (by injection z with z; omega))]; rfl]
        exact iteT (q _ (Same.refl H))
    | _ => exact iteT (q _ (Same.refl H))
def spCheckedA (Pw Ph CC : Addr) : Sp := fun vs H Q E => ∃ v d, vs = [v] ∧ ThAt H v d ∧ H Pw = some (tabH Pw) ∧ H Ph = some (tabH Ph) ∧ (callB d = false → ∀ H', Same H H' → E (.ref CC) none H') ∧
  (callB d = true → ∀ x z hs st, d = calTh x z hs st → CallOk x hs st → ∀ H' c' h', Same H H' → CallAt H' c' h' x z hs st → Q (.ref c') H')
theorem ok_checked_callA {f Pw Ph CC : Addr} {fd : FuncData} (F : Fun K "checked_call" "checked_call" s_checked_call f fd) (b : ∀ x ∈ blts, mg x = none) (x_BadCall : Exc K CC) (m_BadCall : mg "BadCall" = some (.ref CC)) (c_is_call : Cal P w K mg base "is_call" 40 ["thing"] (spCallA Pw Ph)) : FnOk P w K mg base (CXE P w) 50 f fd ["call"] (spCheckedA Pw Ph CC) := by
  refine F.okE sc_checked_call (fun vs H Q E h => ?_) (fun cdv A outer s H vs Q E hr h => ?_)
  · obtain ⟨v, d, rfl, _⟩ := h; rfl
  · obtain ⟨v, d, rfl, hd, hw, hp, q1, q2⟩ := h
    refine ⟨_, (pss_cons (ps_if (pt_not (pt_val (pe_cal c_is_call (hr.mono (by decide)) (by rfl) (pa_cons (pv 0) pa_nil)))) (pss_one (ps_raise fl_of rfl x_BadCall m_BadCall (by rfl) (pa_cons pe_str pa_nil))) pss_nil) (pss_cons (ps_asg (pv 0) (pg_tup (by rfl) (pgs_cons (pg_name (i := 1) sc_checked_call.nd rfl (by first | exact Or.inl rfl | exact Or.inr rfl)) (pgs_cons (pg_name (i := 2) sc_checked_call.nd rfl (by first | exact Or.inl rfl | exact Or.inr rfl)) (pgs_cons (pg_name (i := 3) sc_checked_call.nd rfl (by first | exact Or.inl rfl | exact Or.inr rfl)) (pgs_cons (pg_name (i := 4) sc_checked_call.nd rfl (by first | exact Or.inl rfl | exact Or.inr rfl)) pgs_nil)))))) (pss_one (ps_ret (pe_tup (pa_cons (pv 1) (pa_cons (pv 2) (pa_cons (pe_callTy call_list_of (by rfl) (b "list" (by decide +kernel)) (by decide +kernel) (pa_cons (pv 3) pa_nil)) (pa_cons (pv 4) pa_nil))))))))), ?_⟩
    refine ⟨_, rfl, v, d, rfl, hd, hw, hp, fun H2 s2 => ⟨_, rfl, ?_⟩⟩
    cases zz : callB d with
    | false => exact iteT ⟨by decide, q1 zz H2 s2⟩
    | true =>
      obtain ⟨c, h, x, z, hs, st, rfl, rfl, hc1, hc2, o1, o2, o3, o4⟩ := callB_at hd zz
      have q := q2 zz x z hs st rfl ⟨o1, o2, o3, o4⟩
      have hc1 := s2 _ _ hc1
      have hc2 := s2 _ _ hc2
      refine iteF ⟨_, rfl, c, _, rfl, SqT.of hc1, rfl, _, _, rfl, _, _, rfl, _, _, rfl, _, _, rfl, rfl, ?_⟩
      refine ⟨_, rfl, _, rfl, _, rfl, h, _, rfl, .inl (SqL.of hc2), fun l hl => ⟨_, rfl, by show 4 ≤ sizeLine; decide, fun p hp2 => ?_⟩⟩
      refine q _ p l (s2.trans ((same_upd hl).trans (same_upd hp2))) ⟨upd_same, ?_⟩
      exact (same_upd hp2) _ _ upd_same
end
end MG

set_option Elab.async false
set_option linter.all false
set_option maxRecDepth 100000
set_option maxHeartbeats 1000000
namespace MG
open PySem PySem.Spec PyProof.Rows L2
/-! ### what each method does to the data -/
def hearD (R : Rn) : Rn := match R.heard with
  | z :: r => { R with hand := z, heard := r }
  | [] => { R with fin := .deaf }
def usesD (es : List Ent) (R : Rn) (w : Str) : Rn := if w ∈ R.uses.map (·.1) then R else { R with uses := R.uses ++ [(w, (bodyOf es w).map (·.2))] }
def useD (es : List Ent) (R : Rn) (w : Str) : Rn := match bodyOf es w with
  | none => { usesD es R w with fin := .lost w }
  | some b => { usesD es R w with begun := R.begun ++ [b.2] }
/-- without the empty ones at the end -/
def trimR : List Body → List Body
  | [] => []
  | s :: r => match s with
    | [] => trimR r
    | _ :: _ => s :: r
def trimB (B : List Body) : List Body := (trimR B.reverse).reverse
def settleD (R : Rn) : Rn := if R.fin.vals.isEmpty = true then (if trimB R.begun = [] then { R with begun := [], fin := .done R.hand } else if R.str ≤ R.taken then { R with begun := trimB R.begun, fin := .spent } else { R with begun := trimB R.begun }) else R
def RunX (C : Addr) (H0 : FB) (H : Hp) (a : Addr) (es : List Ent) (R : Rn) : Prop := ∃ dx d ah sd en us bg bs kvs, DicAt H0.b d es ∧ RunAt C H0 H a dx d ah sd en us bg bs kvs R
theorem RunX.grow {C : Addr} {H0 : FB} {H H' : Hp} {a : Addr} {es : List Ent} {R : Rn} (h : RunX C H0 H a es R) (k : Same H H') : RunX C H0 H' a es R := let ⟨dx, d, ah, sd, en, us, bg, bs, kvs, hd, r⟩ := h; ⟨dx, d, ah, sd, en, us, bg, bs, kvs, hd, r.grow k⟩
structure TxR (K : PySem.W.Frag) (mg : Str → Option Value) (C : Addr) : Prop where
  cl : Cls K C
  n_bodies : NoAttr K C "bodies"
  n_in_hand : NoAttr K C "in_hand"
  n_heard : NoAttr K C "heard"
  n_strength : NoAttr K C "strength"
  n_taken : NoAttr K C "taken"
  n_said : NoAttr K C "said"
  n_ended : NoAttr K C "ended"
  n_uses : NoAttr K C "uses"
  n_begun : NoAttr K C "begun"
  mgC : mg "Runner" = some (.ref C)
structure Few (R : Rn) : Prop where
  said : R.said.length ≤ 1000
  begun : R.begun.length ≤ 1000
  uses : R.uses.length ≤ 1000
section
variable {P : Program} {w : World} {K : PySem.W.Frag} {mg : Str → Option Value} {base : Heap} {C : Addr}
def spHear (C : Addr) : Sp := fun vs H Q _ => ∃ a H0 es R, vs = [.ref a] ∧ RunX C H0 H a es R ∧ ∀ H', RunX C H0 H' a es (hearD R) → Q .non H'
theorem ok_Runner_hear {f : Addr} {fd : FuncData} (F : Fun K "hear" "Runner.hear" s_Runner_hear f fd) (T : TxR K mg C) : FnOk P w K mg base CX0 5 f fd ["self"] (spHear C) := by
  refine F.ok sc_Runner_hear (fun vs H Q E h => ?_) (fun cdv A outer s H vs Q E hr h => ?_)
  · obtain ⟨a, H0, es, R, rfl, _⟩ := h; rfl
  · obtain ⟨a, H0, es, R, rfl, ⟨dx, d, ah, sd, en, us, bg, bs, kvs, hd, r⟩, q⟩ := h
    refine ⟨_, (pss_one (ps_if (pt_truth (pe_fld (pv 0) rfl) (fun _ => rfl)) (pss_one (ps_fld (pv 0) (pe_bm PySem.F.plainAttrs_list PySem.F.slot_list_pop PySem.F.type_list_pop mt_popAt (pe_fld (pv 0) rfl) (pa_cons pe_int pa_nil)) rfl)) (pss_one (ps_fld (pv 0) (pe_tup (pa_cons pe_str pa_nil)) rfl)))), ?_⟩
    refine ⟨_, rfl, a, C, dx, _, _, rfl, r.ob, T.cl, T.n_heard, fl_heard .., _, .inl ⟨_, SqL.of r.he, rfl⟩, ?_⟩
    cases hh : R.heard with
    | nil =>
      refine iteF ⟨by show 1 ≤ sizeLine; decide, fun p hp => ?_⟩
      have g := r.grow (same_upd (o := .tup [.str "deaf"]) hp)
      refine ⟨_, rfl, a, C, dx, _, rfl, g.ob, T.cl, T.n_ended, by rw [fl_len]; decide, ?_⟩
      rw [pt_ended]
      refine q _ ⟨dx, d, ah, sd, p, us, bg, bs, kvs, hd, ?_⟩
      have e : hearD R = { R with fin := .deaf } := by unfold hearD; rw [hh]
      rw [e]
      exact g.field (en' := p) (R' := { R with fin := .deaf }) upd_same rfl rfl rfl rfl
    | cons z xs =>
      have he := r.he
      rw [hh] at he
      refine iteT ⟨_, rfl, a, C, dx, _, _, rfl, r.ob, T.cl, T.n_heard, fl_heard .., .inl ⟨rfl, _, SqL.of he⟩, ah, _, 0, 0, .int z, rfl, rfl, he, by decide, by decide, by simp [seqIndex?], rfl, ?_⟩
      have g := r.hear (xs := xs)
      refine ⟨_, rfl, a, C, dx, _, rfl, g.ob, T.cl, T.n_in_hand, by rw [fl_len]; decide, ?_⟩
      rw [pt_in_hand]
      refine q _ ⟨dx, d, ah, sd, en, us, bg, bs, kvs, hd, ?_⟩
      have e : hearD R = { R with hand := z, heard := xs } := by unfold hearD; rw [hh]
      rw [e]
      exact g.field (en' := en) (R' := { R with hand := z, heard := xs }) g.fi rfl rfl rfl rfl
def spUse (C : Addr) : Sp := fun vs H Q _ => ∃ a H0 es R x, vs = [.ref a, .str x] ∧ RunX C H0 H a es R ∧ (es.map (·.1)).Nodup ∧ Few R ∧ ∀ H', RunX C H0 H' a es (useD es R x) → Q .non H'
theorem uses_keys {H0 : Hp} : ∀ {kvs : List (Key × V)} {us : List (Str × Option Body)}, Paired (UseAt H0) kvs us → kvs.map (·.1) = (us.map (·.1)).map Sum.inr
  | _, _, .nil => rfl
  | _, _, .cons r t => by rw [List.map_cons, List.map_cons, List.map_cons, uses_keys t, r.1]
theorem ok_Runner_use {f : Addr} {fd : FuncData} (F : Fun K "use" "Runner.use" s_Runner_use f fd) (T : TxR K mg C) (b : ∀ x ∈ blts, mg x = none) : FnOk P w K mg base CX0 5 f fd ["self", "word"] (spUse C) := by
  refine F.ok sc_Runner_use (fun vs H Q E h => ?_) (fun cdv A outer s H vs Q E hr h => ?_)
  · obtain ⟨a, H0, es, R, x, rfl, _⟩ := h; rfl
  · obtain ⟨a, H0, es, R, x, rfl, ⟨dx, d, ah, sd, en, us, bg, bs, kvs, hd, r⟩, once, few, q⟩ := h
    refine ⟨_, (pss_cons (ps_set (i := 2) sc_Runner_use.nd rfl (by first | exact Or.inl rfl | exact Or.inr rfl) (pe_dget1 (hu_of hr) (pe_fld (pv 0) rfl) (pv 1) ⟨rfl, rfl, rfl, rfl⟩)) (pss_cons (ps_if (pt_cmp (pc_dnotin (hu_of hr) (pv 1) (pe_fld (pv 0) rfl)) (by rfl)) (pss_one (ps_dput (hu_of hr) (pe_fld (pv 0) rfl) (pv 1) (pv 2) (by rfl))) pss_nil) (pss_one (ps_if (pt_cmpR op_isN (pv 2) pe_non (nomark _)) (pss_one (ps_fld (pv 0) (pe_tup (pa_cons pe_str (pa_cons (pv 1) pa_nil))) rfl)) (pss_one (ps_expr (pe_bm PySem.F.plainAttrs_list PySem.F.slot_list_append PySem.F.type_list_append mt_append (pe_fld (pv 0) rfl) (pa_cons (pe_callTy call_list_of (by rfl) (b "list" (by decide +kernel)) (by decide +kernel) (pa_cons (pv 2) pa_nil)) pa_nil)))))))), ?_⟩
    obtain ⟨fs, hdd, efs, hbs⟩ := id hd
    have oncef : ((fs.map entP).map (·.1)).Nodup := by
      have e1 : (fs.map entP).map (·.1) = (fs.map entSB).map (·.1) := by rw [List.map_map, List.map_map]; rfl
      have e2 : es.map (·.1) = (es.map entSB).map (·.1) := by rw [List.map_map]; rfl
      rw [e1, efs, ← e2]; exact once
    have hval : valV (dOf (fs.map entP)) (Sum.inr x) = (bodyOf fs x).map fun b => V.ref b.1 := by
      unfold dOf
      rw [val_fold x _ _ oncef, findS_ent]
      cases bodyOf fs x <;> rfl
    have hbo := bodyOf_sb efs x
    have hdH := r.sameB _ _ hdd
    have lenb : bs.length = R.begun.length := r.bo.length
    have lenk : kvs.length = R.uses.length := r.uo.length
    refine ⟨_, rfl, a, C, dx, _, _, rfl, r.ob, T.cl, T.n_bodies, fl_bodies .., d, rfl, .inl ⟨_, .inl hdH⟩, _, rfl, _, DGet.k (k := Sum.inr x) hdH, ?_⟩
    rw [hval]
    refine ⟨_, rfl, _, rfl, a, C, dx, _, _, rfl, r.ob, T.cl, T.n_uses, fl_uses .., us, _, rfl, DGet.k (k := Sum.inr x) r.du, _, rfl, ?_⟩
    rw [val_isSome (uses_keys r.uo)]
    cases e : bodyOf fs x with
    | none =>
      have eb : bodyOf es x = none := by
        rw [e] at hbo
        cases e2 : bodyOf es x with
        | none => rfl
        | some b2 => rw [e2] at hbo; cases hbo
      have eD : useD es R x = { usesD es R x with fin := .lost x } := by unfold useD; rw [eb]
      have hu : UseAt H0.b (Sum.inr x, .non) (x, (bodyOf es x).map (·.2)) := by rw [eb]; exact ⟨rfl, rfl⟩
      by_cases hm : x ∈ R.uses.map (·.1)
      · rw [decide_eq_true hm]
        have eU : usesD es R x = R := if_pos hm
        rw [eU] at eD
        refine iteF ?_
        dsimp only [tNext]
        · refine ⟨_, rfl, rfl, _, rfl, iteT ⟨_, rfl, by show 2 ≤ sizeLine; decide, fun p hp => ?_⟩⟩
          have g := r.grow (same_upd (o := .tup [.str "lost", .str x]) hp)
          refine ⟨_, rfl, a, C, dx, _, rfl, g.ob, T.cl, T.n_ended, by rw [fl_len]; decide, ?_⟩
          rw [pt_ended]
          refine q _ ⟨dx, d, ah, sd, p, us, bg, bs, kvs, hd, ?_⟩
          rw [eD]
          exact g.field (en' := p) (R' := { R with fin := .lost x }) upd_same rfl rfl rfl rfl
      · rw [decide_eq_false hm]
        have eU : usesD es R x = { R with uses := R.uses ++ [(x, (bodyOf es x).map (·.2))] } := if_neg hm
        rw [eU] at eD
        have r2 := r.useD (w := x) (v := .non) (o := (bodyOf es x).map (·.2)) (by rw [val_isSome (uses_keys r.uo)]; exact decide_eq_false hm) hu
        refine iteT ⟨_, rfl, _, rfl, a, C, dx, _, _, rfl, r.ob, T.cl, T.n_uses, fl_uses .., _, rfl, us, _, rfl, DPut.k (k := Sum.inr x) r.du (by rw [lenk, sizeLine_eq]; have := few.uses; omega), ?_⟩
        · refine ⟨_, rfl, rfl, _, rfl, iteT ⟨_, rfl, by show 2 ≤ sizeLine; decide, fun p hp => ?_⟩⟩
          have g := r2.grow (same_upd (o := .tup [.str "lost", .str x]) hp)
          refine ⟨_, rfl, a, C, dx, _, rfl, g.ob, T.cl, T.n_ended, by rw [fl_len]; decide, ?_⟩
          rw [pt_ended]
          refine q _ ⟨dx, d, ah, sd, p, us, bg, bs, putK kvs (Sum.inr x) .non, hd, ?_⟩
          rw [eD]
          exact g.field (en' := p) (R' := { R with uses := R.uses ++ [(x, (bodyOf es x).map (fun b => b.2))], fin := .lost x }) upd_same rfl rfl rfl rfl
    | some b1 =>
      have eb : ∃ b2, bodyOf es x = some b2 ∧ b1.2 = b2.2 := by
        rw [e] at hbo
        cases e2 : bodyOf es x with
        | none => rw [e2] at hbo; cases hbo
        | some b2 => rw [e2] at hbo; exact ⟨b2, rfl, Option.some.inj hbo⟩
      obtain ⟨b2, eb, ebb⟩ := eb
      have hb1 := hbs _ (bodyOf_some e)
      have eD : useD es R x = { usesD es R x with begun := R.begun ++ [b1.2] } := by unfold useD; rw [eb, ebb]
      have hu : UseAt H0.b (Sum.inr x, .ref b1.1) (x, (bodyOf es x).map (·.2)) := by rw [eb]; exact ⟨rfl, b1.1, rfl, (show BodyAt H0.b b1.1 b2.2 by rw [← ebb]; exact hb1)⟩
      by_cases hm : x ∈ R.uses.map (·.1)
      · rw [decide_eq_true hm]
        have eU : usesD es R x = R := if_pos hm
        rw [eU] at eD
        refine iteF ?_
        dsimp only [tNext]
        · refine ⟨_, rfl, rfl, _, rfl, ?_⟩
          refine (show (if decide (V.ref b1.1 = V.non) = true then _ else _) from ?_)
          have dn : decide (V.ref b1.1 = V.non) = false := decide_eq_false (by intro z; cases z)
          rw [dn]
          obtain ⟨ws, hw, hst⟩ := hb1.same r.sameB
          refine iteF ⟨_, rfl, a, C, dx, _, _, rfl, r.ob, T.cl, T.n_begun, fl_begun .., .inl ⟨rfl, _, SqL.of r.be⟩, _, rfl, b1.1, ws, rfl, .inl (SqL.of hw), fun l hl => ?_⟩
          have g := r.begin hl hst
          rw [List.map_append] at g
          refine ⟨bg, _, _, rfl, rfl, (same_upd hl) _ _ r.be, ?_, ?_⟩
          · rw [List.length_map, lenb, sizeLine_eq]; have := few.begun; omega
          · refine q _ ⟨dx, d, ah, sd, en, us, bg, bs ++ [l], kvs, hd, ?_⟩
            rw [eD]
            exact g
      · rw [decide_eq_false hm]
        have eU : usesD es R x = { R with uses := R.uses ++ [(x, (bodyOf es x).map (·.2))] } := if_neg hm
        rw [eU] at eD
        have r2 := r.useD (w := x) (v := .ref b1.1) (o := (bodyOf es x).map (·.2)) (by rw [val_isSome (uses_keys r.uo)]; exact decide_eq_false hm) hu
        refine iteT ⟨_, rfl, _, rfl, a, C, dx, _, _, rfl, r.ob, T.cl, T.n_uses, fl_uses .., _, rfl, us, _, rfl, DPut.k (k := Sum.inr x) r.du (by rw [lenk, sizeLine_eq]; have := few.uses; omega), ?_⟩
        · refine ⟨_, rfl, rfl, _, rfl, ?_⟩
          refine (show (if decide (V.ref b1.1 = V.non) = true then _ else _) from ?_)
          have dn : decide (V.ref b1.1 = V.non) = false := decide_eq_false (by intro z; cases z)
          rw [dn]
          obtain ⟨ws, hw, hst⟩ := hb1.same r2.sameB
          refine iteF ⟨_, rfl, a, C, dx, _, _, rfl, r2.ob, T.cl, T.n_begun, fl_begun .., .inl ⟨rfl, _, SqL.of r2.be⟩, _, rfl, b1.1, ws, rfl, .inl (SqL.of hw), fun l hl => ?_⟩
          have g := r2.begin hl hst
          rw [List.map_append] at g
          refine ⟨bg, _, _, rfl, rfl, (same_upd hl) _ _ r2.be, ?_, ?_⟩
          · rw [List.length_map, lenb, sizeLine_eq]; have := few.begun; omega
          · refine q _ ⟨dx, d, ah, sd, en, us, bg, bs ++ [l], putK kvs (Sum.inr x) (.ref b1.1), hd, ?_⟩
            rw [eD]
            exact g
end
end MG

set_option Elab.async false
set_option linter.all false
set_option maxRecDepth 100000
set_option maxHeartbeats 1000000
namespace MG
open PySem PySem.Spec PyProof.Rows L2
theorem trim_empty (B : List Body) : trimB (B ++ [[]]) = trimB B := by unfold trimB; rw [List.reverse_append]; rfl
theorem trim_full (B : List Body) (s : Stp) (r : Body) : trimB (B ++ [s :: r]) = B ++ [s :: r] := by
  unfold trimB
  rw [List.reverse_append]
  show (trimR ((s :: r) :: B.reverse)).reverse = _
  show ((s :: r) :: B.reverse).reverse = _
  rw [List.reverse_cons, List.reverse_reverse]
theorem snoc_cases {α : Type} (l : List α) : l = [] ∨ ∃ l' x, l = l' ++ [x] := by
  cases h : l.reverse with
  | nil => exact .inl (List.reverse_eq_nil_iff.mp h)
  | cons x r =>
    refine .inr ⟨r.reverse, x, ?_⟩
    have := congrArg List.reverse h
    rwa [List.reverse_reverse, List.reverse_cons] at this
def lenL (H : Hp) (b : Addr) : Nat := match H b with
  | some (.lst xs) => xs.length
  | _ => 0
theorem lenL_of {H : Hp} {b : Addr} {xs : List V} (h : H b = some (.lst xs)) : lenL H b = xs.length := by unfold lenL; rw [h]
section
variable {P : Program} {w : World} {K : PySem.W.Frag} {mg : Str → Option Value} {base : Heap} {C : Addr}
def spSettle (C : Addr) : Sp := fun vs H Q _ => ∃ a H0 es R, vs = [.ref a] ∧ RunX C H0 H a es R ∧ Few R ∧ ∀ H', RunX C H0 H' a es (settleD R) → Q .non H'
theorem ok_Runner_settle {f : Addr} {fd : FuncData} (F : Fun K "settle" "Runner.settle" s_Runner_settle f fd) (T : TxR K mg C) : FnOk P w K mg base CX0 5 f fd ["self"] (spSettle C) := by
  refine F.ok sc_Runner_settle (fun vs H Q E h => ?_) (fun cdv A outer s H vs Q E hr h => ?_)
  · obtain ⟨a, H0, es, R, rfl, _⟩ := h; rfl
  · obtain ⟨a, H0, es, R, rfl, ⟨dx, d, ah, sd, en, us, bg, bs, kvs, hd, r⟩, few, q⟩ := h
    refine ⟨_, (pss_cons (ps_if (pt_truth (pe_fld (pv 0) rfl) (fun _ => rfl)) (pss_one ps_retN) pss_nil) (pss_cons (ps_while PassesOwn.never (PW.pt (pw_and (pt_truth (pe_fld (pv 0) rfl) (fun _ => rfl)) (pw_and1 (pt_not (pt_truth (pe_ix ix_list (pe_fld (pv 0) rfl) (pe_un un_neg pe_int) (fun _ _ => rfl)) (fun _ => rfl)))))) (pss_one (ps_expr (pe_bm0 PySem.F.plainAttrs_list PySem.F.slot_list_pop PySem.F.type_list_pop mt_pop (pe_fld (pv 0) rfl))))) (pss_one (ps_if (pt_not (pt_truth (pe_fld (pv 0) rfl) (fun _ => rfl))) (pss_one (ps_fld (pv 0) (pe_tup (pa_cons pe_str (pa_cons (pe_fld (pv 0) rfl) pa_nil))) rfl)) (pss_one (ps_if (pt_cmpR op_ge (pe_fld (pv 0) rfl) (pe_fld (pv 0) rfl) (nomark _)) (pss_one (ps_fld (pv 0) (pe_tup (pa_cons pe_str pa_nil)) rfl)) pss_nil)))))), ?_⟩
    refine ⟨_, rfl, a, C, dx, _, _, rfl, r.ob, T.cl, T.n_ended, fl_ended .., _, .inr (.inl ⟨_, SqT.of r.fi, rfl⟩), ?_⟩
    by_cases hf : R.fin.vals.isEmpty = true
    · rw [hf]
      refine iteF ?_
      dsimp only [tNext]
      refine while_by (fun σ Hc => ∃ bs' B, σ = [some (.ref a)] ∧ RunAt C H0 Hc a dx d ah sd en us bg bs' kvs { R with begun := B } ∧ trimB B = trimB R.begun) (fun _ Hc => lenL Hc bg) ⟨bs, R.begun, rfl, r, rfl⟩ ?_ ?_
      · rintro σ Hc ⟨bs', B, rfl, r', eB⟩
        refine ⟨_, rfl, a, C, dx, _, _, rfl, r'.ob, T.cl, T.n_begun, fl_begun .., _, .inl ⟨_, SqL.of r'.be, rfl⟩, ?_⟩
        have few' := few.begun
        rcases snoc_cases B with rfl | ⟨B', x, rfl⟩
        · -- nothing is left
          have eb : bs' = [] := by
            have := r'.bo.length
            exact List.eq_nil_of_length_eq_zero this
          subst eb
          refine iteF ⟨_, rfl, a, C, dx, _, _, rfl, r'.ob, T.cl, T.n_begun, fl_begun .., _, .inl ⟨_, SqL.of r'.be, rfl⟩, iteT ?_⟩
          refine ⟨_, rfl, a, C, dx, _, _, rfl, r'.ob, T.cl, T.n_in_hand, fl_in_hand .., by show 2 ≤ sizeLine; decide, fun p hp => ?_⟩
          have g := r'.grow (same_upd (o := .tup [.str "done", .int R.hand]) hp)
          refine ⟨_, rfl, a, C, dx, _, rfl, g.ob, T.cl, T.n_ended, by rw [fl_len]; decide, ?_⟩
          rw [pt_ended]
          refine q _ ⟨dx, d, ah, sd, p, us, bg, [], kvs, hd, ?_⟩
          have e : settleD R = { R with begun := [], fin := .done R.hand } := by
            have e9 : trimB R.begun = [] := eB.symm
            unfold settleD
            rw [if_pos hf, if_pos e9]
          rw [e]
          exact g.field (en' := p) (R' := { R with begun := [], fin := .done R.hand }) upd_same rfl rfl rfl rfl
        · obtain ⟨bs2, b, rfl, h1, h2⟩ := paired_snocR r'.bo
          have hlast : atI ((bs2 ++ [b]).map V.ref) (-1) = some (.ref b) := by rw [List.map_append]; exact atI_last _ _
          have hne : (!((bs2 ++ [b]).map V.ref).isEmpty) = true := by rw [List.map_append]; cases bs2 <;> rfl
          rw [hne]
          obtain ⟨ws, hw, hst⟩ := id h2
          refine iteT ⟨_, rfl, a, C, dx, _, _, rfl, r'.ob, T.cl, T.n_begun, fl_begun .., _, rfl, bg, _, _, _, rfl, rfl, SqL.of r'.be, hlast, _, .inl ⟨_, SqL.of hw, rfl⟩, ?_⟩
          cases hst with
          | nil =>
            -- an empty one is let go
            have g := r'.unbegin (b := b) rfl rfl
            refine iteT ⟨_, rfl, a, C, dx, _, _, rfl, r'.ob, T.cl, T.n_begun, fl_begun .., .inl ⟨rfl, _, SqL.of r'.be⟩, bg, _, .ref b, rfl, rfl, r'.be, ?_, ?_⟩
            · rw [List.map_append]; simp
            · have ed : ((bs2 ++ [b]).map V.ref).dropLast = bs2.map V.ref := by rw [List.map_append]; exact List.dropLast_concat
              rw [ed]
              refine ⟨⟨bs2, B', rfl, g, by rw [← eB, trim_empty]⟩, ?_⟩
              show lenL (upd Hc bg (.lst (bs2.map V.ref))) bg < lenL Hc bg
              rw [lenL_of upd_same, lenL_of r'.be, List.length_map, List.length_map, List.length_append]
              exact Nat.lt_succ_self _
          | @cons u st us' ss' r1 t1 =>
            refine iteF ⟨_, rfl, a, C, dx, _, _, rfl, r'.ob, T.cl, T.n_begun, fl_begun .., _, .inl ⟨_, SqL.of r'.be, rfl⟩, ?_⟩
            rw [hne]
            refine iteF ⟨_, rfl, a, C, dx, _, _, rfl, r'.ob, T.cl, T.n_taken, fl_taken .., _, rfl, a, C, dx, _, _, rfl, r'.ob, T.cl, T.n_strength, fl_strength .., _, _, rfl, rfl, _, rfl, ?_⟩
            have et := trim_full B' st ss'
            rw [et] at eB
            have ne : ¬ trimB R.begun = [] := by rw [← eB]; simp
            have e0 : settleD R = if R.str ≤ R.taken then { R with begun := B' ++ [st :: ss'], fin := .spent } else { R with begun := B' ++ [st :: ss'] } := by
              unfold settleD
              rw [if_pos hf, if_neg ne, ← eB]
            by_cases hs : R.str ≤ R.taken
            · rw [decide_eq_true hs]
              rw [if_pos hs] at e0
              refine iteT ⟨by show 1 ≤ sizeLine; decide, fun p hp => ?_⟩
              have g := r'.grow (same_upd (o := .tup [.str "spent"]) hp)
              refine ⟨_, rfl, a, C, dx, _, rfl, g.ob, T.cl, T.n_ended, by rw [fl_len]; decide, ?_⟩
              rw [pt_ended]
              refine q _ ⟨dx, d, ah, sd, p, us, bg, bs2 ++ [b], kvs, hd, ?_⟩
              rw [e0]
              exact g.field (en' := p) (R' := { R with begun := B' ++ [st :: ss'], fin := .spent }) upd_same rfl rfl rfl rfl
            · rw [decide_eq_false hs]
              rw [if_neg hs] at e0
              exact iteF (q _ ⟨dx, d, ah, sd, en, us, bg, bs2 ++ [b], kvs, hd, by rw [e0]; exact r'⟩)
      · rintro σ Hc Q1 Q2 k ⟨v1, h1, a1, C1, dx1, fs1, v2, h2, h3, h4, h5, h6, kk, h7, h8⟩
        refine ⟨v1, h1, a1, C1, dx1, fs1, v2, h2, h3, h4, h5, h6, kk, h7, ?_⟩
        revert h8
        cases kk with
        | false => exact fun h => k _ _ h
        | true =>
          rintro ⟨w1, g1, a2, C2, dx2, fs2, w2, g2, g3, g4, g5, g6, w3, g7, p1, xs, i1, y1, g8, g9, g10, g11, k2, g12, g13⟩
          exact ⟨w1, g1, a2, C2, dx2, fs2, w2, g2, g3, g4, g5, g6, w3, g7, p1, xs, i1, y1, g8, g9, g10, g11, k2, g12, k _ _ g13⟩
    · have h2 : R.fin.vals.isEmpty = false := by cases h : R.fin.vals.isEmpty with | true => exact absurd h hf | false => rfl
      have h1 : settleD R = R := by unfold settleD; rw [if_neg hf]
      rw [h2]
      exact iteT (q H (by rw [h1]; exact ⟨dx, d, ah, sd, en, us, bg, bs, kvs, hd, r⟩))
end
end MG

set_option Elab.async false
set_option linter.all false
set_option maxRecDepth 100000
set_option maxHeartbeats 1000000
namespace MG
open PySem PySem.Spec PyProof.Rows L2
/-- without the steps of the last one begun -/
def clearB (B : List Body) : List Body := B.dropLast ++ [[]]
def actD (es : List Ent) (R : Rn) : Stp → Rn
  | .say => { R with said := R.said ++ [R.hand] }
  | .hear => hearD R
  | .fin => { R with begun := clearB R.begun }
  | .plus n => { R with hand := R.hand + n }
  | .times n => { R with hand := R.hand * n }
  | .turn n => { R with hand := n - R.hand }
  | .ask w => useD es R w
  | .odd w => if R.hand % 2 = 1 then useD es R w else R
section
variable {P : Program} {w : World} {K : PySem.W.Frag} {mg : Str → Option Value} {base : Heap} {C : Addr}
def spAct (C : Addr) : Sp := fun vs H Q _ => ∃ a H0 es R v st, vs = [.ref a, v] ∧ RunX C H0 H a es R ∧ StepAt H v st ∧ st.ok ∧ (es.map (·.1)).Nodup ∧ Few R ∧ R.begun ≠ [] ∧ ∀ H', RunX C H0 H' a es (actD es R st) → Q .non H'
theorem ok_Runner_act {f : Addr} {fd : FuncData} (F : Fun K "act" "Runner.act" s_Runner_act f fd) (T : TxR K mg C) (c_Runner_hear : MCal P w K mg base C "hear" 5 ["self"] (spHear C)) (c_Runner_use : MCal P w K mg base C "use" 5 ["self", "word"] (spUse C)) : FnOk P w K mg base CX0 10 f fd ["self", "step"] (spAct C) := by
  refine F.ok sc_Runner_act (fun vs H Q E h => ?_) (fun cdv A outer s H vs Q E hr h => ?_)
  · obtain ⟨a, H0, es, R, v, st, rfl, _⟩ := h; rfl
  · obtain ⟨a, H0, es, R, v, st, rfl, rx, ⟨t, rfl, ht⟩, okst, once, few, bne, q⟩ := h
    obtain ⟨dx, d, ah, sd, en, us, bg, bs, kvs, hd, r⟩ := id rx
    refine ⟨_, (pss_cons (ps_set (i := 2) sc_Runner_act.nd rfl (by first | exact Or.inl rfl | exact Or.inr rfl) (pe_ix ix_tup (pv 1) pe_int (fun _ _ => rfl))) (pss_one (ps_if (pt_cmpR op_eq (pv 2) pe_str (nomark _)) (pss_one (ps_expr (pe_bm PySem.F.plainAttrs_list PySem.F.slot_list_append PySem.F.type_list_append mt_append (pe_fld (pv 0) rfl) (pa_cons (pe_fld (pv 0) rfl) pa_nil)))) (pss_one (ps_if (pt_cmpR op_eq (pv 2) pe_str (nomark _)) (pss_one (ps_expr (pe_mcal0 c_Runner_hear T.cl (pv 0) (hr.mono (by decide))))) (pss_one (ps_if (pt_cmpR op_eq (pv 2) pe_str (nomark _)) (pss_one (ps_expr (pe_bm0 PySem.F.plainAttrs_list PySem.F.slot_list_clear PySem.F.type_list_clear mt_clear (pe_ix ix_list (pe_fld (pv 0) rfl) (pe_un un_neg pe_int) (fun _ _ => rfl))))) (pss_one (ps_if (pt_cmpR op_eq (pv 2) pe_str (nomark _)) (pss_one (ps_fld (pv 0) (pe_op op_add (pe_fld (pv 0) rfl) (pe_ix ix_tup (pv 1) pe_int (fun _ _ => rfl))) rfl)) (pss_one (ps_if (pt_cmpR op_eq (pv 2) pe_str (nomark _)) (pss_one (ps_fld (pv 0) (pe_op op_mul (pe_fld (pv 0) rfl) (pe_ix ix_tup (pv 1) pe_int (fun _ _ => rfl))) rfl)) (pss_one (ps_if (pt_cmpR op_eq (pv 2) pe_str (nomark _)) (pss_one (ps_fld (pv 0) (pe_op op_sub (pe_ix ix_tup (pv 1) pe_int (fun _ _ => rfl)) (pe_fld (pv 0) rfl)) rfl)) (pss_one (ps_if (pt_cmpR op_eq (pv 2) pe_str (nomark _)) (pss_one (ps_expr (pe_mcal c_Runner_use T.cl (pv 0) (hr.mono (by decide)) (pa_cons (pe_ix ix_tup (pv 1) pe_int (fun _ _ => rfl)) pa_nil)))) (pss_one (ps_if (PW.pt (pw_and (pt_cmpR op_eq (pv 2) pe_str (nomark _)) (pw_and1 (pt_cmpR op_eq (pe_op op_mod (pe_fld (pv 0) rfl) pe_int) pe_int (nomark _))))) (pss_one (ps_expr (pe_mcal c_Runner_use T.cl (pv 0) (hr.mono (by decide)) (pa_cons (pe_ix ix_tup (pv 1) pe_int (fun _ _ => rfl)) pa_nil)))) pss_nil))))))))))))))))), ?_⟩
    have lens : R.said.length < sizeLine := by rw [sizeLine_eq]; have := few.said; omega
    have lenb : bs.length = R.begun.length := r.bo.length
    cases st with
    | say =>
      refine ⟨_, rfl, t, _, _, _, rfl, rfl, SqT.of ht, at_of (j := 0) rfl rfl, ?_⟩
      refine ⟨_, rfl, rfl, _, rfl, ?_⟩
      rw [show decide (V.str "say" = V.str "say") = true from by decide +kernel]
      refine iteT ⟨_, rfl, a, C, dx, _, _, rfl, r.ob, T.cl, T.n_said, fl_said .., .inl ⟨rfl, _, SqL.of r.sa⟩, _, rfl, a, C, dx, _, _, rfl, r.ob, T.cl, T.n_in_hand, fl_in_hand .., sd, _, _, rfl, rfl, r.sa, by rw [List.length_map]; exact lens, ?_⟩
      exact q _ ⟨dx, d, ah, sd, en, us, bg, bs, kvs, hd, r.say R.hand⟩
    | hear =>
      refine ⟨_, rfl, t, _, _, _, rfl, rfl, SqT.of ht, at_of (j := 0) rfl rfl, ?_⟩
      refine ⟨_, rfl, rfl, _, rfl, ?_⟩
      rw [show decide (V.str "hear" = V.str "say") = false from by decide +kernel]
      refine iteF ?_
      refine ⟨_, rfl, rfl, _, rfl, ?_⟩
      rw [show decide (V.str "hear" = V.str "hear") = true from by decide +kernel]
      exact iteT ⟨_, rfl, a, dx, _, rfl, r.ob, fl_no _ _ _ _ _ _ _ _ _ (by decide +kernel), a, H0, es, R, rfl, rx, q⟩
    | fin =>
      refine ⟨_, rfl, t, _, _, _, rfl, rfl, SqT.of ht, at_of (j := 0) rfl rfl, ?_⟩
      refine ⟨_, rfl, rfl, _, rfl, ?_⟩
      rw [show decide (V.str "end" = V.str "say") = false from by decide +kernel]
      refine iteF ?_
      refine ⟨_, rfl, rfl, _, rfl, ?_⟩
      rw [show decide (V.str "end" = V.str "hear") = false from by decide +kernel]
      refine iteF ?_
      refine ⟨_, rfl, rfl, _, rfl, ?_⟩
      rw [show decide (V.str "end" = V.str "end") = true from by decide +kernel]
      rcases snoc_cases R.begun with e0 | ⟨B, x, eB⟩
      · exact absurd e0 bne
      have hbo := r.bo
      rw [eB] at hbo
      obtain ⟨bs2, b, eb, h1, h2⟩ := paired_snocR hbo
      have hlast : atI (bs.map V.ref) (-1) = some (.ref b) := by rw [eb, List.map_append]; exact atI_last _ _
      obtain ⟨ws, hw, hst⟩ := id h2
      refine iteT ⟨_, rfl, a, C, dx, _, _, rfl, r.ob, T.cl, T.n_begun, fl_begun .., _, rfl, bg, _, _, _, rfl, rfl, SqL.of r.be, hlast, .inl ⟨rfl, _, SqL.of hw⟩, b, ws, rfl, rfl, hw, ?_⟩
      have g := r.last (ss := []) (ws := []) eb eB .nil
      refine q _ ⟨dx, d, ah, sd, en, us, bg, bs, kvs, hd, ?_⟩
      have e : actD es R .fin = { R with begun := B ++ [[]] } := by
        show { R with begun := clearB R.begun } = _
        unfold clearB
        rw [eB, List.dropLast_concat]
      rw [e]; exact g
    | plus n =>
      refine ⟨_, rfl, t, _, _, _, rfl, rfl, SqT.of ht, at_of (j := 0) rfl rfl, ?_⟩
      refine ⟨_, rfl, rfl, _, rfl, ?_⟩
      rw [show decide (V.str "plus" = V.str "say") = false from by decide +kernel]
      refine iteF ?_
      refine ⟨_, rfl, rfl, _, rfl, ?_⟩
      rw [show decide (V.str "plus" = V.str "hear") = false from by decide +kernel]
      refine iteF ?_
      refine ⟨_, rfl, rfl, _, rfl, ?_⟩
      rw [show decide (V.str "plus" = V.str "end") = false from by decide +kernel]
      refine iteF ?_
      refine ⟨_, rfl, rfl, _, rfl, ?_⟩
      rw [show decide (V.str "plus" = V.str "plus") = true from by decide +kernel]
      refine iteT ⟨_, rfl, a, C, dx, _, _, rfl, r.ob, T.cl, T.n_in_hand, fl_in_hand .., _, rfl, t, _, _, _, rfl, rfl, SqT.of ht, at_of (j := 1) rfl rfl, _, _, rfl, rfl, _, rfl, a, C, dx, _, rfl, r.ob, T.cl, T.n_in_hand, by rw [fl_len]; decide, ?_⟩
      rw [pt_in_hand]
      exact q _ ⟨dx, d, ah, sd, en, us, bg, bs, kvs, hd, r.field (en' := en) (R' := actD es R (.plus n)) r.fi rfl rfl rfl rfl⟩
    | times n =>
      refine ⟨_, rfl, t, _, _, _, rfl, rfl, SqT.of ht, at_of (j := 0) rfl rfl, ?_⟩
      refine ⟨_, rfl, rfl, _, rfl, ?_⟩
      rw [show decide (V.str "times" = V.str "say") = false from by decide +kernel]
      refine iteF ?_
      refine ⟨_, rfl, rfl, _, rfl, ?_⟩
      rw [show decide (V.str "times" = V.str "hear") = false from by decide +kernel]
      refine iteF ?_
      refine ⟨_, rfl, rfl, _, rfl, ?_⟩
      rw [show decide (V.str "times" = V.str "end") = false from by decide +kernel]
      refine iteF ?_
      refine ⟨_, rfl, rfl, _, rfl, ?_⟩
      rw [show decide (V.str "times" = V.str "plus") = false from by decide +kernel]
      refine iteF ?_
      refine ⟨_, rfl, rfl, _, rfl, ?_⟩
      rw [show decide (V.str "times" = V.str "times") = true from by decide +kernel]
      refine iteT ⟨_, rfl, a, C, dx, _, _, rfl, r.ob, T.cl, T.n_in_hand, fl_in_hand .., _, rfl, t, _, _, _, rfl, rfl, SqT.of ht, at_of (j := 1) rfl rfl, _, _, rfl, rfl, .inr ⟨by have := okst.1; omega, by have := okst.2; omega⟩, _, rfl, a, C, dx, _, rfl, r.ob, T.cl, T.n_in_hand, by rw [fl_len]; decide, ?_⟩
      rw [pt_in_hand]
      exact q _ ⟨dx, d, ah, sd, en, us, bg, bs, kvs, hd, r.field (en' := en) (R' := actD es R (.times n)) r.fi rfl rfl rfl rfl⟩
    | turn n =>
      refine ⟨_, rfl, t, _, _, _, rfl, rfl, SqT.of ht, at_of (j := 0) rfl rfl, ?_⟩
      refine ⟨_, rfl, rfl, _, rfl, ?_⟩
      rw [show decide (V.str "turn" = V.str "say") = false from by decide +kernel]
      refine iteF ?_
      refine ⟨_, rfl, rfl, _, rfl, ?_⟩
      rw [show decide (V.str "turn" = V.str "hear") = false from by decide +kernel]
      refine iteF ?_
      refine ⟨_, rfl, rfl, _, rfl, ?_⟩
      rw [show decide (V.str "turn" = V.str "end") = false from by decide +kernel]
      refine iteF ?_
      refine ⟨_, rfl, rfl, _, rfl, ?_⟩
      rw [show decide (V.str "turn" = V.str "plus") = false from by decide +kernel]
      refine iteF ?_
      refine ⟨_, rfl, rfl, _, rfl, ?_⟩
      rw [show decide (V.str "turn" = V.str "times") = false from by decide +kernel]
      refine iteF ?_
      refine ⟨_, rfl, rfl, _, rfl, ?_⟩
      rw [show decide (V.str "turn" = V.str "turn") = true from by decide +kernel]
      refine iteT ⟨_, rfl, t, _, _, _, rfl, rfl, SqT.of ht, at_of (j := 1) rfl rfl, _, rfl, a, C, dx, _, _, rfl, r.ob, T.cl, T.n_in_hand, fl_in_hand .., _, _, rfl, rfl, _, rfl, a, C, dx, _, rfl, r.ob, T.cl, T.n_in_hand, by rw [fl_len]; decide, ?_⟩
      rw [pt_in_hand]
      exact q _ ⟨dx, d, ah, sd, en, us, bg, bs, kvs, hd, r.field (en' := en) (R' := actD es R (.turn n)) r.fi rfl rfl rfl rfl⟩
    | ask x =>
      refine ⟨_, rfl, t, _, _, _, rfl, rfl, SqT.of ht, at_of (j := 0) rfl rfl, ?_⟩
      refine ⟨_, rfl, rfl, _, rfl, ?_⟩
      rw [show decide (V.str "ask" = V.str "say") = false from by decide +kernel]
      refine iteF ?_
      refine ⟨_, rfl, rfl, _, rfl, ?_⟩
      rw [show decide (V.str "ask" = V.str "hear") = false from by decide +kernel]
      refine iteF ?_
      refine ⟨_, rfl, rfl, _, rfl, ?_⟩
      rw [show decide (V.str "ask" = V.str "end") = false from by decide +kernel]
      refine iteF ?_
      refine ⟨_, rfl, rfl, _, rfl, ?_⟩
      rw [show decide (V.str "ask" = V.str "plus") = false from by decide +kernel]
      refine iteF ?_
      refine ⟨_, rfl, rfl, _, rfl, ?_⟩
      rw [show decide (V.str "ask" = V.str "times") = false from by decide +kernel]
      refine iteF ?_
      refine ⟨_, rfl, rfl, _, rfl, ?_⟩
      rw [show decide (V.str "ask" = V.str "turn") = false from by decide +kernel]
      refine iteF ?_
      refine ⟨_, rfl, rfl, _, rfl, ?_⟩
      rw [show decide (V.str "ask" = V.str "ask") = true from by decide +kernel]
      exact iteT ⟨_, rfl, a, dx, _, rfl, r.ob, fl_no _ _ _ _ _ _ _ _ _ (by decide +kernel), _, rfl, t, _, _, _, rfl, rfl, SqT.of ht, at_of (j := 1) rfl rfl, a, H0, es, R, x, rfl, rx, once, few, q⟩
    | odd x =>
      refine ⟨_, rfl, t, _, _, _, rfl, rfl, SqT.of ht, at_of (j := 0) rfl rfl, ?_⟩
      refine ⟨_, rfl, rfl, _, rfl, ?_⟩
      rw [show decide (V.str "odd" = V.str "say") = false from by decide +kernel]
      refine iteF ?_
      refine ⟨_, rfl, rfl, _, rfl, ?_⟩
      rw [show decide (V.str "odd" = V.str "hear") = false from by decide +kernel]
      refine iteF ?_
      refine ⟨_, rfl, rfl, _, rfl, ?_⟩
      rw [show decide (V.str "odd" = V.str "end") = false from by decide +kernel]
      refine iteF ?_
      refine ⟨_, rfl, rfl, _, rfl, ?_⟩
      rw [show decide (V.str "odd" = V.str "plus") = false from by decide +kernel]
      refine iteF ?_
      refine ⟨_, rfl, rfl, _, rfl, ?_⟩
      rw [show decide (V.str "odd" = V.str "times") = false from by decide +kernel]
      refine iteF ?_
      refine ⟨_, rfl, rfl, _, rfl, ?_⟩
      rw [show decide (V.str "odd" = V.str "turn") = false from by decide +kernel]
      refine iteF ?_
      refine ⟨_, rfl, rfl, _, rfl, ?_⟩
      rw [show decide (V.str "odd" = V.str "ask") = false from by decide +kernel]
      refine iteF ?_
      refine ⟨_, rfl, rfl, _, rfl, ?_⟩
      rw [show decide (V.str "odd" = V.str "odd") = true from by decide +kernel]
      refine iteT ⟨_, rfl, a, C, dx, _, _, rfl, r.ob, T.cl, T.n_in_hand, fl_in_hand .., _, _, rfl, rfl, (by decide : (0 : Int) < 2), rfl, _, rfl, ?_⟩
      by_cases h1 : R.hand % 2 = 1
      · rw [decide_eq_true (show V.int (R.hand % 2) = V.int 1 by rw [h1])]
        refine iteT ⟨_, rfl, a, dx, _, rfl, r.ob, fl_no _ _ _ _ _ _ _ _ _ (by decide +kernel), _, rfl, t, _, _, _, rfl, rfl, SqT.of ht, at_of (j := 1) rfl rfl, a, H0, es, R, x, rfl, rx, once, few, ?_⟩
        have e : actD es R (.odd x) = useD es R x := if_pos h1
        rw [e] at q; exact q
      · rw [decide_eq_false (fun z => h1 (V.int.inj z))]
        have e : actD es R (.odd x) = R := if_neg h1
        rw [e] at q
        exact iteF (q _ rx)
end
end MG

set_option Elab.async false
set_option linter.all false
set_option maxRecDepth 100000
set_option maxHeartbeats 1000000
namespace MG
open PySem PySem.Spec PyProof.Rows L2
/-- a step is taken: s the first of the last one begun -/
def takeD (es : List Ent) (R : Rn) (B : List Body) (s : Stp) (ss : Body) : Rn := settleD (actD es { R with begun := B ++ [ss], taken := R.taken + 1 } s)
theorem few_act {es : List Ent} {R : Rn} {s : Stp} (f : R.said.length < 1000 ∧ R.begun.length < 1000 ∧ R.uses.length < 1000) (bne : R.begun ≠ []) : Few (actD es R s) := by
  have u : ∀ w, Few (useD es R w) := fun w => by
    have u1 : (usesD es R w).said = R.said ∧ (usesD es R w).begun = R.begun ∧ (usesD es R w).uses.length ≤ R.uses.length + 1 := by
      unfold usesD
      by_cases h : w ∈ R.uses.map (·.1)
      · rw [if_pos h]; exact ⟨rfl, rfl, Nat.le_succ _⟩
      · rw [if_neg h]; exact ⟨rfl, rfl, by show (R.uses ++ [_]).length ≤ _; rw [List.length_append]; exact Nat.le_refl _⟩
    unfold useD
    cases bodyOf es w with
    | none => exact ⟨by show (usesD es R w).said.length ≤ _; rw [u1.1]; omega, by show (usesD es R w).begun.length ≤ _; rw [u1.2.1]; omega, by show (usesD es R w).uses.length ≤ _; omega⟩
    | some b => exact ⟨by show (usesD es R w).said.length ≤ _; rw [u1.1]; omega, by show (R.begun ++ [b.2]).length ≤ _; rw [List.length_append]; show _ + 1 ≤ _; omega, by show (usesD es R w).uses.length ≤ _; omega⟩
  have r0 : Few R := ⟨by omega, by omega, by omega⟩
  cases s with
  | say => exact ⟨by show (R.said ++ [R.hand]).length ≤ _; rw [List.length_append]; show _ + 1 ≤ _; omega, r0.begun, r0.uses⟩
  | hear =>
    show Few (hearD R)
    unfold hearD
    cases R.heard with
    | nil => exact ⟨r0.said, r0.begun, r0.uses⟩
    | cons z r => exact ⟨r0.said, r0.begun, r0.uses⟩
  | fin => exact ⟨r0.said, by show (clearB R.begun).length ≤ _; unfold clearB; rw [List.length_append, List.length_dropLast]; show _ + 1 ≤ _; omega, r0.uses⟩
  | plus n => exact ⟨r0.said, r0.begun, r0.uses⟩
  | times n => exact ⟨r0.said, r0.begun, r0.uses⟩
  | turn n => exact ⟨r0.said, r0.begun, r0.uses⟩
  | ask w => exact u w
  | odd w =>
    show Few (if R.hand % 2 = 1 then useD es R w else R)
    by_cases h : R.hand % 2 = 1
    · rw [if_pos h]; exact u w
    · rw [if_neg h]; exact r0
section
variable {P : Program} {w : World} {K : PySem.W.Frag} {mg : Str → Option Value} {base : Heap} {C : Addr}
def spTake (C : Addr) : Sp := fun vs H Q _ => ∃ a H0 es R B s ss, vs = [.ref a] ∧ RunX C H0 H a es R ∧ R.begun = B ++ [s :: ss] ∧ s.ok ∧ (es.map (·.1)).Nodup ∧ (R.said.length < 1000 ∧ R.begun.length < 1000 ∧ R.uses.length < 1000) ∧ ∀ p H', RunX C H0 H' a es (takeD es R B s ss) → H' p = none → Q (.ref p) (upd H' p (.lst (cutV ((takeD es R B s ss).said.map V.int) (some (R.said.length : Nat)) none)))
theorem ok_Runner_take_step {f : Addr} {fd : FuncData} (F : Fun K "take_step" "Runner.take_step" s_Runner_take_step f fd) (T : TxR K mg C) (b : ∀ x ∈ blts, mg x = none) (c_Runner_act : MCal P w K mg base C "act" 10 ["self", "step"] (spAct C)) (c_Runner_settle : MCal P w K mg base C "settle" 5 ["self"] (spSettle C)) : FnOk P w K mg base CX0 15 f fd ["self"] (spTake C) := by
  refine F.ok sc_Runner_take_step (fun vs H Q E h => ?_) (fun cdv A outer s H vs Q E hr h => ?_)
  · obtain ⟨a, H0, es, R, B, s, ss, rfl, _⟩ := h; rfl
  · obtain ⟨a, H0, es, R, B, sp, ss, rfl, rx, eB, oks, once, few, q⟩ := h
    obtain ⟨dx, d, ah, sd, en, us, bg, bs, kvs, hd, r⟩ := id rx
    refine ⟨_, (pss_cons (ps_set (i := 1) sc_Runner_take_step.nd rfl (by first | exact Or.inl rfl | exact Or.inr rfl) (pe_callB call_len_seq (by rfl) (b "len" (by decide +kernel)) (by decide +kernel) (pa_cons (pe_fld (pv 0) rfl) pa_nil))) (pss_cons (ps_set (i := 2) sc_Runner_take_step.nd rfl (by first | exact Or.inl rfl | exact Or.inr rfl) (pe_bm PySem.F.plainAttrs_list PySem.F.slot_list_pop PySem.F.type_list_pop mt_popAt (pe_ix ix_list (pe_fld (pv 0) rfl) (pe_un un_neg pe_int) (fun _ _ => rfl)) (pa_cons pe_int pa_nil))) (pss_cons (ps_fldaug (pv 0) pe_int in_add) (pss_cons (ps_expr (pe_mcal c_Runner_act T.cl (pv 0) (hr.mono (by decide)) (pa_cons (pv 2) pa_nil))) (pss_cons (ps_expr (pe_mcal0 c_Runner_settle T.cl (pv 0) (hr.mono (by decide)))) (pss_one (ps_ret (pe_slice sl_list (pe_fld (pv 0) rfl) (po_some (pv 1)) po_none)))))))), ?_⟩
    have hbo := r.bo
    rw [eB] at hbo
    obtain ⟨bs2, l, eb, h1, h2⟩ := paired_snocR hbo
    have hlast : atI (bs.map V.ref) (-1) = some (.ref l) := by rw [eb, List.map_append]; exact atI_last _ _
    obtain ⟨ws, hw, hst⟩ := id h2
    cases hst with
    | @cons u st us' ss' r1 t1 =>
    refine ⟨_, rfl, a, C, dx, _, _, rfl, r.ob, T.cl, T.n_said, fl_said .., sd, _, rfl, .inl (SqL.of r.sa), ?_⟩
    refine ⟨_, rfl, a, C, dx, _, _, rfl, r.ob, T.cl, T.n_begun, fl_begun .., _, rfl, bg, _, _, _, rfl, rfl, SqL.of r.be, hlast, .inl ⟨rfl, _, SqL.of hw⟩, l, _, 0, 0, u, rfl, rfl, hw, by decide, by decide, by simp [seqIndex?], rfl, ?_⟩
    have g := r.last (ss := ss) (ws := us') eb eB t1
    refine ⟨_, rfl, a, C, dx, _, _, rfl, g.ob, T.cl, T.n_taken, fl_taken .., _, _, rfl, rfl, dx, _, g.ob, by rw [fl_len]; decide, ?_⟩
    rw [pt_taken]
    have g2 := g.field (en' := en) (R' := { R with begun := B ++ [ss], taken := R.taken + 1 }) g.fi rfl rfl rfl rfl
    have f2 : (B ++ [ss]).length < 1000 := by
      have e : (B ++ [ss]).length = R.begun.length := by rw [eB, List.length_append, List.length_append]; rfl
      rw [e]; exact few.2.1
    have hu : StepAt (upd (upd H l (.lst us')) a (.ins C dx (flds d R.hand ah R.str (R.taken + 1) sd en us bg))) u sp := by
      obtain ⟨t, e, z⟩ := r1
      refine ⟨t, e, ?_⟩
      have n1 : t ≠ a := fun k => by rw [k, r.ob] at z; cases z
      have n2 : t ≠ l := fun k => by rw [k, hw] at z; cases z
      rw [upd_ne n1, upd_ne n2]; exact z
    refine ⟨_, rfl, a, dx, _, rfl, g2.ob, fl_no _ _ _ _ _ _ _ _ _ (by decide +kernel), _, rfl, a, H0, es, _, u, sp, rfl, ⟨dx, d, ah, sd, en, us, bg, bs, kvs, hd, g2⟩, hu, oks, once, ⟨Nat.le_of_lt few.1, Nat.le_of_lt f2, Nat.le_of_lt few.2.2⟩, by show B ++ [ss] ≠ []; simp, fun H3 rx3 => ?_⟩
    obtain ⟨dx3, d3, ah3, sd3, en3, us3, bg3, bs3, kvs3, hd3, r3⟩ := id rx3
    refine ⟨_, rfl, a, dx3, _, rfl, r3.ob, fl_no _ _ _ _ _ _ _ _ _ (by decide +kernel), a, H0, es, _, rfl, rx3, few_act ⟨few.1, f2, few.2.2⟩ (by show B ++ [ss] ≠ []; simp), fun H4 rx4 => ?_⟩
    obtain ⟨dx4, d4, ah4, sd4, en4, us4, bg4, bs4, kvs4, hd4, r4⟩ := id rx4
    refine ⟨_, rfl, a, C, dx4, _, _, rfl, r4.ob, T.cl, T.n_said, fl_said .., _, rfl, _, rfl, sd4, _, rfl, SqL.of r4.sa, fun p hp => ?_⟩
    have ql := q p H4 rx4 hp
    rw [← List.length_map (f := V.int) (as := R.said)] at ql
    exact ql
end
end MG

set_option Elab.async false
set_option linter.all false
set_option maxRecDepth 100000
set_option maxHeartbeats 1000000
namespace MG
open PySem PySem.Spec PyProof.Rows L2
def freshD (z : Int) (hs : List Int) (st : Int) : Rn := { hand := z, heard := hs, str := st, taken := 0, said := [], fin := .no, uses := [], begun := [] }
def startD (es : List Ent) (x : Str) (z : Int) (hs : List Int) (st : Int) : Rn := settleD (useD es (freshD z hs st) x)
theorem putF_few {f : Str} {y : V} : ∀ {fs : List (Str × V)} {n : Nat}, fs.length ≤ n → (putF f y fs).length ≤ n + 1
  | [], n, _ => Nat.succ_le_succ (Nat.zero_le n)
  | (k, v) :: r, n, h => by
    by_cases e : k = f
    · subst e; rw [pf_eq]; exact Nat.le_succ_of_le h
    · rw [pf_ne e]
      cases n with
      | zero => exact absurd h (Nat.not_succ_le_zero _)
      | succ n => exact Nat.succ_le_succ (putF_few (Nat.le_of_succ_le_succ h))
theorem few_use {es : List Ent} {R : Rn} {w : Str} (f1 : R.said.length < 1000) (f2 : R.begun.length < 1000) (f3 : R.uses.length < 1000) : Few (useD es R w) := by
  have u1 : (usesD es R w).said = R.said ∧ (usesD es R w).begun = R.begun ∧ (usesD es R w).uses.length ≤ R.uses.length + 1 := by
    unfold usesD
    by_cases h : w ∈ R.uses.map (·.1)
    · rw [if_pos h]; exact ⟨rfl, rfl, Nat.le_succ _⟩
    · rw [if_neg h]; exact ⟨rfl, rfl, by show (R.uses ++ [_]).length ≤ _; rw [List.length_append]; exact Nat.le_refl _⟩
  unfold useD
  cases bodyOf es w with
  | none => exact ⟨by show (usesD es R w).said.length ≤ _; rw [u1.1]; omega, by show (usesD es R w).begun.length ≤ _; rw [u1.2.1]; omega, by show (usesD es R w).uses.length ≤ _; omega⟩
  | some b => exact ⟨by show (usesD es R w).said.length ≤ _; rw [u1.1]; omega, by show (R.begun ++ [b.2]).length ≤ _; rw [List.length_append]; show _ + 1 ≤ _; omega, by show (usesD es R w).uses.length ≤ _; omega⟩
/-- what `__init__` has made so far -/
structure Mkg (C : Addr) (H0 H : Hp) (a dx : Addr) (fs : List (Str × V)) (L : List (Addr × HO)) : Prop where
  same : Same H0 H
  na : H0 a = none
  ob : H a = some (.ins C dx fs)
  all : ∀ e ∈ L, H e.1 = some e.2 ∧ e.1 ≠ a ∧ H0 e.1 = none
  nd : (L.map (·.1)).Nodup
theorem Mkg.alloc {C : Addr} {H0 H : Hp} {a dx p : Addr} {fs : List (Str × V)} {L : List (Addr × HO)} {o : HO} (m : Mkg C H0 H a dx fs L) (hp : H p = none) : Mkg C H0 (upd H p o) a dx fs ((p, o) :: L) := by
  have k := same_upd (o := o) hp
  refine ⟨m.same.trans k, m.na, k _ _ m.ob, fun e he => ?_, ?_⟩
  · rcases List.mem_cons.mp he with rfl | he
    · exact ⟨upd_same, fun z => (by rw [show p = a from z, m.ob] at hp; cases hp), m.same.free hp⟩
    · exact ⟨k _ _ (m.all e he).1, (m.all e he).2⟩
  · rw [List.map_cons, List.nodup_cons]
    refine ⟨fun z => ?_, m.nd⟩
    obtain ⟨e, he, e1⟩ := List.mem_map.mp z
    have := (m.all e he).1
    rw [e1, hp] at this; cases this
theorem Mkg.put {C : Addr} {H0 H : Hp} {a dx : Addr} {fs fs' : List (Str × V)} {L : List (Addr × HO)} (m : Mkg C H0 H a dx fs L) : Mkg C H0 (upd H a (.ins C dx fs')) a dx fs' L :=
  ⟨same_new m.same m.na, m.na, upd_same, fun e he => ⟨by rw [upd_ne (m.all e he).2.1]; exact (m.all e he).1, (m.all e he).2⟩, m.nd⟩
theorem Mkg.start {C : Addr} {H0 : Hp} {a dx : Addr} (na : H0 a = none) (nx : H0 dx = none) : Mkg C H0 (upd (upd H0 dx (.own a)) a (.ins C dx [])) a dx [] [] :=
  ⟨same_new (same_upd nx) na, na, upd_same, fun _ h => (by cases h), List.nodup_nil⟩
theorem Mkg.done {C : Addr} {H0 : FB} {H : Hp} {a dx d ah sd en us bg : Addr} {z st : Int} {hs : List Int} (m : Mkg C H0.f H a dx (flds d z ah st 0 sd en us bg) [(bg, .lst []), (us, .dK []), (en, .tup []), (sd, .lst []), (ah, .lst (hs.map V.int))]) :
    RunAt C H0 H a dx d ah sd en us bg [] [] (freshD z hs st) := by
  have n := m.nd
  simp only [List.map_cons, List.map_nil, List.nodup_cons, List.mem_cons, not_or] at n
  obtain ⟨⟨n1, n2, n3, n4, _⟩, ⟨n5, n6, n7, _⟩, ⟨n8, n9, _⟩, ⟨n10, _⟩, _⟩ := n
  have b1 := m.all (bg, .lst []) (by simp)
  have b2 := m.all (us, .dK []) (by simp)
  have b3 := m.all (en, .tup []) (by simp)
  have b4 := m.all (sd, .lst []) (by simp)
  have b5 := m.all (ah, .lst (hs.map V.int)) (by simp)
  refine ⟨m.same, m.ob, b5.1, b4.1, b3.1, b2.1, .nil, b1.1, .nil, ?_, fun u hu => ?_⟩
  · simp only [List.nodup_cons, List.mem_cons, not_or]
    exact ⟨⟨Ne.symm n10, Ne.symm n4, by simp⟩, ⟨Ne.symm n3, by simp⟩, by simp, List.nodup_nil⟩
  · simp only [List.mem_cons, List.not_mem_nil, or_false] at hu
    rcases hu with e | e | e | e | e
    · rw [e]; exact m.na
    · rw [e]; exact b2.2.2
    · rw [e]; exact b5.2.2
    · rw [e]; exact b4.2.2
    · rw [e]; exact b1.2.2
section
variable {P : Program} {w : World} {K : PySem.W.Frag} {mg : Str → Option Value} {base : Heap} {C : Addr}
def spInit (C : Addr) : Sp := fun vs H Q _ => ∃ a dx, ∃ H0 : FB, ∃ d c h es x z hs st, vs = [.ref a, .ref d, .ref c] ∧ H = upd (upd H0.f dx (.own a)) a (.ins C dx []) ∧ H0.f a = none ∧ H0.f dx = none ∧ dx ≠ a ∧ DicAt H0.b d es ∧ (es.map (·.1)).Nodup ∧ H0.f c = some (.tup [.str x, .int z, .ref h, .int st]) ∧ H0.f h = some (.lst (hs.map V.int)) ∧ ∀ H', RunX C H0 H' a es (startD es x z hs st) → Q .non H'
theorem ok_Runner_init {f : Addr} {fd : FuncData} (F : Fun K "__init__" "Runner.__init__" s_Runner_init f fd) (T : TxR K mg C) (b : ∀ x ∈ blts, mg x = none) (c_Runner_use : MCal P w K mg base C "use" 5 ["self", "word"] (spUse C)) (c_Runner_settle : MCal P w K mg base C "settle" 5 ["self"] (spSettle C)) : FnOk P w K mg base CX0 10 f fd ["self", "bodies", "call"] (spInit C) := by
  refine F.ok sc_Runner_init (fun vs H Q E h => ?_) (fun cdv A outer s H vs Q E hr h => ?_)
  · obtain ⟨a, dx, H0, d, c, h, es, x, z, hs, st, rfl, _⟩ := h; rfl
  · obtain ⟨a, dx, H0, d, c, h, es, x, z, hs, st, rfl, rfl, na, nx, nxa, hd, once, hc, hh, q⟩ := h
    refine ⟨_, (pss_cons (ps_asg (pv 2) (pg_tup (by rfl) (pgs_cons (pg_name (i := 3) sc_Runner_init.nd rfl (by first | exact Or.inl rfl | exact Or.inr rfl)) (pgs_cons (pg_name (i := 4) sc_Runner_init.nd rfl (by first | exact Or.inl rfl | exact Or.inr rfl)) (pgs_cons (pg_name (i := 5) sc_Runner_init.nd rfl (by first | exact Or.inl rfl | exact Or.inr rfl)) (pgs_cons (pg_name (i := 6) sc_Runner_init.nd rfl (by first | exact Or.inl rfl | exact Or.inr rfl)) pgs_nil)))))) (pss_cons (ps_fld (pv 0) (pv 1) rfl) (pss_cons (ps_fld (pv 0) (pv 4) rfl) (pss_cons (ps_fld (pv 0) (pe_callTy call_list_of (by rfl) (b "list" (by decide +kernel)) (by decide +kernel) (pa_cons (pv 5) pa_nil)) rfl) (pss_cons (ps_fld (pv 0) (pv 6) rfl) (pss_cons (ps_fld (pv 0) pe_int rfl) (pss_cons (ps_fld (pv 0) (pe_lst pa_nil) rfl) (pss_cons (ps_fld (pv 0) (pe_tup pa_nil) rfl) (pss_cons (ps_fld (pv 0) pe_dnewK rfl) (pss_cons (ps_fld (pv 0) (pe_lst pa_nil) rfl) (pss_cons (ps_expr (pe_mcal c_Runner_use T.cl (pv 0) (hr.mono (by decide)) (pa_cons (pv 3) pa_nil))) (pss_one (ps_expr (pe_mcal0 c_Runner_settle T.cl (pv 0) (hr.mono (by decide)))))))))))))))), ?_⟩
    have m0 := Mkg.start (C := C) na nx
    refine ⟨_, rfl, c, _, rfl, SqT.of (m0.same _ _ hc), rfl, _, _, rfl, _, _, rfl, _, _, rfl, _, _, rfl, rfl, ?_⟩
    refine ⟨_, rfl, _, rfl, a, C, dx, _, rfl, m0.ob, T.cl, T.n_bodies, by decide, ?_⟩
    have p1 := putF_few (f := "bodies") (y := V.ref d) (fs := []) (Nat.le_refl 0)
    have m1 := m0.put (fs' := putF "bodies" (V.ref d) [])
    refine ⟨_, rfl, _, rfl, a, C, dx, _, rfl, m1.ob, T.cl, T.n_in_hand, by omega, ?_⟩
    have p2 := putF_few (f := "in_hand") (y := V.int z) p1
    have m2 := m1.put (fs' := putF "in_hand" (V.int z) (putF "bodies" (V.ref d) []))
    refine ⟨_, rfl, h, _, rfl, .inl (SqL.of (m2.same _ _ hh)), fun ah hah => ?_⟩
    have n3 := m2.alloc (o := .lst (hs.map V.int)) hah
    refine ⟨_, rfl, a, C, dx, _, rfl, n3.ob, T.cl, T.n_heard, by omega, ?_⟩
    have p3 := putF_few (f := "heard") (y := V.ref ah) p2
    have m3 := n3.put (fs' := putF "heard" (V.ref ah) (putF "in_hand" (V.int z) (putF "bodies" (V.ref d) [])))
    refine ⟨_, rfl, _, rfl, a, C, dx, _, rfl, m3.ob, T.cl, T.n_strength, by omega, ?_⟩
    have p4 := putF_few (f := "strength") (y := V.int st) p3
    have m4 := m3.put (fs' := putF "strength" (V.int st) (putF "heard" (V.ref ah) (putF "in_hand" (V.int z) (putF "bodies" (V.ref d) []))))
    refine ⟨_, rfl, a, C, dx, _, rfl, m4.ob, T.cl, T.n_taken, by omega, ?_⟩
    have p5 := putF_few (f := "taken") (y := V.int 0) p4
    have m5 := m4.put (fs' := putF "taken" (V.int 0) (putF "strength" (V.int st) (putF "heard" (V.ref ah) (putF "in_hand" (V.int z) (putF "bodies" (V.ref d) [])))))
    refine ⟨by show 0 ≤ sizeLine; decide, fun sd hsd => ?_⟩
    have n6 := m5.alloc (o := .lst []) hsd
    refine ⟨_, rfl, a, C, dx, _, rfl, n6.ob, T.cl, T.n_said, by omega, ?_⟩
    have p6 := putF_few (f := "said") (y := V.ref sd) p5
    have m6 := n6.put (fs' := putF "said" (V.ref sd) (putF "taken" (V.int 0) (putF "strength" (V.int st) (putF "heard" (V.ref ah) (putF "in_hand" (V.int z) (putF "bodies" (V.ref d) []))))))
    refine ⟨by show 0 ≤ sizeLine; decide, fun en hen => ?_⟩
    have n7 := m6.alloc (o := .tup []) hen
    refine ⟨_, rfl, a, C, dx, _, rfl, n7.ob, T.cl, T.n_ended, by omega, ?_⟩
    have p7 := putF_few (f := "ended") (y := V.ref en) p6
    have m7 := n7.put (fs' := putF "ended" (V.ref en) (putF "said" (V.ref sd) (putF "taken" (V.int 0) (putF "strength" (V.int st) (putF "heard" (V.ref ah) (putF "in_hand" (V.int z) (putF "bodies" (V.ref d) [])))))))
    refine fun us hus => ?_
    have n8 := m7.alloc (o := .dK []) hus
    refine ⟨_, rfl, a, C, dx, _, rfl, n8.ob, T.cl, T.n_uses, by omega, ?_⟩
    have p8 := putF_few (f := "uses") (y := V.ref us) p7
    have m8 := n8.put (fs' := putF "uses" (V.ref us) (putF "ended" (V.ref en) (putF "said" (V.ref sd) (putF "taken" (V.int 0) (putF "strength" (V.int st) (putF "heard" (V.ref ah) (putF "in_hand" (V.int z) (putF "bodies" (V.ref d) []))))))))
    refine ⟨by show 0 ≤ sizeLine; decide, fun bg hbg => ?_⟩
    have n9 := m8.alloc (o := .lst []) hbg
    refine ⟨_, rfl, a, C, dx, _, rfl, n9.ob, T.cl, T.n_begun, by omega, ?_⟩
    have p9 := putF_few (f := "begun") (y := V.ref bg) p8
    have m9 := n9.put (fs' := putF "begun" (V.ref bg) (putF "uses" (V.ref us) (putF "ended" (V.ref en) (putF "said" (V.ref sd) (putF "taken" (V.int 0) (putF "strength" (V.int st) (putF "heard" (V.ref ah) (putF "in_hand" (V.int z) (putF "bodies" (V.ref d) [])))))))))
    have e := fl_made d z ah st 0 sd en us bg
    rw [e] at m9 ⊢
    have r := m9.done
    have few0 : Few (freshD z hs st) := ⟨by show 0 ≤ 1000; decide, by show 0 ≤ 1000; decide, by show 0 ≤ 1000; decide⟩
    have rx : RunX C H0 _ a es (freshD z hs st) := ⟨dx, d, ah, sd, en, us, bg, [], [], hd, r⟩
    refine ⟨_, rfl, a, dx, _, rfl, r.ob, fl_no _ _ _ _ _ _ _ _ _ (by decide +kernel), _, rfl, a, H0, es, _, x, rfl, rx, once, few0, fun H3 rx3 => ?_⟩
    obtain ⟨dx3, d3, ah3, sd3, en3, us3, bg3, bs3, kvs3, hd3, r3⟩ := id rx3
    exact ⟨_, rfl, a, dx3, _, rfl, r3.ob, fl_no _ _ _ _ _ _ _ _ _ (by decide +kernel), a, H0, es, _, rfl, rx3, few_use (by show 0 < 1000; decide) (by show 0 < 1000; decide) (by show 0 < 1000; decide), fun H4 rx4 => q _ rx4⟩
end
end MG

set_option Elab.async false
set_option linter.all false
set_option maxRecDepth 100000
set_option maxHeartbeats 1000000
namespace MG
open PySem PySem.Spec PyProof.Rows L2
/-! ### how a runner goes, data only -/
inductive Runs (es : List Ent) : Rn → Rn → Prop
  | stop {R : Rn} (h : R.fin.vals.isEmpty = false) : Runs es R R
  | step {R R' : Rn} {B : List Body} {s : Stp} {ss : Body} (h : R.fin.vals.isEmpty = true) (e : R.begun = B ++ [s :: ss]) (t : Runs es (takeD es R B s ss) R') : Runs es R R'
structure PreR (R : Rn) : Prop where
  top : R.str ≤ 120
  steps : ∀ b ∈ R.begun, ∀ s ∈ b, s.ok
  said : (R.said.length : Int) ≤ R.taken
  begun : (R.begun.length : Int) ≤ R.taken + 1
  uses : (R.uses.length : Int) ≤ R.taken + 1
  tk : R.taken ≤ 120
structure GoodR (R : Rn) : Prop extends PreR R where
  set : R.fin.vals.isEmpty = true → (∃ B s ss, R.begun = B ++ [s :: ss]) ∧ R.taken < R.str
theorem trimR_suf : ∀ l : List Body, ∃ T, l = T ++ trimR l
  | [] => ⟨[], rfl⟩
  | [] :: r => by
    obtain ⟨T, e⟩ := trimR_suf r
    refine ⟨[] :: T, ?_⟩
    show [] :: r = [] :: (T ++ trimR r)
    rw [← e]
  | (s :: ss) :: r => ⟨[], rfl⟩
theorem trimB_pre (B : List Body) : ∃ T, B = trimB B ++ T := by
  obtain ⟨T, e⟩ := trimR_suf B.reverse
  refine ⟨T.reverse, ?_⟩
  have := congrArg List.reverse e
  rw [List.reverse_reverse, List.reverse_append] at this
  exact this
theorem trimR_head : ∀ l : List Body, trimR l = [] ∨ ∃ s ss r, trimR l = (s :: ss) :: r
  | [] => .inl rfl
  | [] :: r => trimR_head r
  | (s :: ss) :: r => .inr ⟨s, ss, r, rfl⟩
theorem trimB_last (B : List Body) : trimB B = [] ∨ ∃ B' s ss, trimB B = B' ++ [s :: ss] := by
  unfold trimB
  rcases trimR_head B.reverse with e | ⟨s, ss, r, e⟩
  · rw [e]; exact .inl rfl
  · rw [e, List.reverse_cons]; exact .inr ⟨_, _, _, rfl⟩
theorem good_settle {R : Rn} (p : PreR R) : GoodR (settleD R) := by
  obtain ⟨T, eT⟩ := trimB_pre R.begun
  have ln : (trimB R.begun).length ≤ R.begun.length := by
    have := congrArg List.length eT
    rw [List.length_append] at this; omega
  have st : ∀ b ∈ trimB R.begun, ∀ s ∈ b, s.ok := fun b hb => p.steps b (by rw [eT]; exact List.mem_append_left _ hb)
  have pb := p.begun
  have hn : ∀ R' : Rn, PreR R' → R'.fin.vals.isEmpty = false → GoodR R' := fun R' q e => ⟨q, fun z => by rw [e] at z; cases z⟩
  unfold settleD
  by_cases hf : R.fin.vals.isEmpty = true
  · rw [if_pos hf]
    by_cases ht : trimB R.begun = []
    · rw [if_pos ht]
      exact hn _ ⟨p.top, fun b hb => (by cases hb), p.said, by show ((0 : Nat) : Int) ≤ R.taken + 1; have := p.said; omega, p.uses, p.tk⟩ rfl
    · rw [if_neg ht]
      have q : PreR { R with begun := trimB R.begun } := ⟨p.top, st, p.said, by show ((trimB R.begun).length : Int) ≤ R.taken + 1; omega, p.uses, p.tk⟩
      by_cases hs : R.str ≤ R.taken
      · rw [if_pos hs]
        exact hn _ ⟨q.top, q.steps, q.said, q.begun, q.uses, q.tk⟩ rfl
      · rw [if_neg hs]
        refine ⟨q, fun _ => ⟨?_, by show R.taken < R.str; omega⟩⟩
        rcases trimB_last R.begun with e | e
        · exact absurd e ht
        · exact e
  · rw [if_neg hf]
    exact hn _ p (by cases h : R.fin.vals.isEmpty with | true => exact absurd h hf | false => rfl)
theorem pre_use {es : List Ent} {R : Rn} {w : Str} (okE : ∀ e ∈ es, ∀ s ∈ e.2.2, s.ok) (p : PreR R) (b1 : (R.begun.length : Int) ≤ R.taken) (u1 : (R.uses.length : Int) ≤ R.taken) : PreR (useD es R w) := by
  have uu : ∃ U, usesD es R w = { R with uses := U } ∧ U.length ≤ R.uses.length + 1 := by
    unfold usesD
    by_cases h : w ∈ R.uses.map (·.1)
    · rw [if_pos h]; exact ⟨R.uses, rfl, Nat.le_succ _⟩
    · rw [if_neg h]; exact ⟨_, rfl, by rw [List.length_append]; exact Nat.le_refl _⟩
  obtain ⟨U, eU, lU⟩ := uu
  unfold useD
  rw [eU]
  cases e : bodyOf es w with
  | none => exact ⟨p.top, p.steps, p.said, p.begun, by show (U.length : Int) ≤ _; show (U.length : Int) ≤ R.taken + 1; omega, p.tk⟩
  | some b =>
    refine ⟨p.top, fun b' hb => ?_, p.said, ?_, by show (U.length : Int) ≤ R.taken + 1; omega, p.tk⟩
    · rcases List.mem_append.mp hb with hb | hb
      · exact p.steps b' hb
      · rw [List.mem_singleton.mp hb]; exact okE _ (bodyOf_some e)
    · show ((R.begun ++ [b.2]).length : Int) ≤ R.taken + 1
      rw [List.length_append]
      show ((R.begun.length + 1 : Nat) : Int) ≤ _
      omega
theorem pre_act {es : List Ent} {R : Rn} {s : Stp} (okE : ∀ e ∈ es, ∀ s ∈ e.2.2, s.ok) (p : PreR R) (s1 : (R.said.length : Int) + 1 ≤ R.taken) (b1 : (R.begun.length : Int) ≤ R.taken) (u1 : (R.uses.length : Int) ≤ R.taken) (bne : R.begun ≠ []) : PreR (actD es R s) := by
  cases s with
  | say => exact ⟨p.top, p.steps, by show ((R.said ++ [R.hand]).length : Int) ≤ R.taken; rw [List.length_append]; show ((R.said.length + 1 : Nat) : Int) ≤ _; omega, p.begun, p.uses, p.tk⟩
  | hear =>
    show PreR (hearD R)
    unfold hearD
    cases R.heard with
    | nil => exact ⟨p.top, p.steps, p.said, p.begun, p.uses, p.tk⟩
    | cons z r => exact ⟨p.top, p.steps, p.said, p.begun, p.uses, p.tk⟩
  | fin =>
    refine ⟨p.top, fun b hb => ?_, p.said, ?_, p.uses, p.tk⟩
    · rcases List.mem_append.mp (show b ∈ R.begun.dropLast ++ [[]] from hb) with hb | hb
      · exact p.steps b ((List.dropLast_sublist _).subset hb)
      · rw [List.mem_singleton.mp hb]; intro s hs; cases hs
    · show ((R.begun.dropLast ++ [[]]).length : Int) ≤ R.taken + 1
      rw [List.length_append, List.length_dropLast]
      show ((R.begun.length - 1 + 1 : Nat) : Int) ≤ _
      have : R.begun.length ≠ 0 := fun z => bne (List.eq_nil_of_length_eq_zero z)
      omega
  | plus n => exact ⟨p.top, p.steps, p.said, p.begun, p.uses, p.tk⟩
  | times n => exact ⟨p.top, p.steps, p.said, p.begun, p.uses, p.tk⟩
  | turn n => exact ⟨p.top, p.steps, p.said, p.begun, p.uses, p.tk⟩
  | ask w => exact pre_use okE p b1 u1
  | odd w =>
    show PreR (if R.hand % 2 = 1 then useD es R w else R)
    by_cases h : R.hand % 2 = 1
    · rw [if_pos h]; exact pre_use okE p b1 u1
    · rw [if_neg h]; exact p
theorem good_take {es : List Ent} {R : Rn} {B : List Body} {s : Stp} {ss : Body} (okE : ∀ e ∈ es, ∀ s ∈ e.2.2, s.ok) (g : GoodR R) (hf : R.fin.vals.isEmpty = true) (e : R.begun = B ++ [s :: ss]) : GoodR (takeD es R B s ss) := by
  have lt := (g.set hf).2
  have h1 := g.said; have h2 := g.begun; have h3 := g.uses; have h4 := g.top
  have l : (B ++ [ss]).length = R.begun.length := by rw [e, List.length_append, List.length_append]; rfl
  have p : PreR { R with begun := B ++ [ss], taken := R.taken + 1 } := by
    refine ⟨g.top, fun b hb => ?_, by show (R.said.length : Int) ≤ R.taken + 1; omega, by show ((B ++ [ss]).length : Int) ≤ R.taken + 1 + 1; rw [l]; omega, by show (R.uses.length : Int) ≤ R.taken + 1 + 1; omega, by show R.taken + 1 ≤ 120; omega⟩
    rcases List.mem_append.mp (show b ∈ B ++ [ss] from hb) with hb | hb
    · exact g.steps b (by rw [e]; exact List.mem_append_left _ hb)
    · rw [List.mem_singleton.mp hb]
      intro s' hs'
      exact g.steps (s :: ss) (by rw [e]; simp) s' (List.mem_cons_of_mem _ hs')
  exact good_settle (pre_act okE p (by show (R.said.length : Int) + 1 ≤ R.taken + 1; omega) (by show ((B ++ [ss]).length : Int) ≤ R.taken + 1; rw [l]; omega) (by show (R.uses.length : Int) ≤ R.taken + 1; omega) (by show B ++ [ss] ≠ []; simp))
theorem good_start {es : List Ent} {x : Str} {z : Int} {hs : List Int} {st : Int} (okE : ∀ e ∈ es, ∀ s ∈ e.2.2, s.ok) (hi : st ≤ 120) : GoodR (startD es x z hs st) := by
  refine good_settle (pre_use okE ⟨hi, fun b hb => (by cases hb), ?_, ?_, ?_, ?_⟩ ?_ ?_)
  · show ((0 : Nat) : Int) ≤ 0; decide
  · show ((0 : Nat) : Int) ≤ 0 + 1; decide
  · show ((0 : Nat) : Int) ≤ 0 + 1; decide
  · show (0 : Int) ≤ 120; decide
  · show ((0 : Nat) : Int) ≤ 0; decide
  · show ((0 : Nat) : Int) ≤ 0; decide
theorem settle_str (R : Rn) : (settleD R).str = R.str ∧ (settleD R).taken = R.taken := by
  unfold settleD
  by_cases h1 : R.fin.vals.isEmpty = true
  · rw [if_pos h1]
    by_cases h2 : trimB R.begun = []
    · rw [if_pos h2]; exact ⟨rfl, rfl⟩
    · rw [if_neg h2]
      by_cases h3 : R.str ≤ R.taken
      · rw [if_pos h3]; exact ⟨rfl, rfl⟩
      · rw [if_neg h3]; exact ⟨rfl, rfl⟩
  · rw [if_neg h1]; exact ⟨rfl, rfl⟩
theorem use_str (es : List Ent) (R : Rn) (w : Str) : (useD es R w).str = R.str ∧ (useD es R w).taken = R.taken := by
  have u : (usesD es R w).str = R.str ∧ (usesD es R w).taken = R.taken := by
    unfold usesD
    by_cases h : w ∈ R.uses.map (·.1)
    · rw [if_pos h]; exact ⟨rfl, rfl⟩
    · rw [if_neg h]; exact ⟨rfl, rfl⟩
  unfold useD
  cases bodyOf es w with
  | none => exact u
  | some b => exact u
theorem act_str (es : List Ent) (R : Rn) (s : Stp) : (actD es R s).str = R.str ∧ (actD es R s).taken = R.taken := by
  cases s with
  | hear =>
    show (hearD R).str = _ ∧ (hearD R).taken = _
    unfold hearD
    cases R.heard <;> exact ⟨rfl, rfl⟩
  | ask w => exact use_str es R w
  | odd w =>
    show (if R.hand % 2 = 1 then useD es R w else R).str = _ ∧ (if R.hand % 2 = 1 then useD es R w else R).taken = _
    by_cases h : R.hand % 2 = 1
    · rw [if_pos h]; exact use_str es R w
    · rw [if_neg h]; exact ⟨rfl, rfl⟩
  | say => exact ⟨rfl, rfl⟩
  | fin => exact ⟨rfl, rfl⟩
  | plus n => exact ⟨rfl, rfl⟩
  | times n => exact ⟨rfl, rfl⟩
  | turn n => exact ⟨rfl, rfl⟩
theorem take_str (es : List Ent) (R : Rn) (B : List Body) (s : Stp) (ss : Body) : (takeD es R B s ss).str = R.str ∧ (takeD es R B s ss).taken = R.taken + 1 := by
  unfold takeD
  have h1 := settle_str (actD es { R with begun := B ++ [ss], taken := R.taken + 1 } s)
  have h2 := act_str es { R with begun := B ++ [ss], taken := R.taken + 1 } s
  exact ⟨h1.1.trans h2.1, h1.2.trans h2.2⟩
end MG

set_option Elab.async false
set_option linter.all false
set_option maxRecDepth 100000
set_option maxHeartbeats 1000000
namespace MG
open PySem PySem.Spec PyProof.Rows L2
/-! ### a class's call, by its name -/
structure MkCal (P : Program) (w : World) (K : PySem.W.Frag) (mg : Str → Option Value) (base : Heap) (C : Addr) (k : Nat) (ps : List Str) (sp : Sp) : Prop where
  ex : ∃ f fd, Mk K C f ∧ FnOk P w K mg base CX0 k f fd ps sp ∧ Binds K fd ps []
section
variable {X : Cx} {C : Addr} {x : Str} {k : Nat} {ps : List Str} {sp : Sp} {p pos : Pos} {e : Expr} {es : List Expr} {t : TA}
theorem pe_mk (M : MkCal X.prog X.w X.K X.mg X.base C k ps sp) (hr : Room (k + 1) X.A) (hg : Gl X x) (hm : X.mg x = some (.ref C)) (ha : PA X (e :: es) t) (hdb : (x == ("__debug__" : Str)) = false := by decide +kernel)
    (he : starEach (e :: es) X.env = (false, eval e X.env) :: starEach es X.env := by rfl) (hpl : (backTo pos (starEach es X.env)).any (·.1) = false := by rfl) :
    PE X (.Call (.Name x p) (e :: es) [] pos) (tMake C sp [] E0 t) := by
  obtain ⟨f, fd, h1, h2, h3⟩ := M.ex
  exact pe_make h1 h2 hr hg hm h3 .nil pass0 ha hdb he hpl
end
end MG

set_option Elab.async false
set_option linter.all false
set_option maxRecDepth 100000
set_option maxHeartbeats 1000000
namespace MG
open PySem PySem.Spec PyProof.Rows L2
section
variable {P : Program} {w : World} {K : PySem.W.Frag} {mg : Str → Option Value} {base : Heap} {C : Addr}
structure RunIn (T : TB) (Ph : Addr) (H : Hp) (vs : List V) (es : List Ent) (x : Str) (z : Int) (hs : List Int) (st : Int) : Prop where
  ex : ∃ L c h, vs = [.ref L, .ref c] ∧ BookAt H L es ∧ CallAt H c h x z hs st
  book : BookOk es
  call : CallOk x hs st
  on : T.on H
  ph : H Ph = some (tabH Ph)
end
end MG

set_option Elab.async false
set_option linter.all false
set_option maxRecDepth 100000
set_option maxHeartbeats 1000000
namespace MG
open PySem PySem.Spec PyProof.Rows L2
section
variable {P : Program} {w : World} {K : PySem.W.Frag} {mg : Str → Option Value} {base : Heap} {C : Addr}
end
end MG

set_option Elab.async false
set_option linter.all false
set_option maxRecDepth 100000
set_option maxHeartbeats 1000000
namespace MG
open PySem PySem.Spec PyProof.Rows L2
section
variable {P : Program} {w : World} {K : PySem.W.Frag} {mg : Str → Option Value} {base : Heap} {C : Addr}
def spTold (C : Addr) : Sp := fun vs H Q _ => ∃ a H0 es R, vs = [.ref a] ∧ RunX C H0 H a es R ∧ R.uses.length ≤ 1000 ∧ ∀ H' D cs, Same H H' → BuiltC H D H' cs → cs.map chaSB = R.uses → Q (.ref D) H'
theorem ok_Runner_told_uses {f : Addr} {fd : FuncData} (F : Fun K "told_uses" "Runner.told_uses" s_Runner_told_uses f fd) (T : TxR K mg C) (b : ∀ x ∈ blts, mg x = none) (c_copied : Cal P w K mg base "copied" 10 ["pairs"] spCopied) : FnOk P w K mg base CX0 15 f fd ["self"] (spTold C) := by
  refine F.ok sc_Runner_told_uses (fun vs H Q E h => ?_) (fun cdv A outer s H vs Q E hr h => ?_)
  · obtain ⟨a, H0, es, R, rfl, _⟩ := h; rfl
  · obtain ⟨a, H0, es, R, rfl, ⟨dx, d, ah, sd, en, us, bg, bs, kvs, hd, r⟩, few, q⟩ := h
    refine ⟨_, (pss_one (ps_ret (pe_cal c_copied (hr.mono (by decide)) (by rfl) (pa_cons (pe_callTy (call_list_items rfl) (by rfl) (b "list" (by decide +kernel)) (by decide +kernel) (pa_cons (pe_items (pe_fld (pv 0) rfl)) pa_nil)) pa_nil)))), ?_⟩
    obtain ⟨cs0, ecs, pcs⟩ := uses_cha r.uo
    have lenk : kvs.length = R.uses.length := r.uo.length
    refine ⟨_, rfl, a, C, dx, _, _, rfl, r.ob, T.cl, T.n_uses, fl_uses .., us, kvs, rfl, r.du, fun v hv => ?_⟩
    have s1 := same_upd (o := itemsH v us) hv
    refine ⟨v, us, kvs, rfl, upd_same, s1 _ _ r.du, by omega, fun H2 l ts s2 hl h2 hts => ?_⟩
    have s12 := s1.trans s2
    have lc : cs0.length = R.uses.length := by rw [← ecs, List.length_map]
    refine ⟨l, cs0, rfl, ⟨_, h2, paired_refs (fun t c ⟨h3, h4⟩ => ⟨t, rfl, h3, h4⟩) (paired_comp (T := fun t c => H2 t = some (.tup [.str c.1, chaV c.2]) ∧ ∀ b ss, c.2 = some (b, ss) → BodyAt H2 b ss) (fun t kv c h3 h4 => ?_) hts pcs)⟩, by omega, fun H3 D cs hB e => ?_⟩
    · obtain ⟨e1, e2⟩ := h4
      subst e1
      exact ⟨h3, fun b ss z => (e2 b ss z).same (r.sameB.trans s12)⟩
    · refine q H3 D cs (s12.trans hB.same) (hB.weaken s12) (by rw [e, ecs])
end
end MG

set_option Elab.async false
set_option linter.all false
set_option maxRecDepth 100000
set_option maxHeartbeats 1000000
namespace MG
open PySem PySem.Spec PyProof.Rows L2
section
variable {P : Program} {w : World} {K : PySem.W.Frag} {mg : Str → Option Value} {base : Heap} {C : Addr}
end
end MG

set_option Elab.async false
set_option linter.all false
set_option maxRecDepth 100000
set_option maxHeartbeats 1000000
namespace MG
open PySem PySem.Spec PyProof.Rows L2
section
variable {P : Program} {w : World} {K : PySem.W.Frag} {mg : Str → Option Value} {base : Heap} {C : Addr}
/-! ### plain_run, run, used, steps_of: refused, or as due -/
structure RunA (T : TB) (Ph CB CC : Addr) (H : Hp) (E : XK) (vs : List V) (d e : Th) : Prop where
  ex : ∃ v u, vs = [v, u] ∧ ThAt H v d ∧ ThAt H u e
  few : fewB d
  on : T.on H
  ph : H Ph = some (tabH Ph)
  bad1 : bookB d = false → ∀ H', Same H H' → E (.ref CB) none H'
  bad2 : bookB d = true → callB e = false → ∀ H', Same H H' → E (.ref CC) none H'
def spPlainR (C : Addr) (T : TB) (Ph CB CC : Addr) : Sp := fun vs H Q E => ∃ d e, RunA T Ph CB CC H E vs d e ∧ (bookB d = true → callB e = true → ∀ es x z hs st, d = .lst (es.map enTh) → e = calTh x z hs st → BookOk es → CallOk x hs st →
  ∀ (H0 : FB) H' a R, Same H H0.b → RunX C H0 H' a es R → Runs es (startD es x z hs st) R → GoodR R → Q (.ref a) H')
theorem ok_plain_runR {f Ph CB CC : Addr} {fd : FuncData} {Tb : TB} (F : Fun K "plain_run" "plain_run" s_plain_run f fd) (T : TxR K mg C) (c_need_book : CalE P w K mg base "need_book" 60 ["book"] (spNeedBookA Tb CB)) (c_bodies_of : Cal P w K mg base "bodies_of" 10 ["book"] spBodiesOf)
    (c_checked_call : CalE P w K mg base "checked_call" 50 ["call"] (spCheckedA Tb.w Ph CC)) (c_Runner_init : MkCal P w K mg base C 10 ["self", "bodies", "call"] (spInit C)) (c_Runner_take_step : MCal P w K mg base C "take_step" 15 ["self"] (spTake C)) :
    FnOk P w K mg base (CXE P w) 70 f fd ["book", "call"] (spPlainR C Tb Ph CB CC) := by
  refine F.okE sc_plain_run (fun vs H Q E h => ?_) (fun cdv A outer s H vs Q E hr h => ?_)
  · obtain ⟨d, e, i, _⟩ := h; obtain ⟨v, u, rfl, _⟩ := i.ex; rfl
  · obtain ⟨d, e, i, q⟩ := h
    obtain ⟨v, u, rfl, hv, hu⟩ := i.ex
    have hT := i.on
    refine ⟨_, (pss_cons (ps_expr (pe_calE c_need_book (passE fl_of) (hr.mono (by decide)) (by rfl) (pa_cons (pv 0) pa_nil))) (pss_cons (ps_set (i := 2) sc_plain_run.nd rfl (by first | exact Or.inl rfl | exact Or.inr rfl) (pe_mk c_Runner_init (hr.mono (by decide)) (by rfl) T.mgC (pa_cons (pe_cal c_bodies_of (hr.mono (by decide)) (by rfl) (pa_cons (pv 0) pa_nil)) (pa_cons (pe_calE c_checked_call (passE fl_of) (hr.mono (by decide)) (by rfl) (pa_cons (pv 1) pa_nil)) pa_nil)))) (pss_cons (ps_nox (ps_while PassesOwn.never (pt_not (pt_truth (pe_fld (pv 2) rfl) (fun _ => rfl))) (pss_one (ps_expr (pe_mcal0 c_Runner_take_step T.cl (pv 2) (hr.mono (by decide))))))) (pss_one (ps_ret (pv 2)))))), ?_⟩
    refine ⟨_, rfl, v, d, rfl, hv, i.few, hT, fun good H1 s1 => ?_, i.bad1⟩
    obtain ⟨L, es, rfl, rfl, hL, okB⟩ := bookAt_of hv good i.few
    refine ⟨_, rfl, L, es, rfl, hL.same s1, okB.few, fun H2 d s2 _ hd => ?_⟩
    have s12 := s1.trans s2
    refine ⟨_, rfl, u, e, rfl, hu.same s12, s12 _ _ hT.1, s12 _ _ i.ph, fun z H3 s3 => i.bad2 good z H3 (s12.trans s3), fun goodc x z hs st ee okC H3 c' h' s3 hc3 => ?_⟩
    have q := q good goodc es x z hs st rfl ee okB okC
    obtain ⟨c, _, _, _, _, _, rfl, _⟩ := callB_at hu goodc
    intro a dx na nx nxa
    have once := okB.once
    have okE : ∀ e ∈ es, ∀ s ∈ e.2.2, s.ok := fun e he => (okB.each e he).2.2
    refine ⟨a, dx, FB.one H3, d, c', h', es, x, z, hs, st, rfl, rfl, na, nx, nxa, hd.same s3, once, hc3.at_, hc3.he, fun H4 rx => ⟨rfl, ?_⟩⟩
    have g0 : GoodR (startD es x z hs st) := good_start okE okC.hi
    have s123 := s12.trans s3
    dsimp only [tNext, tSeq]
    refine ⟨fun m σ Hc => ∃ R, σ = [some (.ref L), some (.ref c), some (.ref a)] ∧ RunX C (FB.one H3) Hc a es R ∧ GoodR R ∧ (∀ Rf, Runs es R Rf → Runs es (startD es x z hs st) Rf) ∧ m = (R.str - R.taken).toNat, ⟨_, startD es x z hs st, rfl, rx, g0, fun _ k => k, rfl⟩, ?_⟩
    rintro m σ Hc ⟨R, rfl, rxc, g, back, rfl⟩
    obtain ⟨dx3, d3, ah3, sd3, en3, us3, bg3, bs3, kvs3, hd3, r3⟩ := id rxc
    refine ⟨_, rfl, a, C, dx3, _, _, rfl, r3.ob, T.cl, T.n_ended, fl_ended .., _, .inr (.inl ⟨_, SqT.of r3.fi, rfl⟩), ?_⟩
    cases hf : R.fin.vals.isEmpty with
    | true =>
      obtain ⟨⟨B, s, ss, eB⟩, lt⟩ := g.set hf
      refine iteT ⟨fun σ' H' => ∃ R', σ' = [some (.ref L), some (.ref c), some (.ref a)] ∧ RunX C (FB.one H3) H' a es R' ∧ GoodR R' ∧ (∀ Rf, Runs es R' Rf → Runs es (startD es x z hs st) Rf) ∧ R'.str = R.str ∧ R'.taken = R.taken + 1, ?_, ?_⟩
      · rintro σ' H' ⟨R', rfl, h1, h2, h3, h4, h5⟩
        exact ⟨_, by rw [h4, h5]; omega, R', rfl, h1, h2, h3, rfl⟩
      · have k1 := g.said; have k2 := g.begun; have k3 := g.uses; have k4 := g.tk
        refine ⟨_, rfl, a, dx3, _, rfl, r3.ob, fl_no _ _ _ _ _ _ _ _ _ (by decide +kernel), a, FB.one H3, es, R, B, s, ss, rfl, rxc, eB, g.steps (s :: ss) (by rw [eB]; simp) s (List.mem_cons_self ..), once, ⟨by omega, by omega, by omega⟩, fun p5 H5 rx5 hp5 => ?_⟩
        have ts := take_str es R B s ss
        exact ⟨_, rfl, rx5.grow (same_upd hp5), good_take okE g hf eB, fun Rf k => back Rf (.step hf eB k), ts.1, ts.2⟩
    | false =>
      refine iteF ⟨_, rfl, q (FB.one H3) Hc a R s123 rxc (back R (.stop hf)) g⟩
def spRunR (T : TB) (Ph CB CC : Addr) : Sp := fun vs H Q E => ∃ d e, RunA T Ph CB CC H E vs d e ∧ (bookB d = true → callB e = true → ∀ es x z hs st, d = .lst (es.map enTh) → e = calTh x z hs st → BookOk es → CallOk x hs st →
  ∀ H' p l en R, Same H H' → H' p = some (.tup [.ref l, .ref en]) → H' l = some (.lst (R.said.map V.int)) → H' en = some (.tup R.fin.vals) → Runs es (startD es x z hs st) R → GoodR R → Q (.ref p) H')
theorem ok_runR {f Ph CB CC : Addr} {fd : FuncData} {Tb : TB} (F : Fun K "run" "run" s_run f fd) (T : TxR K mg C) (b : ∀ x ∈ blts, mg x = none) (c_plain_run : CalE P w K mg base "plain_run" 70 ["book", "call"] (spPlainR C Tb Ph CB CC)) : FnOk P w K mg base (CXE P w) 75 f fd ["book", "call"] (spRunR Tb Ph CB CC) := by
  refine F.okE sc_run (fun vs H Q E h => ?_) (fun cdv A outer s H vs Q E hr h => ?_)
  · obtain ⟨d, e, i, _⟩ := h; obtain ⟨v, u, rfl, _⟩ := i.ex; rfl
  · obtain ⟨d, e, i, q⟩ := h
    obtain ⟨v, u, rfl, _⟩ := id i.ex
    refine ⟨_, (pss_cons (ps_set (i := 2) sc_run.nd rfl (by first | exact Or.inl rfl | exact Or.inr rfl) (pe_calE c_plain_run (passE fl_of) (hr.mono (by decide)) (by rfl) (pa_cons (pv 0) (pa_cons (pv 1) pa_nil)))) (pss_one (ps_ret (pe_tup (pa_cons (pe_callTy call_list_of (by rfl) (b "list" (by decide +kernel)) (by decide +kernel) (pa_cons (pe_fld (pv 2) rfl) pa_nil)) (pa_cons (pe_fld (pv 2) rfl) pa_nil)))))), ?_⟩
    refine ⟨_, rfl, _, rfl, d, e, i, fun g1 g2 es x z hs st e1 e2 o1 o2 H0 H1 a R s0 rx hR g => ?_⟩
    have q := q g1 g2 es x z hs st e1 e2 o1 o2
    obtain ⟨dx, d, ah, sd, en, us, bg, bs, kvs, hd, r⟩ := id rx
    refine ⟨_, rfl, a, C, dx, _, _, rfl, r.ob, T.cl, T.n_said, fl_said .., sd, _, rfl, .inl (SqL.of r.sa), fun l hl => ?_⟩
    have g1 := r.grow (same_upd (o := .lst (R.said.map V.int)) hl)
    refine ⟨_, rfl, a, C, dx, _, _, rfl, g1.ob, T.cl, T.n_ended, fl_ended .., by show 2 ≤ sizeLine; decide, fun p hp => ?_⟩
    have s1 := same_upd (o := .tup [.ref l, .ref en]) hp
    exact q _ p l en R ((s0.trans g1.sameB).trans s1) upd_same (s1 _ _ upd_same) (s1 _ _ g1.fi) hR g
def spUsedR (T : TB) (Ph CB CC : Addr) : Sp := fun vs H _ E => ∃ d e, RunA T Ph CB CC H E vs d e ∧ (bookB d && callB e) = false
theorem ok_usedR {f Ph CB CC : Addr} {fd : FuncData} {Tb : TB} (F : Fun K "used" "used" s_used f fd) (T : TxR K mg C) (c_plain_run : CalE P w K mg base "plain_run" 70 ["book", "call"] (spPlainR C Tb Ph CB CC)) (c_Runner_told_uses : MCal P w K mg base C "told_uses" 15 ["self"] (spTold C)) : FnOk P w K mg base (CXE P w) 75 f fd ["book", "call"] (spUsedR Tb Ph CB CC) := by
  refine F.okE sc_used (fun vs H Q E h => ?_) (fun cdv A outer s H vs Q E hr h => ?_)
  · obtain ⟨d, e, i, _⟩ := h; obtain ⟨v, u, rfl, _⟩ := i.ex; rfl
  · obtain ⟨d, e, i, bad⟩ := h
    obtain ⟨v, u, rfl, _⟩ := id i.ex
    refine ⟨_, (pss_one (ps_ret (pe_mcal0 c_Runner_told_uses T.cl (pe_calE c_plain_run (passE fl_of) (hr.mono (by decide)) (by rfl) (pa_cons (pv 0) (pa_cons (pv 1) pa_nil))) (hr.mono (by decide))))), ?_⟩
    refine ⟨_, rfl, _, rfl, d, e, i, fun g1 g2 => ?_⟩
    rw [g1, g2] at bad
    cases bad
def spStepsR (T : TB) (Ph CB CC : Addr) : Sp := fun vs H Q E => ∃ d e, RunA T Ph CB CC H E vs d e ∧ (bookB d = true → callB e = true → ∀ es x z hs st, d = .lst (es.map enTh) → e = calTh x z hs st → BookOk es → CallOk x hs st →
  ∀ H' R, Same H H' → Runs es (startD es x z hs st) R → GoodR R → Q (.int R.taken) H')
theorem ok_steps_ofR {f Ph CB CC : Addr} {fd : FuncData} {Tb : TB} (F : Fun K "steps_of" "steps_of" s_steps_of f fd) (T : TxR K mg C) (c_plain_run : CalE P w K mg base "plain_run" 70 ["book", "call"] (spPlainR C Tb Ph CB CC)) : FnOk P w K mg base (CXE P w) 75 f fd ["book", "call"] (spStepsR Tb Ph CB CC) := by
  refine F.okE sc_steps_of (fun vs H Q E h => ?_) (fun cdv A outer s H vs Q E hr h => ?_)
  · obtain ⟨d, e, i, _⟩ := h; obtain ⟨v, u, rfl, _⟩ := i.ex; rfl
  · obtain ⟨d, e, i, q⟩ := h
    obtain ⟨v, u, rfl, _⟩ := id i.ex
    refine ⟨_, (pss_one (ps_ret (pe_fld (pe_calE c_plain_run (passE fl_of) (hr.mono (by decide)) (by rfl) (pa_cons (pv 0) (pa_cons (pv 1) pa_nil))) rfl))), ?_⟩
    refine ⟨_, rfl, _, rfl, d, e, i, fun g1 g2 es x z hs st e1 e2 o1 o2 H0 H1 a R s0 rx hR g => ?_⟩
    have q := q g1 g2 es x z hs st e1 e2 o1 o2
    obtain ⟨dx, d, ah, sd, en, us, bg, bs, kvs, hd, r⟩ := id rx
    exact ⟨a, C, dx, _, _, rfl, r.ob, T.cl, T.n_taken, fl_taken .., q _ R (s0.trans r.sameB) hR g⟩
end
end MG

set_option Elab.async false
set_option linter.all false
set_option maxRecDepth 100000
set_option maxHeartbeats 1000000
set_option exponentiation.threshold 1100
namespace MG
open PySem PySem.Spec PyProof.Rows L2
section
variable {P : Program} {w : World} {K : PySem.W.Frag} {mg : Str → Option Value} {base : Heap}
/-! ### the law's numbers -/
def IntsAt (K : PySem.W.Frag) (H : Hp) (S : Addr) : Prop := ∃ zs : List Int, (∃ o, H S = some (.frz o (.lst (zs.map V.int)))) ∨ ∀ H', SqL K H' S (zs.map V.int)
theorem IntsAt.sq {K : PySem.W.Frag} {H : Hp} {S : Addr} (h : IntsAt K H S) : ∃ zs : List Int, SqL K H S (zs.map V.int) := by
  obtain ⟨zs, ⟨o, e⟩ | e⟩ := h
  · exact ⟨zs, .inl (.inr ⟨o, e⟩)⟩
  · exact ⟨zs, e H⟩
theorem IntsAt.same {K : PySem.W.Frag} {H H' : Hp} {S : Addr} (h : IntsAt K H S) (k : Same H H') : IntsAt K H' S := by
  obtain ⟨zs, ⟨o, e⟩ | e⟩ := h
  · exact ⟨zs, .inl ⟨o, k _ _ e⟩⟩
  · exact ⟨zs, .inr e⟩
theorem IntsAt.but {K : PySem.W.Frag} {U : List Addr} {H H' : Hp} {S : Addr} (h : IntsAt K H S) (l : Lists U H) (k : But U H H') : IntsAt K H' S := by
  obtain ⟨zs, ⟨o, e⟩ | e⟩ := h
  · refine ⟨zs, .inl ⟨o, k _ _ (fun m => ?_) e⟩⟩
    obtain ⟨xs, q⟩ := l S m
    rw [e] at q; cases q
  · exact ⟨zs, .inr e⟩
end
end MG

set_option Elab.async false
set_option linter.all false
set_option maxRecDepth 100000
set_option maxHeartbeats 1000000
namespace MG
open PySem PySem.Spec PyProof.Rows L2
def spLaw (T : TB) (Ph Pl : Addr) (K : PySem.W.Frag) : Sp := fun vs H Q _ => ∃ S, vs = [.ref S] ∧ IntsAt K H S ∧ T.on H ∧ H Ph = some (tabH Ph) ∧ H Pl = some (tabE Pl #[]) ∧ (Pl ≠ T.w ∧ Pl ≠ T.b ∧ Pl ≠ T.k ∧ Pl ≠ T.c ∧ Pl ≠ Ph) ∧ ∀ H' ps, T.on H' → H' Ph = some (tabH Ph) → H' Pl = some (tabE Pl ps) → Q (.bl true) H'
def goodBook : List Th := [.tup [.str "a", .lst [.tup [.str "say"]]], .tup [.str "b", .lst []]]
def sayBook : List Th := [.tup [.str "a", .lst [.tup [.str "say"]]]]
def big : Int := 10 ^ (40 : Int).toNat
def great : Th := .tup [.str "a", .int big, .lst (List.replicate 20 [Th.int 0]).flatten, .int 120]
theorem good_ok : bookB (.lst goodBook) = true := by decide +kernel
theorem say_ok : bookB (.lst sayBook) = true := by decide +kernel
theorem great_ok : callB great = true := by decide +kernel
theorem great_of {x : Str} {z : Int} {hs : List Int} {st : Int} (h : great = calTh x z hs st) : x = "a" ∧ z = big ∧ st = 120 := by
  unfold great calTh at h
  injection h with h
  simp only [List.cons.injEq, Th.str.injEq, Th.int.injEq, and_true] at h
  exact ⟨h.1.symm, h.2.1.symm, h.2.2.2.symm⟩
theorem st_inj {s t : Stp} (h : stTh s = stTh t) : s = t := by
  cases s <;> cases t <;> simp [stTh] at h <;> first | rfl | (subst h; rfl) | (exfalso; revert h; decide +kernel) | skip
  all_goals (first | (obtain ⟨h1, h2⟩ := h; exfalso; revert h1; decide +kernel) | (rw [h]))
theorem say_es {es : List Ent} (h : Th.lst sayBook = .lst (es.map enTh)) : ∃ e : Ent, es = [e] ∧ e.1 = "a" ∧ e.2.2 = [Stp.say] := by
  injection h with h
  rcases es with _ | ⟨e, _ | ⟨e2, r⟩⟩
  · cases h
  · simp only [sayBook, List.map_cons, List.map_nil, enTh, List.cons.injEq, Th.tup.injEq, Th.str.injEq, and_true] at h
    obtain ⟨h1, h2⟩ := h
    refine ⟨e, rfl, h1.symm, ?_⟩
    unfold bdTh at h2
    injection h2 with h2
    have e3 : [Th.tup [.str "say"]] = [Stp.say].map stTh := rfl
    rw [e3] at h2
    exact ((List.map_inj_right (fun a b => st_inj)).mp h2).symm
  · simp [sayBook] at h
theorem nil_es {es : List Ent} (h : Th.lst [] = .lst (es.map enTh)) : es = [] := by
  injection h with h
  cases es with
  | nil => rfl
  | cons a r => cases h
theorem start_say {e : Ent} {z : Int} {hs : List Int} (e1 : e.1 = "a") (e2 : e.2.2 = [Stp.say]) : ∃ R0 : Rn, startD [e] "a" z hs 120 = R0 ∧ R0.hand = z ∧ R0.fin.vals = [] ∧ R0.said = [] ∧ R0.begun = [[Stp.say]] := by
  have fnd : bodyOf [e] "a" = some e.2 := by
    unfold bodyOf
    rw [List.find?_cons_of_pos (by simpa using e1)]; rfl
  refine ⟨_, rfl, ?_⟩
  unfold startD useD usesD
  rw [fnd]
  dsimp only
  rw [e2]
  exact ⟨rfl, rfl, rfl, rfl⟩
theorem runs_say {e : Ent} {z : Int} {hs : List Int} {R : Rn} (e1 : e.1 = "a") (e2 : e.2.2 = [Stp.say]) (h : Runs [e] (startD [e] "a" z hs 120) R) : R.said = [z] ∧ R.fin.vals = [.str "done", .int z] := by
  obtain ⟨R0, eR, h1, h2, h3, h4⟩ := start_say (z := z) (hs := hs) e1 e2
  rw [eR] at h
  cases h with
  | stop f => rw [h2] at f; cases f
  | @step _ _ B s ss f eb t =>
    rw [h4] at eb
    have eB : B = [] ∧ s = Stp.say ∧ ss = [] := by
      cases B with
      | nil => simp at eb; exact ⟨rfl, eb.1.symm, eb.2⟩
      | cons b r => simp at eb
    obtain ⟨rfl, rfl, rfl⟩ := eB
    have et : (takeD [e] R0 [] .say []).said = [z] ∧ (takeD [e] R0 [] .say []).fin.vals = [.str "done", .int z] := by
      unfold takeD settleD actD
      dsimp only
      rw [h2]
      rw [if_pos (show ([] : List V).isEmpty = true from rfl)]
      rw [show trimB ([] ++ [[]]) = [] from rfl]
      rw [if_pos rfl, h3, h1]
      exact ⟨rfl, rfl⟩
    cases t with
    | stop _ => exact et
    | step f _ _ => rw [et.2] at f; cases f
theorem runs_lost {z : Int} {hs : List Int} {R : Rn} (h : Runs [] (startD [] "a" z hs 120) R) : R.taken = 0 := by
  cases h with
  | stop _ => rfl
  | step f _ _ => cases f
section
variable {P : Program} {w : World} {K : PySem.W.Frag} {mg : Str → Option Value} {base : Heap}
theorem ok_law {f c bm se CB CC : Addr} {fd : FuncData} {ob : Obj} {T : TB} {Ph Pl : Addr} {cs : List Addr} (F : FunG K "law" "law" s_law f fd c Pl) (b : ∀ x ∈ blts, mg x = none) (hB : BMod base mainGlobals mg bm ob)
    (c_law_bad_books : Cal P w K mg base "_law_bad_books" 20 ["_law_far"] (spBadL badBooks)) (c_law_bad_calls : Cal P w K mg base "_law_bad_calls" 20 ["_law_far"] (spBadL badCalls))
    (c_law_all_refused : CalF P w K mg base "_law_all_refused" 90 80 ["_law_ask", "_law_things", "_law_which"] (spAR (K := K) cs se)) (eB : EKs K cs se 2 CB) (eC : EKs K cs se 4 CC)
    (c_run : CalE P w K mg base "run" 75 ["book", "call"] (spRunR T Ph CB CC)) (c_used : CalE P w K mg base "used" 75 ["book", "call"] (spUsedR T Ph CB CC)) (c_steps_of : CalE P w K mg base "steps_of" 75 ["book", "call"] (spStepsR T Ph CB CC)) :
    FnOk P w K mg base CX0 100 f fd ["_law_script"] (spLaw T Ph Pl K) := by
  refine okGI F sc_law (fun vs H Q E h => ?_) (fun A outer s H vs Q E hr h => ?_)
  · obtain ⟨S, rfl, _⟩ := h; rfl
  · obtain ⟨S, rfl, hS, hT, hPh, hPl, hne, q⟩ := h
    refine ⟨_, (pss_consI (ps_forI PassesOwn.never rfl (pi_list (pe_op op_cat (pe_lst (pa_cons pe_int pa_nil)) (pe_lc (own := [("_law_cell", 6)]) rfl sc_law.nd (pi_list (pe_slice sl_list (pv 0) po_none (po_some pe_int))) (blkOk_by (own := [("_law_cell", 6)]) (N := N_law) (sc := defScope s_law) (by decide +kernel)) (fun _ _ _ _ _ => (pg_name (i := 6) sc_law.nd rfl (by first | exact Or.inl rfl | exact Or.inr rfl))) (fun _ _ _ _ _ => pts_nil) (fun _ _ _ _ _ => (pe_op op_mod (pv 6) pe_int))))) (pg_name (i := 1) sc_law.nd rfl (by first | exact Or.inl rfl | exact Or.inr rfl)) (pss_consI (ps_asg2X (n := 16) (ns := []) (pe_cal c_law_bad_books (hr.mono (by decide)) (by rfl) (pa_cons (pv 1) pa_nil)) NsOk.nil (pg_tup (by rfl) (pgs_cons (pg_name (i := 2) sc_law.nd rfl (by first | exact Or.inl rfl | exact Or.inr rfl)) (pgs_cons (pg_name (i := 3) sc_law.nd rfl (by first | exact Or.inl rfl | exact Or.inr rfl)) pgs_nil)))) (pss_cons (ps_if (pt_not (pt_val (pe_calF c_law_all_refused (hr.mono (by decide)) (by rfl) (pa_cons (pe_lam rfl rfl F.hd hB (lam_names (sc := defScope s_law) (by decide +kernel) rfl)) (pa_cons (pv 2) (pa_cons pe_int pa_nil)))))) (pss_one (ps_ret pe_bl)) pss_nil) (pss_cons (ps_if (pt_not (pt_val (pe_calF c_law_all_refused (hr.mono (by decide)) (by rfl) (pa_cons (pe_lam rfl rfl F.hd hB (lam_names (sc := defScope s_law) (by decide +kernel) rfl)) (pa_cons (pv 2) (pa_cons pe_int pa_nil)))))) (pss_one (ps_ret pe_bl)) pss_nil) (pss_cons (ps_if (pt_not (pt_val (pe_calF c_law_all_refused (hr.mono (by decide)) (by rfl) (pa_cons (pe_lam rfl rfl F.hd hB (lam_names (sc := defScope s_law) (by decide +kernel) rfl)) (pa_cons (pv 2) (pa_cons pe_int pa_nil)))))) (pss_one (ps_ret pe_bl)) pss_nil) (pss_cons (ps_set (i := 4) sc_law.nd rfl (by first | exact Or.inl rfl | exact Or.inr rfl) (pe_cal c_law_bad_calls (hr.mono (by decide)) (by rfl) (pa_cons (pv 1) pa_nil))) (pss_cons (ps_if (pt_not (pt_val (pe_calF c_law_all_refused (hr.mono (by decide)) (by rfl) (pa_cons (pe_lam rfl rfl F.hd hB (lam_names (sc := defScope s_law) (by decide +kernel) rfl)) (pa_cons (pv 4) (pa_cons pe_int pa_nil)))))) (pss_one (ps_ret pe_bl)) pss_nil) (pss_cons (ps_if (pt_not (pt_val (pe_calF c_law_all_refused (hr.mono (by decide)) (by rfl) (pa_cons (pe_lam rfl rfl F.hd hB (lam_names (sc := defScope s_law) (by decide +kernel) rfl)) (pa_cons (pv 4) (pa_cons pe_int pa_nil)))))) (pss_one (ps_ret pe_bl)) pss_nil) (pss_one (ps_if (pt_not (pt_val (pe_calF c_law_all_refused (hr.mono (by decide)) (by rfl) (pa_cons (pe_lam rfl rfl F.hd hB (lam_names (sc := defScope s_law) (by decide +kernel) rfl)) (pa_cons (pv 4) (pa_cons pe_int pa_nil)))))) (pss_one (ps_ret pe_bl)) pss_nil)))))))))) (pss_cons (ps_set (i := 5) sc_law.nd rfl (by first | exact Or.inl rfl | exact Or.inr rfl) (pe_tup (pa_cons pe_str (pa_cons (pe_op op_pow pe_int pe_int) (pa_cons (PEi.out (pei_litX (ns := []) 16 NsOk.nil)) (pa_cons pe_int pa_nil)))))) (pss_one (ps_ret (pe_and (pe_cmpR (op_eqD hr.units) (pe_calE c_run passNo (hr.mono (by decide)) (by rfl) (pa_consL (PEi.out (pei_litX (ns := []) 16 NsOk.nil)) (pa_cons (pv 5) pa_nil))) (pe_tup (pa_consL (pe_lst (pa_cons (pe_op op_pow pe_int pe_int) pa_nil)) (pa_consT (pe_tup (pa_cons pe_str (pa_cons (pe_op op_pow pe_int pe_int) pa_nil))) pa_nil))) (nomark _)) (pe_one (pe_cmpR (op_eqD hr.units) (pe_calE c_steps_of passNo (hr.mono (by decide)) (by rfl) (pa_consL (pe_lst pa_nil) (pa_cons (pv 5) pa_nil))) pe_int (nomark _)))))))), ?_⟩
    obtain ⟨zs, hSq⟩ := hS.sq
    dsimp only [tSeq]
    refine ⟨by decide, fun l0 hl0 => ?_⟩
    have s1 := same_upd (o := .lst [V.int 0]) hl0
    have e1 : upd H l0 (.lst [V.int 0]) l0 = _ := upd_same
    generalize upd H l0 (.lst [V.int 0]) = H1 at s1 e1 ⊢
    refine ⟨_, rfl, _, rfl, S, _, rfl, s1.seq hSq, fun p hp => ?_⟩
    have ec : cutV (zs.map V.int) none (some 4) = (zs.take 4).map V.int := by rw [show (4 : Int) = ((4 : Nat) : Int) from rfl, cutA_toB, List.map_take]
    rw [ec]
    have s2 := s1.trans (same_upd (o := .lst ((zs.take 4).map V.int)) hp)
    have e2 : upd H1 p (.lst ((zs.take 4).map V.int)) p = _ := upd_same
    have e12 := (same_upd (o := .lst ((zs.take 4).map V.int)) hp) _ _ e1
    generalize upd H1 p (.lst ((zs.take 4).map V.int)) = H2 at s2 e2 e12 ⊢
    have l4 : (zs.take 4).length ≤ 4 := by rw [List.length_take]; omega
    generalize zs.take 4 = z4 at e2 l4
    refine ⟨p, rfl, ⟨_, SqL.of e2⟩, ?_⟩
    refine lc_by (K := K) (fun D i H' => Same H2 H' ∧ H' D = some (.lst ((z4.take i).map fun z => V.int (z % 1000)))) (fun D hD => ⟨same_upd hD, upd_same⟩) (fun D i H' _ h => SqL.of (h.1 _ _ e2)) (fun D i x H' hD hx h => ?_) (fun D H' hD h => ?_)
    · obtain ⟨s3, hacc⟩ := h
      rw [List.getElem?_map] at hx
      obtain ⟨z, hz, rfl⟩ := Option.map_eq_some_iff.mp hx
      refine ⟨rfl, ?_⟩
      dsimp only [tYes]
      refine iteT ⟨_, rfl, _, _, rfl, rfl, (by show (0 : Int) < 1000; decide), _, hacc, ?_, fun b o e => ?_, ?_⟩
      · rw [List.length_map, List.length_take, sizeLine_eq]; omega
      · rw [upd_ne (ne_of_none e hD)]; exact s3 _ _ e
      · rw [upd_same, List.take_succ, hz, List.map_append]; rfl
    · obtain ⟨s3, hacc⟩ := h
      rw [List.length_map, List.take_length] at hacc
      refine ⟨l0, D, _, _, rfl, rfl, s3 _ _ e12, hacc, by rw [List.length_map, sizeLine_eq]; show 1 + _ ≤ _; omega, fun L hL => ?_⟩
      have s4 := s2.trans (s3.trans (same_upd (o := .lst ([V.int 0] ++ z4.map fun z => V.int (z % 1000))) hL))
      have e4 : upd H' L (.lst ([V.int 0] ++ z4.map fun z => V.int (z % 1000))) L = _ := upd_same
      generalize upd H' L (.lst ([V.int 0] ++ z4.map fun z => V.int (z % 1000))) = H4 at s4 e4 ⊢
      have efar : ∀ (i : Nat) x, ([V.int 0] ++ z4.map fun z => V.int (z % 1000))[i]? = some x → ∃ far, x = .int far ∧ 0 ≤ far ∧ far < 1000 := fun i x hx => by
        have m := List.mem_of_getElem? hx
        rcases List.mem_append.mp m with m | m
        · rw [List.mem_singleton.mp m]; exact ⟨0, rfl, by decide, by decide⟩
        · obtain ⟨z, _, rfl⟩ := List.mem_map.mp m
          exact ⟨_, rfl, Int.emod_nonneg _ (by decide), Int.emod_lt_of_pos _ (by decide)⟩
      generalize ([V.int 0] ++ z4.map fun z => V.int (z % 1000)) = xs at e4 efar
      have hP4 := s4 _ _ hPl
      have nL : L ≠ Pl := fun z => by rw [z, hP4] at e4; cases e4
      have tb0 : TabL H4 Pl "law.<locals>.<lambda>" := ⟨#[], hP4, fun pos cv h => by simp [codeAmong] at h⟩
      have hW : T.on (wo1 H4 Pl) := (hT.same s4).wo ⟨hne.1, hne.2.1, hne.2.2.1, hne.2.2.2.1⟩
      have hPW : wo1 H4 Pl Ph = some (tabH Ph) := by rw [wo1_ne hne.2.2.2.2.symm]; exact s4 _ _ hPh
      have eW4 : wo1 H4 Pl L = some (.lst xs) := by rw [wo1_ne nL]; exact e4
      have g0 : G30 K T Pl "law.<locals>.<lambda>" S (wo1 H4 Pl) H4 := ⟨Same.refl _, tb0⟩
      generalize wo1 H4 Pl = W at hW hPW eW4 g0
      refine ⟨L, rfl, ⟨_, SqL.of e4⟩, for_list (xs := xs) (fun i σ Hc => (∃ o1 o2 o3 o4 o5 o6, σ = [some (.ref S), o1, o2, o3, o4, o5, o6]) ∧ G30 K T Pl "law.<locals>.<lambda>" S W Hc) ⟨⟨_, _, _, _, _, _, rfl⟩, g0⟩ (fun i σ Hc _ h => SqL.of (wo1_sub _ _ (h.2.same _ _ eW4))) ?_ ?_⟩
      · rintro i x σ Hc hx ⟨⟨o1, o2, o3, o4, o5, o6, rfl⟩, g⟩
        obtain ⟨far, rfl, lo, hi⟩ := efar i x hx
        dsimp only [gName, tSeq, tAsg]
        refine ⟨_, rfl, far, rfl, lo, hi, fun lb Ha sa nlb ta => ?_⟩
        refine litH ⟨[], .lst goodBook, [], by kernel_rfl, on0, (fun i hi => nomatch hi), fun vg Hb sb tg _ => ?_⟩
        refine ⟨by show 2 ≤ sizeLine; decide, fun tp htp => ?_⟩
        refine ⟨tp, _, rfl, SqT.of upd_same, rfl, _, _, rfl, _, _, rfl, rfl, ?_⟩
        have sd := sb.trans (same_upd (o := .tup [.ref lb, vg]) htp)
        have tbD := ta.same sd
        have tgD := tg.same (same_upd (o := .tup [.ref lb, vg]) htp)
        have gD := g.go (sa.trans sd)
        generalize upd Hb tp (.tup [.ref lb, vg]) = Hd at sd tbD tgD gD ⊢
        obtain ⟨psd, hPd⟩ := gD.tab.tab
        have tbW := th_wo1 hPd _ tbD
        have tgW := th_wo1 hPd _ tgD
        have g1 : G30 K T Pl "law.<locals>.<lambda>" S (wo1 Hd Pl) Hd := ⟨Same.refl _, gD.tab⟩
        have sW : Same W (wo1 Hd Pl) := gD.same
        have hWd : T.on (wo1 Hd Pl) := hW.same sW
        have hPWd : wo1 Hd Pl Ph = some (tabH Ph) := sW _ _ hPW
        have out : ∀ Hx, G30 K T Pl "law.<locals>.<lambda>" S (wo1 Hd Pl) Hx → G30 K T Pl "law.<locals>.<lambda>" S W Hx := fun Hx gx => ⟨sW.trans gx.same, gx.tab⟩
        generalize wo1 Hd Pl = Wd at tbW tgW g1 hWd hPWd out
        have bb := books_bad lo
        have cb := calls_bad lo
        have lb0 : (badBodies far).length = 41 := by
          unfold badBodies
          rw [List.length_append, List.length_map, List.length_zipIdx]; rfl
        obtain ⟨_, xb, eb, hxb, hthb⟩ := id tbW.lstOf
        cases eb
        have lenb : xb.length ≤ 1000 := by
          have lw : ((badWords far).filter fun _ => true).length = 16 := rfl
          have lf : ((badBodies far).filter notNon).length ≤ 41 := by rw [← lb0]; exact List.length_filter_le _ _
          rw [hthb.length]
          unfold badBooks
          rw [List.length_append, List.length_append, List.length_map, List.length_map, lw]
          show 16 + 16 + _ ≤ _
          omega
        -- c_run(tn) []
        refine ⟨g1.tab, fun fl cl He bl tl nfl nHfl hfl hcl => ?_⟩
        have h1 := g1.lam bl tl
        have hfl0 : He fl = some (LamO fl _ _ _ _ [] cl) := hfl
        obtain ⟨spL, hspL⟩ := door_pack hfl0 [] (fun E => tCall (spRunR T Ph CB CC) [] E (tCons (tVar 0) (tCons (tC .non) tNil)))
        refine ⟨_, rfl, fl, spL, fun base' bo => ?_, ?_⟩
        · rw [hspL]
          exact lam_fnH hfl0 [] (fun E => tCall (spRunR T Ph CB CC) [] E (tCons (tVar 0) (tCons (tC .non) tNil))) (N := ["_law_thing"]) (x := "_law_thing") ⟨rfl, rfl, rfl, by decide, rfl, rfl, (fun i y h => nomatch h), by decide +kernel⟩ (clo_none fun y => free_no (by decide +kernel)) (fun pm ctv u => rfl)
            (fun A outer s H E hr => pe_calE (calEB c_run bo.mod bo.sub) (passE flL) (hr.mono (by decide)) (by rfl) (pa_cons (pv 0) (pa_cons pe_non pa_nil)))
        refine ⟨lb, xb, 2, CB, rfl, wo1_sub _ _ (h1.same _ _ hxb), lenb, by decide, eB, fun u hu H' Q E sx k => ?_, fun Hf sf => ?_⟩
        · obtain ⟨d, hd, hud⟩ := paired_mem hthb hu
          have hb := bb d hd
          have hud' := (hud.same (h1.same.trans wo1_sub)).same sx
          have hTx := (hWd.same (h1.same.trans wo1_sub)).same sx
          have hgx := (tgW.same (h1.same.trans wo1_sub)).same sx
          have hPx := sx _ _ (wo1_sub _ _ (h1.same _ _ hPWd))
          rw [hspL]
          exact ⟨u, rfl, sx _ _ hfl0, sx _ _ hcl, _, rfl, d, .non, ⟨⟨u, _, rfl, hud', .non⟩, hb.2, hTx, hPx, (fun _ => k), (fun z => by rw [hb.1] at z; cases z)⟩, (fun z => by rw [hb.1] at z; cases z)⟩
        refine ⟨_, rfl, iteF ?_⟩
        have g2 := h1.go sf
        clear hfl0 hfl hcl h1
        -- c_used(t5) []
        refine ⟨g2.tab, fun fl cl He bl tl nfl nHfl hfl hcl => ?_⟩
        have h2 := g2.lam bl tl
        have hfl0 : He fl = some (LamO fl _ _ _ _ [] cl) := hfl
        obtain ⟨spL, hspL⟩ := door_pack hfl0 [] (fun E => tCall (spUsedR T Ph CB CC) [] E (tCons (tVar 0) (tCons (tC (.int 5)) tNil)))
        refine ⟨_, rfl, fl, spL, fun base' bo => ?_, ?_⟩
        · rw [hspL]
          exact lam_fnH hfl0 [] (fun E => tCall (spUsedR T Ph CB CC) [] E (tCons (tVar 0) (tCons (tC (.int 5)) tNil))) (N := ["_law_thing"]) (x := "_law_thing") ⟨rfl, rfl, rfl, by decide, rfl, rfl, (fun i y h => nomatch h), by decide +kernel⟩ (clo_none fun y => free_no (by decide +kernel)) (fun pm ctv u => rfl)
            (fun A outer s H E hr => pe_calE (calEB c_used bo.mod bo.sub) (passE flL) (hr.mono (by decide)) (by rfl) (pa_cons (pv 0) (pa_cons pe_int pa_nil)))
        refine ⟨lb, xb, 2, CB, rfl, wo1_sub _ _ (h2.same _ _ hxb), lenb, by decide, eB, fun u hu H' Q E sx k => ?_, fun Hf sf => ?_⟩
        · obtain ⟨d, hd, hud⟩ := paired_mem hthb hu
          have hb := bb d hd
          have hud' := (hud.same (h2.same.trans wo1_sub)).same sx
          have hTx := (hWd.same (h2.same.trans wo1_sub)).same sx
          have hgx := (tgW.same (h2.same.trans wo1_sub)).same sx
          have hPx := sx _ _ (wo1_sub _ _ (h2.same _ _ hPWd))
          rw [hspL]
          exact ⟨u, rfl, sx _ _ hfl0, sx _ _ hcl, _, rfl, d, .int 5, ⟨⟨u, _, rfl, hud', .int _⟩, hb.2, hTx, hPx, (fun _ => k), (fun z => by rw [hb.1] at z; cases z)⟩, by rw [hb.1]; rfl⟩
        refine ⟨_, rfl, iteF ?_⟩
        have g3 := h2.go sf
        clear hfl0 hfl hcl h2
        -- c_steps_of(te) []
        refine ⟨g3.tab, fun fl cl He bl tl nfl nHfl hfl hcl => ?_⟩
        have h3 := g3.lam bl tl
        have hfl0 : He fl = some (LamO fl _ _ _ _ [] cl) := hfl
        obtain ⟨spL, hspL⟩ := door_pack hfl0 [] (fun E => tCall (spStepsR T Ph CB CC) [] E (tCons (tVar 0) (tCons (tTup tNil) tNil)))
        refine ⟨_, rfl, fl, spL, fun base' bo => ?_, ?_⟩
        · rw [hspL]
          exact lam_fnH hfl0 [] (fun E => tCall (spStepsR T Ph CB CC) [] E (tCons (tVar 0) (tCons (tTup tNil) tNil))) (N := ["_law_thing"]) (x := "_law_thing") ⟨rfl, rfl, rfl, by decide, rfl, rfl, (fun i y h => nomatch h), by decide +kernel⟩ (clo_none fun y => free_no (by decide +kernel)) (fun pm ctv u => rfl)
            (fun A outer s H E hr => pe_calE (calEB c_steps_of bo.mod bo.sub) (passE flL) (hr.mono (by decide)) (by rfl) (pa_cons (pv 0) (pa_consT (pe_tup pa_nil) pa_nil)))
        refine ⟨lb, xb, 2, CB, rfl, wo1_sub _ _ (h3.same _ _ hxb), lenb, by decide, eB, fun u hu H' Q E sx k => ?_, fun Hf sf => ?_⟩
        · obtain ⟨d, hd, hud⟩ := paired_mem hthb hu
          have hb := bb d hd
          have hud' := (hud.same (h3.same.trans wo1_sub)).same sx
          have hTx := (hWd.same (h3.same.trans wo1_sub)).same sx
          have hgx := (tgW.same (h3.same.trans wo1_sub)).same sx
          have hPx := sx _ _ (wo1_sub _ _ (h3.same _ _ hPWd))
          rw [hspL]
          exact ⟨u, rfl, sx _ _ hfl0, sx _ _ hcl, _, rfl, by show 0 ≤ sizeLine; decide, fun tq htq => ⟨d, .tup [], ⟨⟨u, _, rfl, hud'.same (same_upd htq), .tup upd_same .nil⟩, hb.2, hTx.same (same_upd htq), (same_upd htq) _ _ hPx, (fun _ H2 s2 => k H2 ((same_upd htq).trans s2)), (fun z => by rw [hb.1] at z; cases z)⟩, (fun z => by rw [hb.1] at z; cases z)⟩⟩
        refine ⟨_, rfl, iteF ?_⟩
        have g4 := h3.go sf
        clear hfl0 hfl hcl h3
        -- the calls
        refine ⟨_, rfl, far, rfl, lo, hi, fun lc Hc2 sc2 nlc tc => ?_⟩
        have g4' := g4.go sc2
        obtain ⟨ps2, hP2⟩ := g4'.tab.tab
        have tcW := th_wo1 hP2 _ tc
        have tgW2 := tgW.same g4'.same
        have hWd2 := hWd.same g4'.same
        have hPWd2 := g4'.same _ _ hPWd
        have out2 : ∀ Hx, G30 K T Pl "law.<locals>.<lambda>" S (wo1 Hc2 Pl) Hx → G30 K T Pl "law.<locals>.<lambda>" S W Hx := fun Hx gx => out _ ⟨g4'.same.trans gx.same, gx.tab⟩
        have g5 : G30 K T Pl "law.<locals>.<lambda>" S (wo1 Hc2 Pl) Hc2 := ⟨Same.refl _, g4'.tab⟩
        clear tgW hWd hPWd out g1 g2 g3 g4 g4' tbW hxb hthb lenb tc sc2
        generalize wo1 Hc2 Pl = We at tcW tgW2 hWd2 hPWd2 out2 g5
        have tgW := tgW2
        have hWd := hWd2
        have hPWd := hPWd2
        obtain ⟨_, xc, ec, hxc, hthc⟩ := id tcW.lstOf
        cases ec
        have lenc : xc.length ≤ 1000 := by
          have lw : ((badWords far).filter fun _ => true).length = 16 := rfl
          rw [hthc.length]
          unfold badCalls badCal3 badCal2 badCal1
          rw [List.length_append, List.length_append, List.length_append, List.length_append, List.length_map, lw]
          show 9 + 16 + 5 + 10 + 8 ≤ _
          decide
        -- c_run(1t) ['_law_good']
        refine ⟨g5.tab, fun fl cl He bl tl nfl nHfl hfl hcl => ?_⟩
        have h5 := g5.lam bl tl
        have hfl0 : He fl = some (LamO fl _ _ _ _ [("_law_good", ((cxOf CX0 P w K mg base N_law "law" (defScope s_law) f (.ref c) A outer s H E).env.cells.lookup ("_law_good" : Str)).getD 0)] cl) := hfl
        obtain ⟨cg0, hcg0⟩ : ∃ cg, ((cxOf CX0 P w K mg base N_law "law" (defScope s_law) f (.ref c) A outer s H E).env.cells.lookup ("_law_good" : Str)).getD 0 = cg := ⟨_, rfl⟩
        rw [hcg0] at hfl0
        obtain ⟨spL, hspL⟩ := door_pack hfl0 [vg] (fun E => tCall (spRunR T Ph CB CC) [] E (tCons (tVar 1) (tCons (tVar 0) tNil)))
        refine ⟨_, rfl, fl, spL, fun base' bo => ?_, ?_⟩
        · obtain ⟨c0, u0, e0, r0, hc0⟩ := bo.cell 3 "_law_good" vg rfl rfl rfl (.inl rfl)
          have ecg0 : cg0 = c0 := by rw [← hcg0, e0]; rfl
          subst ecg0
          rw [hspL]
          exact lam_fnH hfl0 [vg] (fun E => tCall (spRunR T Ph CB CC) [] E (tCons (tVar 1) (tCons (tVar 0) tNil))) (N := ["_law_thing", "_law_good"]) (x := "_law_thing") ⟨rfl, rfl, rfl, by decide, rfl, rfl, (fun i y h => by cases i with | zero => (cases h; rfl) | succ i => simp at h), by decide +kernel⟩ (clo_one (fun z hz => free_one (by decide +kernel) hz) hc0 r0) (fun pm ctv u => rfl)
            (fun A outer s H E hr => pe_calE (calEB c_run bo.mod bo.sub) (passE flL) (hr.mono (by decide)) (by rfl) (pa_cons (pv 1) (pa_cons (pv 0) pa_nil)))
        refine ⟨lc, xc, 4, CC, rfl, wo1_sub _ _ (h5.same _ _ hxc), lenc, by decide, eC, fun u hu H' Q E sx k => ?_, fun Hf sf => ?_⟩
        · obtain ⟨d, hd, hud⟩ := paired_mem hthc hu
          have hb := cb d hd
          have hud' := (hud.same (h5.same.trans wo1_sub)).same sx
          have hTx := (hWd.same (h5.same.trans wo1_sub)).same sx
          have hgx := (tgW.same (h5.same.trans wo1_sub)).same sx
          have hPx := sx _ _ (wo1_sub _ _ (h5.same _ _ hPWd))
          rw [hspL]
          exact ⟨u, rfl, sx _ _ hfl0, sx _ _ hcl, _, rfl, _, rfl, _, d, ⟨⟨vg, u, rfl, hgx, hud'⟩, (by show 2 ≤ 20; decide), hTx, hPx, (fun z => by rw [good_ok] at z; cases z), (fun _ _ => k)⟩, (fun _ z => by rw [hb] at z; cases z)⟩
        refine ⟨_, rfl, iteF ?_⟩
        have g6 := h5.go sf
        clear hfl0 hfl hcl h5
        -- c_used(1t) ['_law_good']
        refine ⟨g6.tab, fun fl cl He bl tl nfl nHfl hfl hcl => ?_⟩
        have h6 := g6.lam bl tl
        have hfl0 : He fl = some (LamO fl _ _ _ _ [("_law_good", ((cxOf CX0 P w K mg base N_law "law" (defScope s_law) f (.ref c) A outer s H E).env.cells.lookup ("_law_good" : Str)).getD 0)] cl) := hfl
        obtain ⟨cg0, hcg0⟩ : ∃ cg, ((cxOf CX0 P w K mg base N_law "law" (defScope s_law) f (.ref c) A outer s H E).env.cells.lookup ("_law_good" : Str)).getD 0 = cg := ⟨_, rfl⟩
        rw [hcg0] at hfl0
        obtain ⟨spL, hspL⟩ := door_pack hfl0 [vg] (fun E => tCall (spUsedR T Ph CB CC) [] E (tCons (tVar 1) (tCons (tVar 0) tNil)))
        refine ⟨_, rfl, fl, spL, fun base' bo => ?_, ?_⟩
        · obtain ⟨c0, u0, e0, r0, hc0⟩ := bo.cell 3 "_law_good" vg rfl rfl rfl (.inl rfl)
          have ecg0 : cg0 = c0 := by rw [← hcg0, e0]; rfl
          subst ecg0
          rw [hspL]
          exact lam_fnH hfl0 [vg] (fun E => tCall (spUsedR T Ph CB CC) [] E (tCons (tVar 1) (tCons (tVar 0) tNil))) (N := ["_law_thing", "_law_good"]) (x := "_law_thing") ⟨rfl, rfl, rfl, by decide, rfl, rfl, (fun i y h => by cases i with | zero => (cases h; rfl) | succ i => simp at h), by decide +kernel⟩ (clo_one (fun z hz => free_one (by decide +kernel) hz) hc0 r0) (fun pm ctv u => rfl)
            (fun A outer s H E hr => pe_calE (calEB c_used bo.mod bo.sub) (passE flL) (hr.mono (by decide)) (by rfl) (pa_cons (pv 1) (pa_cons (pv 0) pa_nil)))
        refine ⟨lc, xc, 4, CC, rfl, wo1_sub _ _ (h6.same _ _ hxc), lenc, by decide, eC, fun u hu H' Q E sx k => ?_, fun Hf sf => ?_⟩
        · obtain ⟨d, hd, hud⟩ := paired_mem hthc hu
          have hb := cb d hd
          have hud' := (hud.same (h6.same.trans wo1_sub)).same sx
          have hTx := (hWd.same (h6.same.trans wo1_sub)).same sx
          have hgx := (tgW.same (h6.same.trans wo1_sub)).same sx
          have hPx := sx _ _ (wo1_sub _ _ (h6.same _ _ hPWd))
          rw [hspL]
          exact ⟨u, rfl, sx _ _ hfl0, sx _ _ hcl, _, rfl, _, rfl, _, d, ⟨⟨vg, u, rfl, hgx, hud'⟩, (by show 2 ≤ 20; decide), hTx, hPx, (fun z => by rw [good_ok] at z; cases z), (fun _ _ => k)⟩, by rw [hb, Bool.and_false]⟩
        refine ⟨_, rfl, iteF ?_⟩
        have g7 := h6.go sf
        clear hfl0 hfl hcl h6
        -- c_steps_of(1t) ['_law_good']
        refine ⟨g7.tab, fun fl cl He bl tl nfl nHfl hfl hcl => ?_⟩
        have h7 := g7.lam bl tl
        have hfl0 : He fl = some (LamO fl _ _ _ _ [("_law_good", ((cxOf CX0 P w K mg base N_law "law" (defScope s_law) f (.ref c) A outer s H E).env.cells.lookup ("_law_good" : Str)).getD 0)] cl) := hfl
        obtain ⟨cg0, hcg0⟩ : ∃ cg, ((cxOf CX0 P w K mg base N_law "law" (defScope s_law) f (.ref c) A outer s H E).env.cells.lookup ("_law_good" : Str)).getD 0 = cg := ⟨_, rfl⟩
        rw [hcg0] at hfl0
        obtain ⟨spL, hspL⟩ := door_pack hfl0 [vg] (fun E => tCall (spStepsR T Ph CB CC) [] E (tCons (tVar 1) (tCons (tVar 0) tNil)))
        refine ⟨_, rfl, fl, spL, fun base' bo => ?_, ?_⟩
        · obtain ⟨c0, u0, e0, r0, hc0⟩ := bo.cell 3 "_law_good" vg rfl rfl rfl (.inl rfl)
          have ecg0 : cg0 = c0 := by rw [← hcg0, e0]; rfl
          subst ecg0
          rw [hspL]
          exact lam_fnH hfl0 [vg] (fun E => tCall (spStepsR T Ph CB CC) [] E (tCons (tVar 1) (tCons (tVar 0) tNil))) (N := ["_law_thing", "_law_good"]) (x := "_law_thing") ⟨rfl, rfl, rfl, by decide, rfl, rfl, (fun i y h => by cases i with | zero => (cases h; rfl) | succ i => simp at h), by decide +kernel⟩ (clo_one (fun z hz => free_one (by decide +kernel) hz) hc0 r0) (fun pm ctv u => rfl)
            (fun A outer s H E hr => pe_calE (calEB c_steps_of bo.mod bo.sub) (passE flL) (hr.mono (by decide)) (by rfl) (pa_cons (pv 1) (pa_cons (pv 0) pa_nil)))
        refine ⟨lc, xc, 4, CC, rfl, wo1_sub _ _ (h7.same _ _ hxc), lenc, by decide, eC, fun u hu H' Q E sx k => ?_, fun Hf sf => ?_⟩
        · obtain ⟨d, hd, hud⟩ := paired_mem hthc hu
          have hb := cb d hd
          have hud' := (hud.same (h7.same.trans wo1_sub)).same sx
          have hTx := (hWd.same (h7.same.trans wo1_sub)).same sx
          have hgx := (tgW.same (h7.same.trans wo1_sub)).same sx
          have hPx := sx _ _ (wo1_sub _ _ (h7.same _ _ hPWd))
          rw [hspL]
          exact ⟨u, rfl, sx _ _ hfl0, sx _ _ hcl, _, rfl, _, rfl, _, d, ⟨⟨vg, u, rfl, hgx, hud'⟩, (by show 2 ≤ 20; decide), hTx, hPx, (fun z => by rw [good_ok] at z; cases z), (fun _ _ => k)⟩, (fun _ z => by rw [hb] at z; cases z)⟩
        refine ⟨_, rfl, iteF ?_⟩
        have g8 := h7.go sf
        clear hfl0 hfl hcl h7
        exact ⟨⟨_, _, _, _, _, _, rfl⟩, out2 _ g8⟩
      · rintro σ Hc ⟨⟨o1, o2, o3, o4, o5, o6, rfl⟩, g⟩
        dsimp only [gName, tSeq, tAsg]
        refine ⟨_, _, rfl, rfl, ⟨by decide, by decide, by decide⟩, ?_⟩
        dsimp only
        rw [show (10 : Int) ^ (40 : Int).toNat = big from rfl]
        refine litH ⟨[], .lst (List.replicate 20 [Th.int 0]).flatten, [20], by kernel_rfl, on0, (by intro i hi; rw [List.mem_singleton.mp hi]; decide), fun v9 H9 s9 t9 _ => ?_⟩
        refine ⟨by show 4 ≤ sizeLine; decide, fun tg htg => ?_⟩
        have s10 := s9.trans (same_upd (o := .tup [.str "a", .int big, v9, .int 120]) htg)
        have t10 : ThAt (upd H9 tg (.tup [.str "a", .int big, v9, .int 120])) (.ref tg) great := .tup upd_same (.cons (.str _ (by decide)) (.cons (.int _) (.cons (t9.same (same_upd htg)) (.cons (.int _) .nil))))
        have g10 := g.go s10
        have hT10 := (hW.same (g10.same.trans wo1_sub))
        have hP10 := wo1_sub _ _ (g10.same _ _ hPW)
        generalize upd H9 tg (.tup [.str "a", .int big, v9, .int 120]) = H10 at t10 g10 hT10 hP10 ⊢
        refine litH ⟨[], .lst sayBook, [], by kernel_rfl, on0, (fun i hi => nomatch hi), fun vb H11 s11 t11 _ => ?_⟩
        refine ⟨_, rfl, .lst sayBook, great, ⟨⟨_, _, rfl, t11, t10.same s11⟩, (by show 1 ≤ 20; decide), hT10.same s11, s11 _ _ hP10, (fun z => by rw [say_ok] at z; cases z), (fun _ z => by rw [great_ok] at z; cases z)⟩, fun _ _ es x z hs st eE eC okE okC H12 p l en R s12 ep el een hR _ => ?_⟩
        obtain ⟨e, rfl, e1, e2⟩ := say_es eE
        obtain ⟨rfl, rfl, rfl⟩ := great_of eC
        obtain ⟨r1, r2⟩ := runs_say e1 e2 hR
        rw [r1] at el
        rw [r2] at een
        refine ⟨_, _, rfl, rfl, ⟨by decide, by decide, by decide⟩, ?_⟩
        dsimp only
        rw [show (10 : Int) ^ (40 : Int).toNat = big from rfl]
        refine ⟨by show 1 ≤ sizeLine; decide, fun la hla => ?_⟩
        have s13 := same_upd (o := .lst [V.int big]) hla
        have ela : upd H12 la (.lst [V.int big]) la = _ := upd_same
        generalize upd H12 la (.lst [V.int big]) = H13 at s13 ela ⊢
        refine ⟨_, _, rfl, rfl, ⟨by decide, by decide, by decide⟩, ?_⟩
        dsimp only
        rw [show (10 : Int) ^ (40 : Int).toNat = big from rfl]
        refine ⟨by show 2 ≤ sizeLine; decide, fun lb hlb => ?_⟩
        have s14 := same_upd (o := .tup [.str "done", .int big]) hlb
        have elb : upd H13 lb (.tup [.str "done", .int big]) lb = _ := upd_same
        generalize upd H13 lb (.tup [.str "done", .int big]) = H14 at s14 elb ⊢
        refine ⟨by show 2 ≤ sizeLine; decide, fun lc hlc => ?_⟩
        have s15 := same_upd (o := .tup [.ref la, .ref lb]) hlc
        have elc : upd H14 lc (.tup [.ref la, .ref lb]) lc = _ := upd_same
        generalize upd H14 lc (.tup [.ref la, .ref lb]) = H15 at s15 elc ⊢
        have s25 := s13.trans (s14.trans s15)
        have fb : Flat (.list [.int big]) 2 := flat_list fun d hd => by rw [List.mem_singleton.mp hd]; exact flat_int _
        have fd1 : Flat (.tuple [.str "done", .int big]) 2 := flat_tuple fun d hd => by
          rcases List.mem_cons.mp hd with rfl | hd
          · exact flat_str (by decide +kernel)
          · rw [List.mem_singleton.mp hd]; exact flat_int _
        have ff : Flat (.tuple [.list [.int big], .tuple [.str "done", .int big]]) 3 := flat_tuple fun d hd => by
          rcases List.mem_cons.mp hd with rfl | hd
          · exact fb
          · rw [List.mem_singleton.mp hd]; exact fd1
        refine ⟨.tuple [.list [.int big], .tuple [.str "done", .int big]], .tuple [.list [.int big], .tuple [.str "done", .int big]],
          .tup (SqT.of (s25 _ _ ep)) (.cons (.lst (SqL.of (s25 _ _ el)) (.cons (.int _) .nil)) (.cons (.tup (SqT.of (s25 _ _ een)) (.cons (.str _) (.cons (.int _) .nil))) .nil)),
          .tup (SqT.of elc) (.cons (.lst (SqL.of (s15 _ _ (s14 _ _ ela))) (.cons (.int _) .nil)) (.cons (.tup (SqT.of (s15 _ _ elb)) (.cons (.str _) (.cons (.int _) .nil))) .nil)), ff.shaped, ff.shaped, ?_⟩
        rw [ff.refl]
        refine ⟨_, rfl, iteT ?_⟩
        refine ⟨by show 0 ≤ sizeLine; decide, fun pe hpe => ?_⟩
        have s16 := same_upd (o := .lst []) hpe
        have ePe : upd H15 pe (.lst []) pe = _ := upd_same
        generalize upd H15 pe (.lst []) = H16 at s16 ePe ⊢
        have s26 := s11.trans (s12.trans (s25.trans s16))
        refine ⟨_, rfl, .lst [], great, ⟨⟨_, _, rfl, .lst ePe .nil, t10.same s26⟩, (by show 0 ≤ 20; decide), hT10.same s26, s26 _ _ hP10, (fun z => nomatch z), (fun _ z => by rw [great_ok] at z; cases z)⟩, fun _ _ es x z hs st eE eC okE okC H17 R s17 hR _ => ?_⟩
        have ees := nil_es eE
        subst ees
        obtain ⟨rfl, rfl, rfl⟩ := great_of eC
        rw [runs_lost hR]
        have f0 := flat_int 0
        refine ⟨.int 0, .int 0, .int 0, .int 0, f0.shaped, f0.shaped, ?_⟩
        rw [f0.refl]
        obtain ⟨ps17, hp17⟩ := (g10.go (s26.trans s17)).tab.tab
        have s27 := s26.trans s17
        exact q _ ps17 (hT10.same s27) (s27 _ _ hP10) hp17
end
end MG

set_option Elab.async false
set_option linter.all false
set_option maxRecDepth 100000
namespace MG
open PySem PySem.Spec PyProof.Rows L2

/-- as Tabs, but the table at P0 is known in full, and empty -/
def tabO (P0 b : Addr) : HO := if b = P0 then tabE b #[] else tabH b
def TabsS (P0 : Addr) (ts : List Addr) (H : Hp) : Prop := ∀ P ∈ ts, H P = some (tabO P0 P)
def TabsE (P0 : Addr) (ts : List Addr) (H : Hp) : Prop := ∀ P ∈ ts, (P ≠ P0 → H P = some (tabH P)) ∧ (P = P0 → ∃ ps, H P = some (tabE P ps))
theorem law_callTL {P0 : Addr} {P : Program} {w : World} {K : PySem.W.Frag} {mg mb : Str → Option Value} {CX : CXT} {k : Nat} {fa a : Addr} {fd : FuncData} {x : Str} {sp : Sp} {s₁ : Shared} {vs : List Value} {ns : List Int} {tabs : List (Addr × Addr)} {bm : Addr} {ob : Obj}
    (KX : K.In s₁.heap) (hns : s₁.heap.Ns mainGlobals mg) (hb : s₁.heap.Ns builtinsNs mb) (hbb : ∀ x : Str, x ≠ "__name__" → mb x = bootBuiltins x) (hlim : s₁.heap.NoLimit) (hg : s₁.gens = #[]) (hB : BMod s₁.heap mainGlobals mg bm ob)
    (hT : ∀ q ∈ tabs, s₁.heap.get? q.2 = some (PySem.W.tabObj #[])) (hC : ∀ q ∈ tabs, PySem.W.codeHdIn K q.1 q.2 = true) (hKT : ∀ q ∈ tabs, K.lookup q.2 = none)
    (ha : s₁.heap.get? a = some { cls := .type "list", data := .seq vs.toArray }) (hi : IntsAre vs ns) (hl : ns.length ≤ sizeLine) (hr : Room k callerA)
    (F : ∀ base : Heap, K.In base → base.Ns mainGlobals mg → BMod base mainGlobals mg bm ob → FnOk P w K mg base CX k fa fd [x] sp) (hbind : ∀ (s : Shared) (u : Value), BindsTo s fd ⟨[u], []⟩ [(x, u)])
    (hsp : ∀ H : Hp, OnlyT (tabs.map (·.2)) H → TabsS P0 (tabs.map (·.2)) H → SqL K H a (ns.map V.int) → sp [.ref a] H (fun v H' => v = .bl true ∧ TabsE P0 (tabs.map (·.2)) H') fun _ _ _ => False)
    (hCX : ∀ H e s', CX [] H s₁ (fun _ _ _ => False) e s' → False) :
    codeAny (model P w) callerA (.call (.ref fa) ⟨[.ref a], []⟩) (fun r s' => r = .ok (.ret (.bool true)) ∧ OldK s₁.heap s'.heap ∧ s'.os = s₁.os ∧ AllBare s'.gens) s₁ := by
  have rv := vals_ints hi
  have lenV := hi.length
  have hT' : ∀ b ∈ tabs.map (·.2), s₁.heap.get? b = some (PySem.W.tabObj #[]) := fun b h => by
    obtain ⟨q, hq, rfl⟩ := List.mem_map.mp h
    exact hT q hq
  have hKT' : ∀ b ∈ tabs.map (·.2), K.lookup b = none := fun b h => by
    obtain ⟨q, hq, rfl⟩ := List.mem_map.mp h
    exact hKT q hq
  have hCT : ∀ b ∈ tabs.map (·.2), ∃ c, s₁.heap.TableAt c b #[] := fun b h => by
    obtain ⟨q, hq, rfl⟩ := List.mem_map.mp h
    exact ⟨q.1, (PySem.W.codeHd_of_K KX (hC q hq)).tab (hT q hq)⟩
  generalize tabs.map (·.2) = ts at hsp hT' hKT' hCT
  have aT : a ∉ ts := fun z => by
    have q := hT' a z
    rw [ha] at q
    have q' := congrArg Obj.cls (Option.some.inj q)
    cases q'
  -- from an abstract heap in which nothing but the script and the tables may be tracked
  have core : ∀ H : Hp, OnlyT ts H → TabsS P0 ts H → SqL K H a (ns.map V.int) → HOk P w H s₁.heap → (∀ b, H b ≠ none → b = a ∨ b ∈ ts) → (H a ≠ none → K.lookup a = none) →
      codeAny (model P w) callerA (.call (.ref fa) ⟨[.ref a], []⟩) (fun r s' => r = .ok (.ret (.bool true)) ∧ OldK s₁.heap s'.heap ∧ s'.os = s₁.os ∧ AllBare s'.gens) s₁ := by
    intro H hO hTb hS hok hA hKa
    have base_of : ∀ {b : Addr} {o : Obj}, s₁.heap.get? b = some o → H b = none → (hidT s₁.heap H).get? b = some o := fun e n => hidT_get e n
    have noA : ∀ {b : Addr} {o : Obj}, s₁.heap.get? b = some o → o.cls ≠ .none → o.cls ≠ .type "list" → H b = none := fun {b o} e d1 d2 => by
      cases q : H b with
      | none => rfl
      | some u =>
        rcases hA b (by rw [q]; simp) with e' | e'
        · subst e'
          rw [ha] at e; cases e
          exact absurd rfl d2
        · rw [hT' b e'] at e; cases e
          exact absurd rfl d1
    have noD : ∀ {b : Addr} {o : Obj} {es : Array DictEntry} {ep : Nat}, s₁.heap.get? b = some o → o.data = .dict es ep → H b = none := fun {b o es ep} e d => by
      cases q : H b with
      | none => rfl
      | some u =>
        rcases hA b (by rw [q]; simp) with e' | e'
        · subst e'
          rw [ha] at e; cases e; cases d
        · rw [hT' b e'] at e; cases e; cases d
    have nsK : ∀ {b : Addr} {m : Str → Option Value}, s₁.heap.Ns b m → (hidT s₁.heap H).Ns b m := fun {b m} ⟨o, es, ep, e, d, r⟩ => ⟨o, es, ep, base_of e (noD e d), d, r⟩
    have hKb : K.In (hidT s₁.heap H) := fun b o e => base_of (KX b o e) (by
      cases q : H b with
      | none => rfl
      | some u =>
        rcases hA b (by rw [q]; simp) with e' | e'
        · subst e'
          rw [hKa (by rw [q]; simp)] at e; cases e
        · rw [hKT' b e'] at e; cases e)
    have hM : Mod K mg (hidT s₁.heap H) := ⟨hKb, nsK hns, ⟨mb, nsK hb, hbb⟩, let ⟨mc, h1, h2⟩ := hlim; ⟨mc, nsK h1, h2⟩⟩
    have hBb : BMod (hidT s₁.heap H) mainGlobals mg bm ob := ⟨nsK hB.ns, hB.name, hB.ne, base_of hB.obj (noA hB.obj (by rw [hB.cls]; simp) (by rw [hB.cls]; simp)), hB.cls, hB.dict, hB.data⟩
    have e0 : Env0 P w K mg (hidT s₁.heap H) callerA [] s₁ H := ⟨rfl, hM, fun b o e => of_hidT e, Nat.le_of_eq (hidT_size _ _), trivial, fun b hb => absurd (show b ∈ ([] : List Addr) from hb) (by simp), hok, .of_eq hg⟩
    refine codeAny_mono ((F _ hKb (nsK hns) hBb).run callerA [] s₁ H ⟨[.ref a], []⟩ [.ref a] [.ref a] _ _ hr e0 (hbind s₁ (.ref a)) (.cons rfl .nil) (hsp H hO hTb hS)) fun r s' h => ?_
    cases r with
    | error e => exact (hCX H e s' h).elim
    | ok fl =>
      cases fl with
      | next => exact False.elim h
      | brk => exact False.elim h
      | cont => exact False.elim h
      | ret u =>
        obtain ⟨v, H', os, bare, un, hok', r', q, tb'⟩ := h
        have q' : v = .bl true := q
        subst q'
        obtain rfl : u = Value.bool true := r'
        have kept : ∀ b o, b ∉ ts → s₁.heap.get? b = some o → s'.heap.get? b = some o := fun b o nb e => by
          cases q : H b with
          | none => exact un.keep b o e q (by intro z; exact absurd (show b ∈ ([] : List Addr) from z) (by simp)) (by simp)
          | some u =>
            rcases hO b nb with z | ⟨ob, xs, z⟩
            · rw [q] at z; cases z
            · have z2 := un.frzs b ob _ z
              obtain ⟨e1, _⟩ := hok b _ z
              obtain ⟨e2, _⟩ := hok' b _ z2
              rw [e] at e1; cases e1
              exact e2
        have grown : ∀ b ∈ ts, ∃ ps, s'.heap.get? b = some (PySem.W.tabObj ps) := fun b hb => by
          by_cases z : b = P0
          · obtain ⟨ps, e⟩ := (tb' b hb).2 z
            obtain ⟨⟨e, _⟩, _⟩ := hok' b _ e
            exact ⟨ps, e⟩
          · obtain ⟨⟨ps, e, _⟩, _⟩ := hok' b _ ((tb' b hb).1 z)
            exact ⟨ps, e⟩
        refine ⟨rfl, ⟨fun b o e => ?_, fun b o e => ?_⟩, os, bare⟩
        · by_cases hb : b ∈ ts
          · obtain ⟨ps, e2⟩ := grown b hb
            obtain ⟨c, tc⟩ := hCT b hb
            have eo : o = PySem.W.tabObj #[] := Option.some.inj (e.symm.trans (hT' b hb))
            subst eo
            exact .inr (.inl ⟨tc.isCodeTable, rfl, #[], ps, rfl, by rw [e2]; simp⟩)
          · exact .inl (kept b o hb e)
        · by_cases hb : b ∈ ts
          · obtain ⟨ps, e2⟩ := grown b hb
            exact ⟨_, e2⟩
          · exact ⟨o, kept b o hb e⟩
  have tabOk : ∀ {H : Hp} (b : Addr), b ∈ ts → ObjOk P w H s₁.heap b (tabO P0 b) := fun b hb => by
    unfold tabO
    split
    · exact tabE_ok (hT' b hb) trivial
    · exact tab_ok (hT' b hb) trivial
  cases hk : K.lookup a with
  | some o =>
    -- the script is one of the module's own objects
    have e := KX a o hk
    rw [ha] at e
    cases e
    refine core (fun b => if b ∈ ts then some (tabO P0 b) else none) (fun b hb => .inl (if_neg hb)) (fun b hb => if_pos hb) (.inr ⟨_, vs.toArray, _, hk, rfl, rfl, rfl, by rw [List.size_toArray, lenV]; exact hl, by simpa using rv⟩) (fun b u z => ?_) (fun b z => ?_) fun z => absurd (if_neg aT) z
    · by_cases hb : b ∈ ts
      · have z' := (if_pos hb).symm.trans z
        cases z'
        exact tabOk b hb
      · have z' := (if_neg hb).symm.trans z
        cases z'
    · by_cases hb : b ∈ ts
      · exact .inr hb
      · exact absurd (if_neg hb) z
  | none =>
    refine core (fun b => if b = a then some (.frz { cls := .type "list", data := .seq vs.toArray } (.lst (ns.map V.int))) else if b ∈ ts then some (tabO P0 b) else none) (fun b hb => ?_) (fun b hb => ?_) (.inl (.inr ⟨{ cls := .type "list", data := .seq vs.toArray }, if_pos rfl⟩)) (fun b u z => ?_) (fun b z => ?_) fun _ => hk
    · by_cases hba : b = a
      · exact .inr ⟨_, _, if_pos hba⟩
      · exact .inl ((if_neg hba).trans (if_neg hb))
    · have hba : b ≠ a := fun z => aT (z ▸ hb)
      exact (if_neg hba).trans (if_pos hb)
    · by_cases hb : b = a
      · have z' := (if_pos hb).symm.trans z
        cases z'
        subst hb
        exact ⟨ha, by rw [List.length_map]; exact hl, vs, _, rv, ha⟩
      · have z' := (if_neg hb).symm.trans z
        by_cases hbt : b ∈ ts
        · have z2 := (if_pos hbt).symm.trans z'
          cases z2
          exact tabOk b hbt
        · have z2 := (if_neg hbt).symm.trans z'
          cases z2
    · by_cases hb : b = a
      · exact .inl hb
      · by_cases hbt : b ∈ ts
        · exact .inr hbt
        · exact absurd ((if_neg hb).trans (if_neg hbt)) z
end MG

set_option Elab.async false
set_option linter.all false
set_option maxRecDepth 100000
namespace MG
open PySem PySem.Spec PyProof.Rows L2

theorem walk_ofTL {P0 : Addr} {l : PySem.W.OpenLaw} {n k : Nat} {q : Program} {loose : List Str} {XP : (Str → Option Value) → Heap → Prop} {YP : World → Heap → Prop} {d : DefRec} {K : Params → PySem.W.Frag} {sp : PySem.W.Frag → Sp} {x : Str} {tabs : List (Addr × Addr)}
    (hn : l.most = some n) (hn2 : n ≤ sizeLine) (hdf : d.params.defaults = []) (hr : Room k callerA)
    (hY : ∀ (w : World) (h : Heap), YP w h → (K w.params).In h ∧ ∀ q ∈ tabs, h.get? q.2 = some (PySem.W.tabObj #[]))
    (hC : ∀ (w : World), ∀ q ∈ tabs, PySem.W.codeHdIn (K w.params) q.1 q.2 = true ∧ (K w.params).lookup q.2 = none)
    (F : ∀ (w : World) (mg : Str → Option Value) (fa : Addr) (h : Heap), (K w.params).In h → h.Ns mainGlobals mg → mg d.name = some (.ref fa) →
      ∃ fd : FuncData, (∀ (s : Shared) (u : Value), BindsTo s fd ⟨[u], []⟩ [(x, u)]) ∧
        ∀ base : Heap, (K w.params).In base → base.Ns mainGlobals mg → BM mg base → FnOk l.prog w (K w.params) mg base CX0 k fa fd [x] (sp (K w.params)))
    (hsp : ∀ (K : PySem.W.Frag) (H : Hp) (a : Addr) (ns : List Int), ns.length ≤ n → OnlyT (tabs.map (·.2)) H → TabsS P0 (tabs.map (·.2)) H → SqL K H a (ns.map V.int) → sp K [.ref a] H (fun v H' => v = .bl true ∧ TabsE P0 (tabs.map (·.2)) H') fun _ _ _ => False) :
    PySem.W.WalkO q loose XP YP l.row.toRowW d [] (fun f vs => PySem.call f vs) := by
  refine Att.attach_call hn hdf fun w s₀ s₁ mg mb fa o pm cd doc a vs ns G Y ho hd hcd hmg hobj hints hlen hg => ?_
  obtain ⟨KX, TX⟩ := hY w _ Y
  obtain ⟨fd, hb, hF⟩ := F w mg fa _ KX G.T.g hmg
  obtain ⟨bm, ob, hB⟩ := PySem.W.bmod_of_top G.T
  exact law_callTL (P0 := P0) (tabs := tabs) KX G.T.g G.T.b G.T.builtins G.T.nolimit hg hB TX (fun q hq => (hC w q hq).1) (fun q hq => (hC w q hq).2) hobj hints (Nat.le_trans hlen hn2) hr
    (fun base kb nb bb => hF base kb nb ⟨bm, ob, bb⟩) hb (fun H hO hT hS => hsp _ H a ns hlen hO hT hS) fun H e s' z => z
end MG

set_option Elab.async false
set_option linter.all false
set_option maxRecDepth 100000
set_option maxHeartbeats 1000000
namespace MG
open PySem PySem.Spec PyProof.Rows L2

theorem FunG.fn {K : PySem.W.Frag} {x qual : Str} {st : Stmt} {f c Pt : Addr} {fd : FuncData} (F : FunG K x qual st f fd c Pt) (kp : PySem.W.keepIn K (.ref f) = true) : Fun K x qual st f fd :=
  let ⟨oc, od, kV, doc, pm, an, ct, osl, e1, e2, e3⟩ := F.ex
  ⟨⟨oc, od, kV, doc, pm, an, .ref c, ct, osl, e1, e2, e3⟩, kp⟩
theorem tup_in {K : PySem.W.Frag} {a : Addr} {od : Option Addr} {its : Array Value} {n : Nat} {sl : Array (Option Value)} {xs : List V} (h : K.lookup a = some ⟨.type "tuple", od, .seq its n, sl⟩) (hz : its.size ≤ sizeLine) (hv : Vals xs its.toList) (H : Hp) : SqT K H a xs := .inr ⟨_, its, n, h, rfl, rfl, hz, hv⟩
theorem all_mk {l : PySem.W.OpenLaw} {w : World} {K : PySem.W.Frag} {h : Heap} {mg : Str → Option Value} {fa : Addr} {T : TB} {Ph : Addr} {Pl : Addr} {C_BadWord : Addr} {C_BadBody : Addr} {C_BadBook : Addr} {C_BadChanges : Addr} {C_BadCall : Addr} {C_BadText : Addr} {C_BadName : Addr} {C_Unknown : Addr} {C_Over : Addr} {C_Underway : Addr} {C_TooMany : Addr} {C_StrideError : Addr} {C : Addr} 
    {f0 : Addr} {od0 an0 : Option Addr} {sl0 : Array (Option Value)} {oc0 kV0 dc0 pm0 cd0 ct0 : Value}
    {f1 : Addr} {od1 an1 : Option Addr} {sl1 : Array (Option Value)} {oc1 kV1 dc1 pm1 cd1 ct1 : Value}
    {f2 : Addr} {od2 an2 : Option Addr} {sl2 : Array (Option Value)} {oc2 kV2 dc2 pm2 cd2 ct2 : Value}
    {f3 : Addr} {od3 an3 : Option Addr} {sl3 : Array (Option Value)} {oc3 kV3 dc3 pm3 cd3 ct3 : Value}
    {f4 : Addr} {od4 an4 : Option Addr} {sl4 : Array (Option Value)} {oc4 kV4 dc4 pm4 cd4 ct4 : Value}
    {f5 : Addr} {od5 an5 : Option Addr} {sl5 : Array (Option Value)} {oc5 kV5 dc5 pm5 cd5 ct5 : Value}
    {f6 : Addr} {od6 an6 : Option Addr} {sl6 : Array (Option Value)} {oc6 kV6 dc6 pm6 cd6 ct6 : Value}
    {f7 : Addr} {od7 an7 : Option Addr} {sl7 : Array (Option Value)} {oc7 kV7 dc7 pm7 cd7 ct7 : Value}
    {f8 : Addr} {od8 an8 : Option Addr} {sl8 : Array (Option Value)} {oc8 kV8 dc8 pm8 cd8 ct8 : Value}
    {f9 : Addr} {od9 an9 : Option Addr} {sl9 : Array (Option Value)} {oc9 kV9 dc9 pm9 cd9 ct9 : Value}
    {f10 k10 : Addr} {od10 an10 : Option Addr} {sl10 : Array (Option Value)} {oc10 kV10 dc10 pm10 ct10 : Value}
    {f11 : Addr} {od11 an11 : Option Addr} {sl11 : Array (Option Value)} {oc11 kV11 dc11 pm11 cd11 ct11 : Value}
    {f12 k12 : Addr} {od12 an12 : Option Addr} {sl12 : Array (Option Value)} {oc12 kV12 dc12 pm12 ct12 : Value}
    {f13 : Addr} {od13 an13 : Option Addr} {sl13 : Array (Option Value)} {oc13 kV13 dc13 pm13 cd13 ct13 : Value}
    {f14 : Addr} {od14 an14 : Option Addr} {sl14 : Array (Option Value)} {oc14 kV14 dc14 pm14 cd14 ct14 : Value}
    {f15 : Addr} {od15 an15 : Option Addr} {sl15 : Array (Option Value)} {oc15 kV15 dc15 pm15 cd15 ct15 : Value}
    {f16 k16 : Addr} {od16 an16 : Option Addr} {sl16 : Array (Option Value)} {oc16 kV16 dc16 pm16 ct16 : Value}
    {f17 : Addr} {od17 an17 : Option Addr} {sl17 : Array (Option Value)} {oc17 kV17 dc17 pm17 cd17 ct17 : Value}
    {f18 k18 : Addr} {od18 an18 : Option Addr} {sl18 : Array (Option Value)} {oc18 kV18 dc18 pm18 ct18 : Value}
    {f19 : Addr} {od19 an19 : Option Addr} {sl19 : Array (Option Value)} {oc19 kV19 dc19 pm19 cd19 ct19 : Value}
    {f20 : Addr} {od20 an20 : Option Addr} {sl20 : Array (Option Value)} {oc20 kV20 dc20 pm20 cd20 ct20 : Value}
    {f21 : Addr} {od21 an21 : Option Addr} {sl21 : Array (Option Value)} {oc21 kV21 dc21 pm21 cd21 ct21 : Value}
    {f22 : Addr} {od22 an22 : Option Addr} {sl22 : Array (Option Value)} {oc22 kV22 dc22 pm22 cd22 ct22 : Value}
    {f23 : Addr} {od23 an23 : Option Addr} {sl23 : Array (Option Value)} {oc23 kV23 dc23 pm23 cd23 ct23 : Value}
    {f24 : Addr} {od24 an24 : Option Addr} {sl24 : Array (Option Value)} {oc24 kV24 dc24 pm24 cd24 ct24 : Value}
    {f25 : Addr} {od25 an25 : Option Addr} {sl25 : Array (Option Value)} {oc25 kV25 dc25 pm25 cd25 ct25 : Value}
    {f26 : Addr} {od26 an26 : Option Addr} {sl26 : Array (Option Value)} {oc26 kV26 dc26 pm26 cd26 ct26 : Value}
    {f27 : Addr} {od27 an27 : Option Addr} {sl27 : Array (Option Value)} {oc27 kV27 dc27 pm27 cd27 ct27 : Value}
    {f28 : Addr} {od28 an28 : Option Addr} {sl28 : Array (Option Value)} {oc28 kV28 dc28 pm28 cd28 ct28 : Value}
    {f29 : Addr} {od29 an29 : Option Addr} {sl29 : Array (Option Value)} {oc29 kV29 dc29 pm29 cd29 ct29 : Value}
    {f30 : Addr} {od30 an30 : Option Addr} {sl30 : Array (Option Value)} {oc30 kV30 dc30 pm30 cd30 ct30 : Value}
    {f31 : Addr} {od31 an31 : Option Addr} {sl31 : Array (Option Value)} {oc31 kV31 dc31 pm31 cd31 ct31 : Value}
    {f32 : Addr} {od32 an32 : Option Addr} {sl32 : Array (Option Value)} {oc32 kV32 dc32 pm32 cd32 ct32 : Value}
    {f33 : Addr} {od33 an33 : Option Addr} {sl33 : Array (Option Value)} {oc33 kV33 dc33 pm33 cd33 ct33 : Value}
    {f34 k34 : Addr} {od34 an34 : Option Addr} {sl34 : Array (Option Value)} {oc34 kV34 dc34 pm34 ct34 : Value}
    {t_LONGEST_WORD : Tok}
    {t_MOST_STEPS : Tok}
    {t_LARGEST_PART : Tok}
    {t_CALL_PARTS : Tok}
    {t_MOST_HEARD : Tok}
    {t_MOST_STRENGTH : Tok}
    {a_BARE_STEPS : Addr} {od_BARE_STEPS : Option Addr} {nn_BARE_STEPS : Nat} {sl_BARE_STEPS : Array (Option Value)} {u_BARE_STEPS_0 u_BARE_STEPS_1 u_BARE_STEPS_2 : Tok}
    {a_NUMBER_STEPS : Addr} {od_NUMBER_STEPS : Option Addr} {nn_NUMBER_STEPS : Nat} {sl_NUMBER_STEPS : Array (Option Value)} {u_NUMBER_STEPS_0 u_NUMBER_STEPS_1 u_NUMBER_STEPS_2 : Tok}
    {a_WORD_STEPS : Addr} {od_WORD_STEPS : Option Addr} {nn_WORD_STEPS : Nat} {sl_WORD_STEPS : Array (Option Value)} {u_WORD_STEPS_0 u_WORD_STEPS_1 : Tok}
    (X : K.In h) (G : h.Ns mainGlobals mg) (hfa : mg "law" = some (.ref fa))
    (aC_Runner : PySem.W.nsIn K mainGlobals "Runner" = some (some (.ref C))) (pg_Runner : PySem.W.plainGet K C Str.empty = true) (hd_Runner : PySem.W.hasDictIn K C = true) (po_Runner : PySem.W.plainOver K C = true) (sa_Runner : PySem.W.findIn K (.ref C) "__setattr__" = some (some (.builtin "object.__setattr__"))) (mk_Runner : PySem.W.makesIn K C = true) (kc_Runner : PySem.W.keepIn K (.ref C) = true)
    (nf_Runner_bodies : PySem.W.findIn K (.ref C) "bodies" = some none)
    (nf_Runner_in_hand : PySem.W.findIn K (.ref C) "in_hand" = some none)
    (nf_Runner_heard : PySem.W.findIn K (.ref C) "heard" = some none)
    (nf_Runner_strength : PySem.W.findIn K (.ref C) "strength" = some none)
    (nf_Runner_taken : PySem.W.findIn K (.ref C) "taken" = some none)
    (nf_Runner_said : PySem.W.findIn K (.ref C) "said" = some none)
    (nf_Runner_ended : PySem.W.findIn K (.ref C) "ended" = some none)
    (nf_Runner_uses : PySem.W.findIn K (.ref C) "uses" = some none)
    (nf_Runner_begun : PySem.W.findIn K (.ref C) "begun" = some none)
    (a0 : PySem.W.nsIn K mainGlobals "bodies_of" = some (some (.ref f0)))
    (l0 : K.lookup f0 = some ⟨oc0, od0, .func (PySem.W.fnOf "bodies_of" "bodies_of" (defArgs s_bodies_of) (defBody s_bodies_of) (defScope s_bodies_of) .none kV0 dc0 pm0 an0 cd0 ct0), sl0⟩) (c0 : PySem.W.codeIn K cd0 "bodies_of" = true) (k_0 : PySem.W.keepIn K (.ref f0) = true)
    (a1 : PySem.W.nsIn K mainGlobals "copied" = some (some (.ref f1)))
    (l1 : K.lookup f1 = some ⟨oc1, od1, .func (PySem.W.fnOf "copied" "copied" (defArgs s_copied) (defBody s_copied) (defScope s_copied) .none kV1 dc1 pm1 an1 cd1 ct1), sl1⟩) (c1 : PySem.W.codeIn K cd1 "copied" = true) (k_1 : PySem.W.keepIn K (.ref f1) = true)
    (a2 : PySem.W.findIn K (.ref C) "hear" = some (some (.ref f2))) (i_2 : PySem.W.isFn K (.ref f2) = true)
    (l2 : K.lookup f2 = some ⟨oc2, od2, .func (PySem.W.fnOf "hear" "Runner.hear" (defArgs s_Runner_hear) (defBody s_Runner_hear) (defScope s_Runner_hear) .none kV2 dc2 pm2 an2 cd2 ct2), sl2⟩) (c2 : PySem.W.codeIn K cd2 "Runner.hear" = true) (k_2 : PySem.W.keepIn K (.ref f2) = true)
    (a3 : PySem.W.findIn K (.ref C) "use" = some (some (.ref f3))) (i_3 : PySem.W.isFn K (.ref f3) = true)
    (l3 : K.lookup f3 = some ⟨oc3, od3, .func (PySem.W.fnOf "use" "Runner.use" (defArgs s_Runner_use) (defBody s_Runner_use) (defScope s_Runner_use) .none kV3 dc3 pm3 an3 cd3 ct3), sl3⟩) (c3 : PySem.W.codeIn K cd3 "Runner.use" = true) (k_3 : PySem.W.keepIn K (.ref f3) = true)
    (a4 : PySem.W.findIn K (.ref C) "settle" = some (some (.ref f4))) (i_4 : PySem.W.isFn K (.ref f4) = true)
    (l4 : K.lookup f4 = some ⟨oc4, od4, .func (PySem.W.fnOf "settle" "Runner.settle" (defArgs s_Runner_settle) (defBody s_Runner_settle) (defScope s_Runner_settle) .none kV4 dc4 pm4 an4 cd4 ct4), sl4⟩) (c4 : PySem.W.codeIn K cd4 "Runner.settle" = true) (k_4 : PySem.W.keepIn K (.ref f4) = true)
    (a5 : PySem.W.findIn K (.ref C) "act" = some (some (.ref f5))) (i_5 : PySem.W.isFn K (.ref f5) = true)
    (l5 : K.lookup f5 = some ⟨oc5, od5, .func (PySem.W.fnOf "act" "Runner.act" (defArgs s_Runner_act) (defBody s_Runner_act) (defScope s_Runner_act) .none kV5 dc5 pm5 an5 cd5 ct5), sl5⟩) (c5 : PySem.W.codeIn K cd5 "Runner.act" = true) (k_5 : PySem.W.keepIn K (.ref f5) = true)
    (a6 : PySem.W.findIn K (.ref C) "take_step" = some (some (.ref f6))) (i_6 : PySem.W.isFn K (.ref f6) = true)
    (l6 : K.lookup f6 = some ⟨oc6, od6, .func (PySem.W.fnOf "take_step" "Runner.take_step" (defArgs s_Runner_take_step) (defBody s_Runner_take_step) (defScope s_Runner_take_step) .none kV6 dc6 pm6 an6 cd6 ct6), sl6⟩) (c6 : PySem.W.codeIn K cd6 "Runner.take_step" = true) (k_6 : PySem.W.keepIn K (.ref f6) = true)
    (a7 : PySem.W.findIn K (.ref C) "__init__" = some (some (.ref f7))) (i_7 : PySem.W.isFn K (.ref f7) = true)
    (l7 : K.lookup f7 = some ⟨oc7, od7, .func (PySem.W.fnOf "__init__" "Runner.__init__" (defArgs s_Runner_init) (defBody s_Runner_init) (defScope s_Runner_init) .none kV7 dc7 pm7 an7 cd7 ct7), sl7⟩) (c7 : PySem.W.codeIn K cd7 "Runner.__init__" = true) (k_7 : PySem.W.keepIn K (.ref f7) = true)
    (a8 : PySem.W.findIn K (.ref C) "told_uses" = some (some (.ref f8))) (i_8 : PySem.W.isFn K (.ref f8) = true)
    (l8 : K.lookup f8 = some ⟨oc8, od8, .func (PySem.W.fnOf "told_uses" "Runner.told_uses" (defArgs s_Runner_told_uses) (defBody s_Runner_told_uses) (defScope s_Runner_told_uses) .none kV8 dc8 pm8 an8 cd8 ct8), sl8⟩) (c8 : PySem.W.codeIn K cd8 "Runner.told_uses" = true) (k_8 : PySem.W.keepIn K (.ref f8) = true)
    (a9 : PySem.W.nsIn K mainGlobals "is_number" = some (some (.ref f9)))
    (l9 : K.lookup f9 = some ⟨oc9, od9, .func (PySem.W.fnOf "is_number" "is_number" (defArgs s_is_number) (defBody s_is_number) (defScope s_is_number) .none kV9 dc9 pm9 an9 cd9 ct9), sl9⟩) (c9 : PySem.W.codeIn K cd9 "is_number" = true) (k_9 : PySem.W.keepIn K (.ref f9) = true)
    (a10 : PySem.W.nsIn K mainGlobals "is_word" = some (some (.ref f10)))
    (l10 : K.lookup f10 = some ⟨oc10, od10, .func (PySem.W.fnOf "is_word" "is_word" (defArgs s_is_word) (defBody s_is_word) (defScope s_is_word) .none kV10 dc10 pm10 an10 (.ref k10) ct10), sl10⟩) (c10 : PySem.W.codeIn K (.ref k10) "is_word" = true) (k_10 : PySem.W.keepIn K (.ref f10) = true)
    (h10 : PySem.W.codeHdIn K k10 T.w = true)
    (a11 : PySem.W.nsIn K mainGlobals "is_step" = some (some (.ref f11)))
    (l11 : K.lookup f11 = some ⟨oc11, od11, .func (PySem.W.fnOf "is_step" "is_step" (defArgs s_is_step) (defBody s_is_step) (defScope s_is_step) .none kV11 dc11 pm11 an11 cd11 ct11), sl11⟩) (c11 : PySem.W.codeIn K cd11 "is_step" = true) (k_11 : PySem.W.keepIn K (.ref f11) = true)
    (a12 : PySem.W.nsIn K mainGlobals "is_steps" = some (some (.ref f12)))
    (l12 : K.lookup f12 = some ⟨oc12, od12, .func (PySem.W.fnOf "is_steps" "is_steps" (defArgs s_is_steps) (defBody s_is_steps) (defScope s_is_steps) .none kV12 dc12 pm12 an12 (.ref k12) ct12), sl12⟩) (c12 : PySem.W.codeIn K (.ref k12) "is_steps" = true) (k_12 : PySem.W.keepIn K (.ref f12) = true)
    (h12 : PySem.W.codeHdIn K k12 T.b = true)
    (a13 : PySem.W.nsIn K mainGlobals "is_body" = some (some (.ref f13)))
    (l13 : K.lookup f13 = some ⟨oc13, od13, .func (PySem.W.fnOf "is_body" "is_body" (defArgs s_is_body) (defBody s_is_body) (defScope s_is_body) .none kV13 dc13 pm13 an13 cd13 ct13), sl13⟩) (c13 : PySem.W.codeIn K cd13 "is_body" = true) (k_13 : PySem.W.keepIn K (.ref f13) = true)
    (a14 : PySem.W.nsIn K mainGlobals "has_word" = some (some (.ref f14)))
    (l14 : K.lookup f14 = some ⟨oc14, od14, .func (PySem.W.fnOf "has_word" "has_word" (defArgs s_has_word) (defBody s_has_word) (defScope s_has_word) .none kV14 dc14 pm14 an14 cd14 ct14), sl14⟩) (c14 : PySem.W.codeIn K cd14 "has_word" = true) (k_14 : PySem.W.keepIn K (.ref f14) = true)
    (a15 : PySem.W.nsIn K mainGlobals "has_body" = some (some (.ref f15)))
    (l15 : K.lookup f15 = some ⟨oc15, od15, .func (PySem.W.fnOf "has_body" "has_body" (defArgs s_has_body) (defBody s_has_body) (defScope s_has_body) .none kV15 dc15 pm15 an15 cd15 ct15), sl15⟩) (c15 : PySem.W.codeIn K cd15 "has_body" = true) (k_15 : PySem.W.keepIn K (.ref f15) = true)
    (a16 : PySem.W.nsIn K mainGlobals "is_book" = some (some (.ref f16)))
    (l16 : K.lookup f16 = some ⟨oc16, od16, .func (PySem.W.fnOf "is_book" "is_book" (defArgs s_is_book) (defBody s_is_book) (defScope s_is_book) .none kV16 dc16 pm16 an16 (.ref k16) ct16), sl16⟩) (c16 : PySem.W.codeIn K (.ref k16) "is_book" = true) (k_16 : PySem.W.keepIn K (.ref f16) = true)
    (h16 : PySem.W.codeHdIn K k16 T.k = true)
    (a17 : PySem.W.nsIn K mainGlobals "need_book" = some (some (.ref f17)))
    (l17 : K.lookup f17 = some ⟨oc17, od17, .func (PySem.W.fnOf "need_book" "need_book" (defArgs s_need_book) (defBody s_need_book) (defScope s_need_book) .none kV17 dc17 pm17 an17 cd17 ct17), sl17⟩) (c17 : PySem.W.codeIn K cd17 "need_book" = true) (k_17 : PySem.W.keepIn K (.ref f17) = true)
    (a18 : PySem.W.nsIn K mainGlobals "is_heard" = some (some (.ref f18)))
    (l18 : K.lookup f18 = some ⟨oc18, od18, .func (PySem.W.fnOf "is_heard" "is_heard" (defArgs s_is_heard) (defBody s_is_heard) (defScope s_is_heard) .none kV18 dc18 pm18 an18 (.ref k18) ct18), sl18⟩) (c18 : PySem.W.codeIn K (.ref k18) "is_heard" = true) (k_18 : PySem.W.keepIn K (.ref f18) = true)
    (h18 : PySem.W.codeHdIn K k18 Ph = true)
    (a19 : PySem.W.nsIn K mainGlobals "is_strength" = some (some (.ref f19)))
    (l19 : K.lookup f19 = some ⟨oc19, od19, .func (PySem.W.fnOf "is_strength" "is_strength" (defArgs s_is_strength) (defBody s_is_strength) (defScope s_is_strength) .none kV19 dc19 pm19 an19 cd19 ct19), sl19⟩) (c19 : PySem.W.codeIn K cd19 "is_strength" = true) (k_19 : PySem.W.keepIn K (.ref f19) = true)
    (a20 : PySem.W.nsIn K mainGlobals "is_call" = some (some (.ref f20)))
    (l20 : K.lookup f20 = some ⟨oc20, od20, .func (PySem.W.fnOf "is_call" "is_call" (defArgs s_is_call) (defBody s_is_call) (defScope s_is_call) .none kV20 dc20 pm20 an20 cd20 ct20), sl20⟩) (c20 : PySem.W.codeIn K cd20 "is_call" = true) (k_20 : PySem.W.keepIn K (.ref f20) = true)
    (a21 : PySem.W.nsIn K mainGlobals "checked_call" = some (some (.ref f21)))
    (l21 : K.lookup f21 = some ⟨oc21, od21, .func (PySem.W.fnOf "checked_call" "checked_call" (defArgs s_checked_call) (defBody s_checked_call) (defScope s_checked_call) .none kV21 dc21 pm21 an21 cd21 ct21), sl21⟩) (c21 : PySem.W.codeIn K cd21 "checked_call" = true) (k_21 : PySem.W.keepIn K (.ref f21) = true)
    (a22 : PySem.W.nsIn K mainGlobals "plain_run" = some (some (.ref f22)))
    (l22 : K.lookup f22 = some ⟨oc22, od22, .func (PySem.W.fnOf "plain_run" "plain_run" (defArgs s_plain_run) (defBody s_plain_run) (defScope s_plain_run) .none kV22 dc22 pm22 an22 cd22 ct22), sl22⟩) (c22 : PySem.W.codeIn K cd22 "plain_run" = true) (k_22 : PySem.W.keepIn K (.ref f22) = true)
    (a23 : PySem.W.nsIn K mainGlobals "run" = some (some (.ref f23)))
    (l23 : K.lookup f23 = some ⟨oc23, od23, .func (PySem.W.fnOf "run" "run" (defArgs s_run) (defBody s_run) (defScope s_run) .none kV23 dc23 pm23 an23 cd23 ct23), sl23⟩) (c23 : PySem.W.codeIn K cd23 "run" = true) (k_23 : PySem.W.keepIn K (.ref f23) = true)
    (a24 : PySem.W.nsIn K mainGlobals "used" = some (some (.ref f24)))
    (l24 : K.lookup f24 = some ⟨oc24, od24, .func (PySem.W.fnOf "used" "used" (defArgs s_used) (defBody s_used) (defScope s_used) .none kV24 dc24 pm24 an24 cd24 ct24), sl24⟩) (c24 : PySem.W.codeIn K cd24 "used" = true) (k_24 : PySem.W.keepIn K (.ref f24) = true)
    (a25 : PySem.W.nsIn K mainGlobals "steps_of" = some (some (.ref f25)))
    (l25 : K.lookup f25 = some ⟨oc25, od25, .func (PySem.W.fnOf "steps_of" "steps_of" (defArgs s_steps_of) (defBody s_steps_of) (defScope s_steps_of) .none kV25 dc25 pm25 an25 cd25 ct25), sl25⟩) (c25 : PySem.W.codeIn K cd25 "steps_of" = true) (k_25 : PySem.W.keepIn K (.ref f25) = true)
    (a26 : PySem.W.nsIn K mainGlobals "_law_kinds" = some (some (.ref f26)))
    (l26 : K.lookup f26 = some ⟨oc26, od26, .func (PySem.W.fnOf "_law_kinds" "_law_kinds" (defArgs s_law_kinds) (defBody s_law_kinds) (defScope s_law_kinds) .none kV26 dc26 pm26 an26 cd26 ct26), sl26⟩) (c26 : PySem.W.codeIn K cd26 "_law_kinds" = true) (k_26 : PySem.W.keepIn K (.ref f26) = true)
    (a27 : PySem.W.nsIn K mainGlobals "_law_told_refusal" = some (some (.ref f27)))
    (l27 : K.lookup f27 = some ⟨oc27, od27, .func (PySem.W.fnOf "_law_told_refusal" "_law_told_refusal" (defArgs s_law_told_refusal) (defBody s_law_told_refusal) (defScope s_law_told_refusal) .none kV27 dc27 pm27 an27 cd27 ct27), sl27⟩) (c27 : PySem.W.codeIn K cd27 "_law_told_refusal" = true) (k_27 : PySem.W.keepIn K (.ref f27) = true)
    (a28 : PySem.W.nsIn K mainGlobals "_law_all_refused" = some (some (.ref f28)))
    (l28 : K.lookup f28 = some ⟨oc28, od28, .func (PySem.W.fnOf "_law_all_refused" "_law_all_refused" (defArgs s_law_all_refused) (defBody s_law_all_refused) (defScope s_law_all_refused) .none kV28 dc28 pm28 an28 cd28 ct28), sl28⟩) (c28 : PySem.W.codeIn K cd28 "_law_all_refused" = true) (k_28 : PySem.W.keepIn K (.ref f28) = true)
    (a29 : PySem.W.nsIn K mainGlobals "_law_bad_words" = some (some (.ref f29)))
    (l29 : K.lookup f29 = some ⟨oc29, od29, .func (PySem.W.fnOf "_law_bad_words" "_law_bad_words" (defArgs s_law_bad_words) (defBody s_law_bad_words) (defScope s_law_bad_words) .none kV29 dc29 pm29 an29 cd29 ct29), sl29⟩) (c29 : PySem.W.codeIn K cd29 "_law_bad_words" = true) (k_29 : PySem.W.keepIn K (.ref f29) = true)
    (a30 : PySem.W.nsIn K mainGlobals "_law_bad_steps" = some (some (.ref f30)))
    (l30 : K.lookup f30 = some ⟨oc30, od30, .func (PySem.W.fnOf "_law_bad_steps" "_law_bad_steps" (defArgs s_law_bad_steps) (defBody s_law_bad_steps) (defScope s_law_bad_steps) .none kV30 dc30 pm30 an30 cd30 ct30), sl30⟩) (c30 : PySem.W.codeIn K cd30 "_law_bad_steps" = true) (k_30 : PySem.W.keepIn K (.ref f30) = true)
    (a31 : PySem.W.nsIn K mainGlobals "_law_bad_bodies" = some (some (.ref f31)))
    (l31 : K.lookup f31 = some ⟨oc31, od31, .func (PySem.W.fnOf "_law_bad_bodies" "_law_bad_bodies" (defArgs s_law_bad_bodies) (defBody s_law_bad_bodies) (defScope s_law_bad_bodies) .none kV31 dc31 pm31 an31 cd31 ct31), sl31⟩) (c31 : PySem.W.codeIn K cd31 "_law_bad_bodies" = true) (k_31 : PySem.W.keepIn K (.ref f31) = true)
    (a32 : PySem.W.nsIn K mainGlobals "_law_bad_books" = some (some (.ref f32)))
    (l32 : K.lookup f32 = some ⟨oc32, od32, .func (PySem.W.fnOf "_law_bad_books" "_law_bad_books" (defArgs s_law_bad_books) (defBody s_law_bad_books) (defScope s_law_bad_books) .none kV32 dc32 pm32 an32 cd32 ct32), sl32⟩) (c32 : PySem.W.codeIn K cd32 "_law_bad_books" = true) (k_32 : PySem.W.keepIn K (.ref f32) = true)
    (a33 : PySem.W.nsIn K mainGlobals "_law_bad_calls" = some (some (.ref f33)))
    (l33 : K.lookup f33 = some ⟨oc33, od33, .func (PySem.W.fnOf "_law_bad_calls" "_law_bad_calls" (defArgs s_law_bad_calls) (defBody s_law_bad_calls) (defScope s_law_bad_calls) .none kV33 dc33 pm33 an33 cd33 ct33), sl33⟩) (c33 : PySem.W.codeIn K cd33 "_law_bad_calls" = true) (k_33 : PySem.W.keepIn K (.ref f33) = true)
    (a34 : PySem.W.nsIn K mainGlobals "law" = some (some (.ref f34)))
    (l34 : K.lookup f34 = some ⟨oc34, od34, .func (PySem.W.fnOf "law" "law" (defArgs s_law) (defBody s_law) (defScope s_law) .none kV34 dc34 pm34 an34 (.ref k34) ct34), sl34⟩) (c34 : PySem.W.codeIn K (.ref k34) "law" = true) (k_34 : PySem.W.keepIn K (.ref f34) = true)
    (h34 : PySem.W.codeHdIn K k34 Pl = true)
    (z0 : PySem.W.nsIn K mainGlobals "isinstance" = some none)
    (z1 : PySem.W.nsIn K mainGlobals "int" = some none)
    (z2 : PySem.W.nsIn K mainGlobals "bool" = some none)
    (z3 : PySem.W.nsIn K mainGlobals "str" = some none)
    (z4 : PySem.W.nsIn K mainGlobals "tuple" = some none)
    (z5 : PySem.W.nsIn K mainGlobals "list" = some none)
    (z6 : PySem.W.nsIn K mainGlobals "len" = some none)
    (z7 : PySem.W.nsIn K mainGlobals "all" = some none)
    (z8 : PySem.W.nsIn K mainGlobals "sorted" = some none)
    (z9 : PySem.W.nsIn K mainGlobals "set" = some none)
    (z10 : PySem.W.nsIn K mainGlobals "range" = some none)
    (z11 : PySem.W.nsIn K mainGlobals "enumerate" = some none)
    (z12 : PySem.W.nsIn K mainGlobals "zip" = some none)
    (aE_BadWord : PySem.W.nsIn K mainGlobals "BadWord" = some (some (.ref C_BadWord)))
    (aE_BadBody : PySem.W.nsIn K mainGlobals "BadBody" = some (some (.ref C_BadBody)))
    (aE_BadBook : PySem.W.nsIn K mainGlobals "BadBook" = some (some (.ref C_BadBook)))
    (aE_BadChanges : PySem.W.nsIn K mainGlobals "BadChanges" = some (some (.ref C_BadChanges)))
    (aE_BadCall : PySem.W.nsIn K mainGlobals "BadCall" = some (some (.ref C_BadCall)))
    (aE_BadText : PySem.W.nsIn K mainGlobals "BadText" = some (some (.ref C_BadText)))
    (aE_BadName : PySem.W.nsIn K mainGlobals "BadName" = some (some (.ref C_BadName)))
    (aE_Unknown : PySem.W.nsIn K mainGlobals "Unknown" = some (some (.ref C_Unknown)))
    (aE_Over : PySem.W.nsIn K mainGlobals "Over" = some (some (.ref C_Over)))
    (aE_Underway : PySem.W.nsIn K mainGlobals "Underway" = some (some (.ref C_Underway)))
    (aE_TooMany : PySem.W.nsIn K mainGlobals "TooMany" = some (some (.ref C_TooMany)))
    (aE_StrideError : PySem.W.nsIn K mainGlobals "StrideError" = some (some (.ref C_StrideError)))
    (y_val : PySem.W.nsIn K mainGlobals "ValueError" = some none)
    (kq_eg : egB K = true)
    (kq_2 : ekB K [C_BadWord, C_BadBody, C_BadBook, C_BadChanges, C_BadCall, C_BadText, C_BadName, C_Unknown, C_Over, C_Underway, C_TooMany] C_StrideError 2 = true)
    (kq_4 : ekB K [C_BadWord, C_BadBody, C_BadBook, C_BadChanges, C_BadCall, C_BadText, C_BadName, C_Unknown, C_Over, C_Underway, C_TooMany] C_StrideError 4 = true)
    (n_LONGEST_WORD : PySem.W.nsIn K mainGlobals "LONGEST_WORD" = some (some (.int 8 t_LONGEST_WORD)))
    (n_MOST_STEPS : PySem.W.nsIn K mainGlobals "MOST_STEPS" = some (some (.int 9 t_MOST_STEPS)))
    (n_LARGEST_PART : PySem.W.nsIn K mainGlobals "LARGEST_PART" = some (some (.int 99 t_LARGEST_PART)))
    (n_CALL_PARTS : PySem.W.nsIn K mainGlobals "CALL_PARTS" = some (some (.int 4 t_CALL_PARTS)))
    (n_MOST_HEARD : PySem.W.nsIn K mainGlobals "MOST_HEARD" = some (some (.int 20 t_MOST_HEARD)))
    (n_MOST_STRENGTH : PySem.W.nsIn K mainGlobals "MOST_STRENGTH" = some (some (.int 120 t_MOST_STRENGTH)))
    (n_BARE_STEPS : PySem.W.nsIn K mainGlobals "BARE_STEPS" = some (some (.ref a_BARE_STEPS))) (l_BARE_STEPS : K.lookup a_BARE_STEPS = some ⟨.type "tuple", od_BARE_STEPS, .seq #[.str "say" u_BARE_STEPS_0, .str "hear" u_BARE_STEPS_1, .str "end" u_BARE_STEPS_2] nn_BARE_STEPS, sl_BARE_STEPS⟩)
    (n_NUMBER_STEPS : PySem.W.nsIn K mainGlobals "NUMBER_STEPS" = some (some (.ref a_NUMBER_STEPS))) (l_NUMBER_STEPS : K.lookup a_NUMBER_STEPS = some ⟨.type "tuple", od_NUMBER_STEPS, .seq #[.str "plus" u_NUMBER_STEPS_0, .str "times" u_NUMBER_STEPS_1, .str "turn" u_NUMBER_STEPS_2] nn_NUMBER_STEPS, sl_NUMBER_STEPS⟩)
    (n_WORD_STEPS : PySem.W.nsIn K mainGlobals "WORD_STEPS" = some (some (.ref a_WORD_STEPS))) (l_WORD_STEPS : K.lookup a_WORD_STEPS = some ⟨.type "tuple", od_WORD_STEPS, .seq #[.str "ask" u_WORD_STEPS_0, .str "odd" u_WORD_STEPS_1] nn_WORD_STEPS, sl_WORD_STEPS⟩)
    : ∃ fd : FuncData, (∀ (s : Shared) (v : Value), BindsTo s fd ⟨[v], []⟩ [("_law_script", v)]) ∧ ∀ base : Heap, K.In base → base.Ns mainGlobals mg → BM mg base → FnOk l.prog w K mg base CX0 100 fa fd ["_law_script"] (spLaw T Ph Pl K) := by
  have e := hfa.symm.trans (PySem.W.mg_of X G a34)
  cases e
  have b : ∀ x ∈ blts, mg x = none := by
    intro x hx
    simp only [blts, List.mem_cons, List.not_mem_nil, or_false] at hx
    rcases hx with rfl | rfl | rfl | rfl | rfl | rfl | rfl | rfl | rfl | rfl | rfl | rfl | rfl
    · exact PySem.W.mg_none_of X G z0
    · exact PySem.W.mg_none_of X G z1
    · exact PySem.W.mg_none_of X G z2
    · exact PySem.W.mg_none_of X G z3
    · exact PySem.W.mg_none_of X G z4
    · exact PySem.W.mg_none_of X G z5
    · exact PySem.W.mg_none_of X G z6
    · exact PySem.W.mg_none_of X G z7
    · exact PySem.W.mg_none_of X G z8
    · exact PySem.W.mg_none_of X G z9
    · exact PySem.W.mg_none_of X G z10
    · exact PySem.W.mg_none_of X G z11
    · exact PySem.W.mg_none_of X G z12
  have g_LONGEST_WORD := PySem.W.mg_of X G n_LONGEST_WORD
  have g_MOST_STEPS := PySem.W.mg_of X G n_MOST_STEPS
  have g_LARGEST_PART := PySem.W.mg_of X G n_LARGEST_PART
  have g_CALL_PARTS := PySem.W.mg_of X G n_CALL_PARTS
  have g_MOST_HEARD := PySem.W.mg_of X G n_MOST_HEARD
  have g_MOST_STRENGTH := PySem.W.mg_of X G n_MOST_STRENGTH
  have g_BARE_STEPS := PySem.W.mg_of X G n_BARE_STEPS
  have q_BARE_STEPS : ∀ H, SqT K H a_BARE_STEPS bareL := fun H => tup_in (xs := bareL) l_BARE_STEPS (by show 3 ≤ sizeLine; decide) (.cons ⟨_, rfl⟩ (.cons ⟨_, rfl⟩ (.cons ⟨_, rfl⟩ .nil))) H
  have g_NUMBER_STEPS := PySem.W.mg_of X G n_NUMBER_STEPS
  have q_NUMBER_STEPS : ∀ H, SqT K H a_NUMBER_STEPS numL := fun H => tup_in (xs := numL) l_NUMBER_STEPS (by show 3 ≤ sizeLine; decide) (.cons ⟨_, rfl⟩ (.cons ⟨_, rfl⟩ (.cons ⟨_, rfl⟩ .nil))) H
  have g_WORD_STEPS := PySem.W.mg_of X G n_WORD_STEPS
  have q_WORD_STEPS : ∀ H, SqT K H a_WORD_STEPS wrdL := fun H => tup_in (xs := wrdL) l_WORD_STEPS (by show 2 ≤ sizeLine; decide) (.cons ⟨_, rfl⟩ (.cons ⟨_, rfl⟩ .nil)) H
  have TR : TxR K mg C := ⟨⟨pg_Runner, hd_Runner, po_Runner, sa_Runner⟩, nf_Runner_bodies, nf_Runner_in_hand, nf_Runner_heard, nf_Runner_strength, nf_Runner_taken, nf_Runner_said, nf_Runner_ended, nf_Runner_uses, nf_Runner_begun, PySem.W.mg_of X G aC_Runner⟩
  have m_BadWord := PySem.W.mg_of X G aE_BadWord
  have m_BadBody := PySem.W.mg_of X G aE_BadBody
  have m_BadBook := PySem.W.mg_of X G aE_BadBook
  have m_BadChanges := PySem.W.mg_of X G aE_BadChanges
  have m_BadCall := PySem.W.mg_of X G aE_BadCall
  have m_BadText := PySem.W.mg_of X G aE_BadText
  have m_BadName := PySem.W.mg_of X G aE_BadName
  have m_Unknown := PySem.W.mg_of X G aE_Unknown
  have m_Over := PySem.W.mg_of X G aE_Over
  have m_Underway := PySem.W.mg_of X G aE_Underway
  have m_TooMany := PySem.W.mg_of X G aE_TooMany
  have m_StrideError := PySem.W.mg_of X G aE_StrideError
  have bval : mg "ValueError" = none := PySem.W.mg_none_of X G y_val
  have eG := ErrG.of kq_eg
  have ek_BadBook : EKs K [C_BadWord, C_BadBody, C_BadBook, C_BadChanges, C_BadCall, C_BadText, C_BadName, C_Unknown, C_Over, C_Underway, C_TooMany] C_StrideError 2 C_BadBook := EKs.of kq_2 rfl
  have ek_BadCall : EKs K [C_BadWord, C_BadBody, C_BadBook, C_BadChanges, C_BadCall, C_BadText, C_BadName, C_Unknown, C_Over, C_Underway, C_TooMany] C_StrideError 4 C_BadCall := EKs.of kq_4 rfl
  refine ⟨PySem.W.fnOf "law" "law" (defArgs s_law) (defBody s_law) (defScope s_law) .none kV34 dc34 pm34 an34 (.ref k34) ct34, fun s v => .of_eq rfl, fun base _ _ ⟨bm, ob, hB⟩ => ?_⟩
  have F0 := fun_mk (st := s_bodies_of) l0 c0 k_0
  have B0 := F0.binds (ps := ["book"]) fun _ _ _ _ _ _ us hl => match us, hl with | [_], _ => rfl
  have c_bodies_of : Cal l.prog w K mg base "bodies_of" 10 ["book"] spBodiesOf := ⟨f0, _, PySem.W.mg_of X G a0, ok_bodies_of F0 b, k_0, B0⟩
  have F1 := fun_mk (st := s_copied) l1 c1 k_1
  have B1 := F1.binds (ps := ["pairs"]) fun _ _ _ _ _ _ us hl => match us, hl with | [_], _ => rfl
  have c_copied : Cal l.prog w K mg base "copied" 10 ["pairs"] spCopied := ⟨f1, _, PySem.W.mg_of X G a1, ok_copied F1 b, k_1, B1⟩
  have F2 := fun_mk (st := s_Runner_hear) l2 c2 k_2
  have B2 := F2.binds (ps := ["self"]) fun _ _ _ _ _ _ us hl => match us, hl with | [_], _ => rfl
  have c_Runner_hear : MCal l.prog w K mg base C "hear" 5 ["self"] (spHear C) := ⟨f2, _, ⟨a2, i_2, k_2⟩, ok_Runner_hear F2 TR, B2⟩
  have F3 := fun_mk (st := s_Runner_use) l3 c3 k_3
  have B3 := F3.binds (ps := ["self", "word"]) fun _ _ _ _ _ _ us hl => match us, hl with | [_, _], _ => rfl
  have c_Runner_use : MCal l.prog w K mg base C "use" 5 ["self", "word"] (spUse C) := ⟨f3, _, ⟨a3, i_3, k_3⟩, ok_Runner_use F3 TR b, B3⟩
  have F4 := fun_mk (st := s_Runner_settle) l4 c4 k_4
  have B4 := F4.binds (ps := ["self"]) fun _ _ _ _ _ _ us hl => match us, hl with | [_], _ => rfl
  have c_Runner_settle : MCal l.prog w K mg base C "settle" 5 ["self"] (spSettle C) := ⟨f4, _, ⟨a4, i_4, k_4⟩, ok_Runner_settle F4 TR, B4⟩
  have F5 := fun_mk (st := s_Runner_act) l5 c5 k_5
  have B5 := F5.binds (ps := ["self", "step"]) fun _ _ _ _ _ _ us hl => match us, hl with | [_, _], _ => rfl
  have c_Runner_act : MCal l.prog w K mg base C "act" 10 ["self", "step"] (spAct C) := ⟨f5, _, ⟨a5, i_5, k_5⟩, ok_Runner_act F5 TR c_Runner_hear c_Runner_use, B5⟩
  have F6 := fun_mk (st := s_Runner_take_step) l6 c6 k_6
  have B6 := F6.binds (ps := ["self"]) fun _ _ _ _ _ _ us hl => match us, hl with | [_], _ => rfl
  have c_Runner_take_step : MCal l.prog w K mg base C "take_step" 15 ["self"] (spTake C) := ⟨f6, _, ⟨a6, i_6, k_6⟩, ok_Runner_take_step F6 TR b c_Runner_act c_Runner_settle, B6⟩
  have F7 := fun_mk (st := s_Runner_init) l7 c7 k_7
  have B7 := F7.binds (ps := ["self", "bodies", "call"]) fun _ _ _ _ _ _ us hl => match us, hl with | [_, _, _], _ => rfl
  have c_Runner_init : MkCal l.prog w K mg base C 10 ["self", "bodies", "call"] (spInit C) := ⟨f7, _, ⟨mk_Runner, a7, i_7, kc_Runner⟩, ok_Runner_init F7 TR b c_Runner_use c_Runner_settle, B7⟩
  have F8 := fun_mk (st := s_Runner_told_uses) l8 c8 k_8
  have B8 := F8.binds (ps := ["self"]) fun _ _ _ _ _ _ us hl => match us, hl with | [_], _ => rfl
  have c_Runner_told_uses : MCal l.prog w K mg base C "told_uses" 15 ["self"] (spTold C) := ⟨f8, _, ⟨a8, i_8, k_8⟩, ok_Runner_told_uses F8 TR b c_copied, B8⟩
  have F9 := fun_mk (st := s_is_number) l9 c9 k_9
  have B9 := F9.binds (ps := ["thing"]) fun _ _ _ _ _ _ us hl => match us, hl with | [_], _ => rfl
  have c_is_number : Cal l.prog w K mg base "is_number" 5 ["thing"] spNumberA := ⟨f9, _, PySem.W.mg_of X G a9, ok_is_numberA F9 b, k_9, B9⟩
  have G10 : FunG K "is_word" "is_word" s_is_word f10 _ k10 T.w := ⟨⟨_, _, _, _, _, _, _, _, rfl, l10, c10⟩, h10⟩
  have F10 := G10.fn k_10
  have B10 := F10.binds (ps := ["thing"]) fun _ _ _ _ _ _ us hl => match us, hl with | [_], _ => rfl
  have c_is_word : Cal l.prog w K mg base "is_word" 10 ["thing"] (spWordA T.w) := ⟨f10, _, PySem.W.mg_of X G a10, ok_is_wordA G10 b hB g_LONGEST_WORD, k_10, B10⟩
  have F11 := fun_mk (st := s_is_step) l11 c11 k_11
  have B11 := F11.binds (ps := ["thing"]) fun _ _ _ _ _ _ us hl => match us, hl with | [_], _ => rfl
  have c_is_step : Cal l.prog w K mg base "is_step" 20 ["thing"] (spStepA T.w) := ⟨f11, _, PySem.W.mg_of X G a11, ok_is_stepA F11 b g_BARE_STEPS g_NUMBER_STEPS g_WORD_STEPS g_LARGEST_PART q_BARE_STEPS q_NUMBER_STEPS q_WORD_STEPS c_is_number c_is_word, k_11, B11⟩
  have G12 : FunG K "is_steps" "is_steps" s_is_steps f12 _ k12 T.b := ⟨⟨_, _, _, _, _, _, _, _, rfl, l12, c12⟩, h12⟩
  have F12 := G12.fn k_12
  have B12 := F12.binds (ps := ["thing"]) fun _ _ _ _ _ _ us hl => match us, hl with | [_], _ => rfl
  have c_is_steps : Cal l.prog w K mg base "is_steps" 25 ["thing"] (spStepsA T.w T.b) := ⟨f12, _, PySem.W.mg_of X G a12, ok_is_stepsA G12 b hB c_is_step, k_12, B12⟩
  have F13 := fun_mk (st := s_is_body) l13 c13 k_13
  have B13 := F13.binds (ps := ["thing"]) fun _ _ _ _ _ _ us hl => match us, hl with | [_], _ => rfl
  have c_is_body : Cal l.prog w K mg base "is_body" 30 ["thing"] (spBodyA T.w T.b) := ⟨f13, _, PySem.W.mg_of X G a13, ok_is_bodyA F13 b g_MOST_STEPS c_is_steps, k_13, B13⟩
  have F14 := fun_mk (st := s_has_word) l14 c14 k_14
  have B14 := F14.binds (ps := ["thing"]) fun _ _ _ _ _ _ us hl => match us, hl with | [_], _ => rfl
  have c_has_word : Cal l.prog w K mg base "has_word" 20 ["thing"] (spHasWordA T.w) := ⟨f14, _, PySem.W.mg_of X G a14, ok_has_wordA F14 b c_is_word, k_14, B14⟩
  have F15 := fun_mk (st := s_has_body) l15 c15 k_15
  have B15 := F15.binds (ps := ["thing"]) fun _ _ _ _ _ _ us hl => match us, hl with | [_], _ => rfl
  have c_has_body : Cal l.prog w K mg base "has_body" 40 ["thing"] (spHasBodyA T.w T.b) := ⟨f15, _, PySem.W.mg_of X G a15, ok_has_bodyA F15 c_has_word c_is_body, k_15, B15⟩
  have G16 : FunG K "is_book" "is_book" s_is_book f16 _ k16 T.k := ⟨⟨_, _, _, _, _, _, _, _, rfl, l16, c16⟩, h16⟩
  have F16 := G16.fn k_16
  have B16 := F16.binds (ps := ["thing"]) fun _ _ _ _ _ _ us hl => match us, hl with | [_], _ => rfl
  have c_is_book : Cal l.prog w K mg base "is_book" 50 ["thing"] (spBookA T) := ⟨f16, _, PySem.W.mg_of X G a16, ok_is_bookA G16 b hB c_has_body, k_16, B16⟩
  have F17 := fun_mk (st := s_need_book) l17 c17 k_17
  have B17 := F17.binds (ps := ["book"]) fun _ _ _ _ _ _ us hl => match us, hl with | [_], _ => rfl
  have c_need_book : CalE l.prog w K mg base "need_book" 60 ["book"] (spNeedBookA T C_BadBook) := ⟨f17, _, PySem.W.mg_of X G a17, ok_need_bookA F17 ek_BadBook.exc m_BadBook c_is_book, k_17, B17⟩
  have G18 : FunG K "is_heard" "is_heard" s_is_heard f18 _ k18 Ph := ⟨⟨_, _, _, _, _, _, _, _, rfl, l18, c18⟩, h18⟩
  have F18 := G18.fn k_18
  have B18 := F18.binds (ps := ["thing"]) fun _ _ _ _ _ _ us hl => match us, hl with | [_], _ => rfl
  have c_is_heard : Cal l.prog w K mg base "is_heard" 30 ["thing"] (spHeardA Ph) := ⟨f18, _, PySem.W.mg_of X G a18, ok_is_heardA G18 b hB g_MOST_HEARD c_is_number, k_18, B18⟩
  have F19 := fun_mk (st := s_is_strength) l19 c19 k_19
  have B19 := F19.binds (ps := ["thing"]) fun _ _ _ _ _ _ us hl => match us, hl with | [_], _ => rfl
  have c_is_strength : Cal l.prog w K mg base "is_strength" 10 ["thing"] spStrengthA := ⟨f19, _, PySem.W.mg_of X G a19, ok_is_strengthA F19 b g_MOST_STRENGTH c_is_number, k_19, B19⟩
  have F20 := fun_mk (st := s_is_call) l20 c20 k_20
  have B20 := F20.binds (ps := ["thing"]) fun _ _ _ _ _ _ us hl => match us, hl with | [_], _ => rfl
  have c_is_call : Cal l.prog w K mg base "is_call" 40 ["thing"] (spCallA T.w Ph) := ⟨f20, _, PySem.W.mg_of X G a20, ok_is_callA F20 b g_CALL_PARTS c_is_word c_is_number c_is_heard c_is_strength, k_20, B20⟩
  have F21 := fun_mk (st := s_checked_call) l21 c21 k_21
  have B21 := F21.binds (ps := ["call"]) fun _ _ _ _ _ _ us hl => match us, hl with | [_], _ => rfl
  have c_checked_call : CalE l.prog w K mg base "checked_call" 50 ["call"] (spCheckedA T.w Ph C_BadCall) := ⟨f21, _, PySem.W.mg_of X G a21, ok_checked_callA F21 b ek_BadCall.exc m_BadCall c_is_call, k_21, B21⟩
  have F22 := fun_mk (st := s_plain_run) l22 c22 k_22
  have B22 := F22.binds (ps := ["book", "call"]) fun _ _ _ _ _ _ us hl => match us, hl with | [_, _], _ => rfl
  have c_plain_run : CalE l.prog w K mg base "plain_run" 70 ["book", "call"] (spPlainR C T Ph C_BadBook C_BadCall) := ⟨f22, _, PySem.W.mg_of X G a22, ok_plain_runR F22 TR c_need_book c_bodies_of c_checked_call c_Runner_init c_Runner_take_step, k_22, B22⟩
  have F23 := fun_mk (st := s_run) l23 c23 k_23
  have B23 := F23.binds (ps := ["book", "call"]) fun _ _ _ _ _ _ us hl => match us, hl with | [_, _], _ => rfl
  have c_run : CalE l.prog w K mg base "run" 75 ["book", "call"] (spRunR T Ph C_BadBook C_BadCall) := ⟨f23, _, PySem.W.mg_of X G a23, ok_runR F23 TR b c_plain_run, k_23, B23⟩
  have F24 := fun_mk (st := s_used) l24 c24 k_24
  have B24 := F24.binds (ps := ["book", "call"]) fun _ _ _ _ _ _ us hl => match us, hl with | [_, _], _ => rfl
  have c_used : CalE l.prog w K mg base "used" 75 ["book", "call"] (spUsedR T Ph C_BadBook C_BadCall) := ⟨f24, _, PySem.W.mg_of X G a24, ok_usedR F24 TR c_plain_run c_Runner_told_uses, k_24, B24⟩
  have F25 := fun_mk (st := s_steps_of) l25 c25 k_25
  have B25 := F25.binds (ps := ["book", "call"]) fun _ _ _ _ _ _ us hl => match us, hl with | [_, _], _ => rfl
  have c_steps_of : CalE l.prog w K mg base "steps_of" 75 ["book", "call"] (spStepsR T Ph C_BadBook C_BadCall) := ⟨f25, _, PySem.W.mg_of X G a25, ok_steps_ofR F25 TR c_plain_run, k_25, B25⟩
  have F26 := fun_mk (st := s_law_kinds) l26 c26 k_26
  have B26 := F26.binds (ps := ["_law_error"]) fun _ _ _ _ _ _ us hl => match us, hl with | [_], _ => rfl
  have F27 := fun_mk (st := s_law_told_refusal) l27 c27 k_27
  have B27 := F27.binds (ps := ["_law_ask", "_law_thing"]) fun _ _ _ _ _ _ us hl => match us, hl with | [_, _], _ => rfl
  have F28 := fun_mk (st := s_law_all_refused) l28 c28 k_28
  have B28 := F28.binds (ps := ["_law_ask", "_law_things", "_law_which"]) fun _ _ _ _ _ _ us hl => match us, hl with | [_, _, _], _ => rfl
  have F29 := fun_mk (st := s_law_bad_words) l29 c29 k_29
  have B29 := F29.binds (ps := ["_law_far"]) fun _ _ _ _ _ _ us hl => match us, hl with | [_], _ => rfl
  have c_law_bad_words : Cal l.prog w K mg base "_law_bad_words" 5 ["_law_far"] (spBadL badWords) := ⟨f29, _, PySem.W.mg_of X G a29, ok_bad_words F29, k_29, B29⟩
  have F30 := fun_mk (st := s_law_bad_steps) l30 c30 k_30
  have B30 := F30.binds (ps := ["_law_far"]) fun _ _ _ _ _ _ us hl => match us, hl with | [_], _ => rfl
  have c_law_bad_steps : Cal l.prog w K mg base "_law_bad_steps" 5 ["_law_far"] (spBadL badSteps) := ⟨f30, _, PySem.W.mg_of X G a30, ok_bad_steps F30, k_30, B30⟩
  have F31 := fun_mk (st := s_law_bad_bodies) l31 c31 k_31
  have B31 := F31.binds (ps := ["_law_far"]) fun _ _ _ _ _ _ us hl => match us, hl with | [_], _ => rfl
  have c_law_bad_bodies : Cal l.prog w K mg base "_law_bad_bodies" 10 ["_law_far"] (spBadL badBodies) := ⟨f31, _, PySem.W.mg_of X G a31, ok_bad_bodies F31 b c_law_bad_steps, k_31, B31⟩
  have F32 := fun_mk (st := s_law_bad_books) l32 c32 k_32
  have B32 := F32.binds (ps := ["_law_far"]) fun _ _ _ _ _ _ us hl => match us, hl with | [_], _ => rfl
  have c_law_bad_books : Cal l.prog w K mg base "_law_bad_books" 20 ["_law_far"] (spBadL badBooks) := ⟨f32, _, PySem.W.mg_of X G a32, ok_bad_books F32 c_law_bad_words c_law_bad_bodies, k_32, B32⟩
  have F33 := fun_mk (st := s_law_bad_calls) l33 c33 k_33
  have B33 := F33.binds (ps := ["_law_far"]) fun _ _ _ _ _ _ us hl => match us, hl with | [_], _ => rfl
  have c_law_bad_calls : Cal l.prog w K mg base "_law_bad_calls" 20 ["_law_far"] (spBadL badCalls) := ⟨f33, _, PySem.W.mg_of X G a33, ok_bad_calls F33 c_law_bad_words, k_33, B33⟩
  have c_law_kinds : CalH l.prog w K mg base "_law_kinds" 20 ["_law_error"] (spKinds (K := K) [C_BadWord, C_BadBody, C_BadBook, C_BadChanges, C_BadCall, C_BadText, C_BadName, C_Unknown, C_Over, C_Underway, C_TooMany] C_StrideError) := ⟨f26, _, (PySem.W.mg_of X G a26), ok_law_kinds F26 b bval eG m_BadWord m_BadBody m_BadBook m_BadChanges m_BadCall m_BadText m_BadName m_Unknown m_Over m_Underway m_TooMany, k_26, B26⟩
  have c_law_all_refused : CalF l.prog w K mg base "_law_all_refused" 90 80 ["_law_ask", "_law_things", "_law_which"] (spAR (K := K) [C_BadWord, C_BadBody, C_BadBook, C_BadChanges, C_BadCall, C_BadText, C_BadName, C_Unknown, C_Over, C_Underway, C_TooMany] C_StrideError) := ⟨f28, _, (PySem.W.mg_of X G a28), k_28, B28, fun base' f spL hs hM hL => ok_all_refused F28 b ⟨f27, _, (PySem.W.mg_of X G a27), ok_told_refusal F27 m_StrideError hL (calHB c_law_kinds hM hs), k_27, B27⟩⟩
  have GL : FunG K "law" "law" s_law _ _ k34 Pl := ⟨⟨_, _, _, _, _, _, _, _, rfl, l34, c34⟩, h34⟩
  exact ok_law GL b hB c_law_bad_books c_law_bad_calls c_law_all_refused ek_BadBook ek_BadCall c_run c_used c_steps_of
end MG

set_option Elab.async false
set_option linter.all false
set_option maxRecDepth 100000
namespace MG
open PySem PySem.Spec PyProof.Rows L2
/-- where the defs' tables stand behind the top -/
def tabs0 : List (Addr × Addr) := [(182, 178), (196, 192), (208, 206), (246, 242), (434, 432)]
def tb0 : TB := ⟨178, 192, 206, 206⟩
theorem on_tabs {H : Hp} (h : TabsS 432 (tabs0.map (·.2)) H) : tb0.on H ∧ H 242 = some (tabH 242) := ⟨⟨(by have z := h 178 (by decide); simp [tabO] at z; exact z), (by have z := h 192 (by decide); simp [tabO] at z; exact z), (by have z := h 206 (by decide); simp [tabO] at z; exact z), (by have z := h 206 (by decide); simp [tabO] at z; exact z)⟩, (by have z := h 242 (by decide); simp [tabO] at z; exact z)⟩
theorem on_law {H : Hp} (h : TabsS 432 (tabs0.map (·.2)) H) : H 432 = some (tabE 432 #[]) := (by have z := h 432 (by decide); simp [tabO] at z; exact z)
theorem tabs_on {H : Hp} {ps : Array Value} (h : tb0.on H ∧ H 242 = some (tabH 242)) (hp : H 432 = some (tabE 432 ps)) : TabsE 432 (tabs0.map (·.2)) H := by
  intro P hP
  have m : P = 178 ∨ P = 192 ∨ P = 206 ∨ P = 242 ∨ P = 432 := by simpa [tabs0] using hP
  rcases m with m | m | m | m | m
  · rw [m]; exact ⟨fun _ => h.1.1, fun z => absurd z (by decide)⟩
  · rw [m]; exact ⟨fun _ => h.1.2.1, fun z => absurd z (by decide)⟩
  · rw [m]; exact ⟨fun _ => h.1.2.2.1, fun z => absurd z (by decide)⟩
  · rw [m]; exact ⟨fun _ => h.2, fun z => absurd z (by decide)⟩
  · rw [m]; exact ⟨fun z => absurd rfl z, fun _ => ⟨ps, hp⟩⟩
theorem walk {l : PySem.W.OpenLaw} {q : Program} {loose : List Str} {XP : (Str → Option Value) → Heap → Prop} {YP : World → Heap → Prop} {d : DefRec} {K : Params → PySem.W.Frag} (hn : l.most = some 63) (hdf : d.params.defaults = [])
    (hY : ∀ (w : World) (h : Heap), YP w h → (K w.params).In h ∧ ∀ q ∈ tabs0, h.get? q.2 = some (PySem.W.tabObj #[]))
    (hC : ∀ (w : World), ∀ q ∈ tabs0, PySem.W.codeHdIn (K w.params) q.1 q.2 = true ∧ (K w.params).lookup q.2 = none)
    (F : ∀ (w : World) (mg : Str → Option Value) (fa : Addr) (h : Heap), (K w.params).In h → h.Ns mainGlobals mg → mg d.name = some (.ref fa) →
      ∃ fd : FuncData, (∀ (s : Shared) (u : Value), BindsTo s fd ⟨[u], []⟩ [("_law_script", u)]) ∧
        ∀ base : Heap, (K w.params).In base → base.Ns mainGlobals mg → BM mg base → FnOk l.prog w (K w.params) mg base CX0 100 fa fd ["_law_script"] (spLaw tb0 242 432 (K w.params))) :
    PySem.W.WalkO q loose XP YP l.row.toRowW d [] (fun f vs => PySem.call f vs) := by
  refine walk_ofTL (P0 := 432) (n := 63) (k := 100) (x := "_law_script") (sp := spLaw tb0 242 432) (tabs := tabs0) hn (by decide) hdf ⟨rfl, by decide, by decide⟩ hY hC F ?_
  intro K H a ns hl hO hT hS
  refine ⟨a, rfl, ?_, (on_tabs hT).1, (on_tabs hT).2, on_law hT, ⟨by decide, by decide, by decide, by decide⟩, fun H' ps hT' he0 hp => ⟨rfl, tabs_on ⟨hT', he0⟩ hp⟩⟩
  rcases hS with (h | ⟨o, h⟩) | h
  · exfalso
    by_cases m : a ∈ tabs0.map (·.2)
    · have := hT a m
      rw [h] at this
      unfold tabO at this
      split at this <;> cases this
    · rcases hO a m with z | ⟨o, xs, z⟩
      · rw [h] at z; cases z
      · rw [h] at z; cases z
  · exact ⟨ns, .inl ⟨o, h⟩⟩
  · exact ⟨ns, .inr fun H' => .inr h⟩
end MG

open PySem PySem.W PyProof.Rows
set_option Elab.async false
local macro_rules
  | `(tactic| o_head ($f:ident $k $a $e $t)) => `(tactic| o_head ((PySem.W.kmHook $k $a $e [178, 192, 206, 242, 432])))
def PySem.W.Fast.tw3920402998948877838 : Nat := 0
def PySem.W.Fast.tw17240004845966379242 : Nat := 0
def PySem.W.Fast.tw11051271003065839049 : Nat := 0
def PySem.W.Fast.tw990182961875742245 : Nat := 0
def PySem.W.Fast.tw4080096872469475168 : Nat := 0
def PySem.W.Fast.tw1098722150655202783 : Nat := 0
def PySem.W.Fast.tw11983650577816905780 : Nat := 0
set_option maxRecDepth 100000 in
set_option maxHeartbeats 0 in
theorem PySem.Challenge.cw_midstride_k31_refused_calls_holds : PySem.Challenge.rw_midstride_k31_refused_calls.Holds := by
  w_on; o_law; k_head; (case hw => w_witness2)
  k_fill
  refine MG.walk (l := PySem.Challenge.rw_midstride_k31_refused_calls) rfl rfl (fun w h Y => ⟨PySem.W.km_in_of Y, ?hT⟩) ?hC ?F
  case hT =>
    intro q hq
    refine PySem.W.km_tabs_of Y q.2 ?_
    exact List.mem_map.mpr ⟨q, hq, rfl⟩
  case hC =>
    intro w q hq
    have m : q = (182, 178) ∨ q = (196, 192) ∨ q = (208, 206) ∨ q = (246, 242) ∨ q = (434, 432) := by simpa [MG.tabs0] using hq
    rcases m with m | m | m | m | m <;> rw [m]
    · exact ⟨by kernel_rfl, by kernel_rfl⟩
    · exact ⟨by kernel_rfl, by kernel_rfl⟩
    · exact ⟨by kernel_rfl, by kernel_rfl⟩
    · exact ⟨by kernel_rfl, by kernel_rfl⟩
    · exact ⟨by kernel_rfl, by kernel_rfl⟩
  case F =>
    intro w mg fa h KX G hmg
    refine' MG.all_mk (T := MG.tb0) (Ph := 242) (Pl := 432) KX G hmg ?aC_Runner ?pg_Runner ?hd_Runner ?po_Runner ?sa_Runner ?mk_Runner ?kc_Runner ?nf_Runner_bodies ?nf_Runner_in_hand ?nf_Runner_heard ?nf_Runner_strength ?nf_Runner_taken ?nf_Runner_said ?nf_Runner_ended ?nf_Runner_uses ?nf_Runner_begun ?a0 ?l0 ?c0 ?k_0 ?a1 ?l1 ?c1 ?k_1 ?a2 ?i_2 ?l2 ?c2 ?k_2 ?a3 ?i_3 ?l3 ?c3 ?k_3 ?a4 ?i_4 ?l4 ?c4 ?k_4 ?a5 ?i_5 ?l5 ?c5 ?k_5 ?a6 ?i_6 ?l6 ?c6 ?k_6 ?a7 ?i_7 ?l7 ?c7 ?k_7 ?a8 ?i_8 ?l8 ?c8 ?k_8 ?a9 ?l9 ?c9 ?k_9 ?a10 ?l10 ?c10 ?k_10 ?h10 ?a11 ?l11 ?c11 ?k_11 ?a12 ?l12 ?c12 ?k_12 ?h12 ?a13 ?l13 ?c13 ?k_13 ?a14 ?l14 ?c14 ?k_14 ?a15 ?l15 ?c15 ?k_15 ?a16 ?l16 ?c16 ?k_16 ?h16 ?a17 ?l17 ?c17 ?k_17 ?a18 ?l18 ?c18 ?k_18 ?h18 ?a19 ?l19 ?c19 ?k_19 ?a20 ?l20 ?c20 ?k_20 ?a21 ?l21 ?c21 ?k_21 ?a22 ?l22 ?c22 ?k_22 ?a23 ?l23 ?c23 ?k_23 ?a24 ?l24 ?c24 ?k_24 ?a25 ?l25 ?c25 ?k_25 ?a26 ?l26 ?c26 ?k_26 ?a27 ?l27 ?c27 ?k_27 ?a28 ?l28 ?c28 ?k_28 ?a29 ?l29 ?c29 ?k_29 ?a30 ?l30 ?c30 ?k_30 ?a31 ?l31 ?c31 ?k_31 ?a32 ?l32 ?c32 ?k_32 ?a33 ?l33 ?c33 ?k_33 ?a34 ?l34 ?c34 ?k_34 ?h34 ?z0 ?z1 ?z2 ?z3 ?z4 ?z5 ?z6 ?z7 ?z8 ?z9 ?z10 ?z11 ?z12 ?aE_BadWord ?aE_BadBody ?aE_BadBook ?aE_BadChanges ?aE_BadCall ?aE_BadText ?aE_BadName ?aE_Unknown ?aE_Over ?aE_Underway ?aE_TooMany ?aE_StrideError ?y_val ?kq_eg ?kq_2 ?kq_4 ?n_LONGEST_WORD ?n_MOST_STEPS ?n_LARGEST_PART ?n_CALL_PARTS ?n_MOST_HEARD ?n_MOST_STRENGTH ?n_BARE_STEPS ?l_BARE_STEPS ?n_NUMBER_STEPS ?l_NUMBER_STEPS ?n_WORD_STEPS ?l_WORD_STEPS
    (case aC_Runner => k_is)
    (case pg_Runner => k_is)
    (case hd_Runner => k_is)
    (case po_Runner => k_is)
    (case sa_Runner => k_is)
    (case mk_Runner => k_is)
    (case kc_Runner => k_is)
    (case nf_Runner_bodies => k_is)
    (case nf_Runner_in_hand => k_is)
    (case nf_Runner_heard => k_is)
    (case nf_Runner_strength => k_is)
    (case nf_Runner_taken => k_is)
    (case nf_Runner_said => k_is)
    (case nf_Runner_ended => k_is)
    (case nf_Runner_uses => k_is)
    (case nf_Runner_begun => k_is)
    (case a0 => k_is)
    (case l0 => k_is)
    (case c0 => k_is)
    (case k_0 => k_is)
    (case a1 => k_is)
    (case l1 => k_is)
    (case c1 => k_is)
    (case k_1 => k_is)
    (case a2 => k_is)
    (case i_2 => k_is)
    (case l2 => k_is)
    (case c2 => k_is)
    (case k_2 => k_is)
    (case a3 => k_is)
    (case i_3 => k_is)
    (case l3 => k_is)
    (case c3 => k_is)
    (case k_3 => k_is)
    (case a4 => k_is)
    (case i_4 => k_is)
    (case l4 => k_is)
    (case c4 => k_is)
    (case k_4 => k_is)
    (case a5 => k_is)
    (case i_5 => k_is)
    (case l5 => k_is)
    (case c5 => k_is)
    (case k_5 => k_is)
    (case a6 => k_is)
    (case i_6 => k_is)
    (case l6 => k_is)
    (case c6 => k_is)
    (case k_6 => k_is)
    (case a7 => k_is)
    (case i_7 => k_is)
    (case l7 => k_is)
    (case c7 => k_is)
    (case k_7 => k_is)
    (case a8 => k_is)
    (case i_8 => k_is)
    (case l8 => k_is)
    (case c8 => k_is)
    (case k_8 => k_is)
    (case a9 => k_is)
    (case l9 => k_is)
    (case c9 => k_is)
    (case k_9 => k_is)
    (case a10 => k_is)
    (case l10 => k_is)
    (case c10 => k_is)
    (case k_10 => k_is)
    (case h10 => kernel_rfl)
    (case a11 => k_is)
    (case l11 => k_is)
    (case c11 => k_is)
    (case k_11 => k_is)
    (case a12 => k_is)
    (case l12 => k_is)
    (case c12 => k_is)
    (case k_12 => k_is)
    (case h12 => kernel_rfl)
    (case a13 => k_is)
    (case l13 => k_is)
    (case c13 => k_is)
    (case k_13 => k_is)
    (case a14 => k_is)
    (case l14 => k_is)
    (case c14 => k_is)
    (case k_14 => k_is)
    (case a15 => k_is)
    (case l15 => k_is)
    (case c15 => k_is)
    (case k_15 => k_is)
    (case a16 => k_is)
    (case l16 => k_is)
    (case c16 => k_is)
    (case k_16 => k_is)
    (case h16 => kernel_rfl)
    (case a17 => k_is)
    (case l17 => k_is)
    (case c17 => k_is)
    (case k_17 => k_is)
    (case a18 => k_is)
    (case l18 => k_is)
    (case c18 => k_is)
    (case k_18 => k_is)
    (case h18 => kernel_rfl)
    (case a19 => k_is)
    (case l19 => k_is)
    (case c19 => k_is)
    (case k_19 => k_is)
    (case a20 => k_is)
    (case l20 => k_is)
    (case c20 => k_is)
    (case k_20 => k_is)
    (case a21 => k_is)
    (case l21 => k_is)
    (case c21 => k_is)
    (case k_21 => k_is)
    (case a22 => k_is)
    (case l22 => k_is)
    (case c22 => k_is)
    (case k_22 => k_is)
    (case a23 => k_is)
    (case l23 => k_is)
    (case c23 => k_is)
    (case k_23 => k_is)
    (case a24 => k_is)
    (case l24 => k_is)
    (case c24 => k_is)
    (case k_24 => k_is)
    (case a25 => k_is)
    (case l25 => k_is)
    (case c25 => k_is)
    (case k_25 => k_is)
    (case a26 => k_is)
    (case l26 => k_is)
    (case c26 => k_is)
    (case k_26 => k_is)
    (case a27 => k_is)
    (case l27 => k_is)
    (case c27 => k_is)
    (case k_27 => k_is)
    (case a28 => k_is)
    (case l28 => k_is)
    (case c28 => k_is)
    (case k_28 => k_is)
    (case a29 => k_is)
    (case l29 => k_is)
    (case c29 => k_is)
    (case k_29 => k_is)
    (case a30 => k_is)
    (case l30 => k_is)
    (case c30 => k_is)
    (case k_30 => k_is)
    (case a31 => k_is)
    (case l31 => k_is)
    (case c31 => k_is)
    (case k_31 => k_is)
    (case a32 => k_is)
    (case l32 => k_is)
    (case c32 => k_is)
    (case k_32 => k_is)
    (case a33 => k_is)
    (case l33 => k_is)
    (case c33 => k_is)
    (case k_33 => k_is)
    (case a34 => k_is)
    (case l34 => k_is)
    (case c34 => k_is)
    (case k_34 => k_is)
    (case h34 => kernel_rfl)
    (case z0 => k_is)
    (case z1 => k_is)
    (case z2 => k_is)
    (case z3 => k_is)
    (case z4 => k_is)
    (case z5 => k_is)
    (case z6 => k_is)
    (case z7 => k_is)
    (case z8 => k_is)
    (case z9 => k_is)
    (case z10 => k_is)
    (case z11 => k_is)
    (case z12 => k_is)
    (case aE_BadWord => k_is)
    (case aE_BadBody => k_is)
    (case aE_BadBook => k_is)
    (case aE_BadChanges => k_is)
    (case aE_BadCall => k_is)
    (case aE_BadText => k_is)
    (case aE_BadName => k_is)
    (case aE_Unknown => k_is)
    (case aE_Over => k_is)
    (case aE_Underway => k_is)
    (case aE_TooMany => k_is)
    (case aE_StrideError => k_is)
    (case y_val => k_is)
    (case kq_eg => kernel_rfl)
    (case kq_2 => kernel_rfl)
    (case kq_4 => kernel_rfl)
    (case n_LONGEST_WORD => k_is)
    (case n_MOST_STEPS => k_is)
    (case n_LARGEST_PART => k_is)
    (case n_CALL_PARTS => k_is)
    (case n_MOST_HEARD => k_is)
    (case n_MOST_STRENGTH => k_is)
    (case n_BARE_STEPS => k_is)
    (case l_BARE_STEPS => k_is)
    (case n_NUMBER_STEPS => k_is)
    (case l_NUMBER_STEPS => k_is)
    (case n_WORD_STEPS => k_is)
    (case l_WORD_STEPS => k_is)
