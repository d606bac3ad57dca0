import PyProof.Rows.All
import Wide.All
import OpenK.AllK
import Wide.FinOn
import PyProof.EqAt
import PyProof.EqKinds
import PyProof.TupleCall
import KE.BitLaws
import KE.KDictOf
import PySem.Challenge.RW_midstride_k02_whole_read
-- CHANGE: your row's module here, as the last of these rows
set_option Elab.async false
set_option linter.all false
set_option maxRecDepth 100000
/-! THE HAND LAYER, for ints, bools, texts, own classes, lists, tuples, dicts, comprehensions, walks over dicts, enumerate, zip, reversed, texts, calls, loops. Paste it whole ahead of your own text; what your proof does not reach may be deleted. -/
namespace L2
open PySem PySem.Spec PyProof.Rows

/-- a key: an int or a str -/
abbrev Key := Sum Int Str
def keyIs : Key → Value → Bool
  | .inl k, v => Value.isInt k v
  | .inr x, v => Value.isStrOf x v
def keyH (w : World) : Key → Int
  | .inl k => hashInt k
  | .inr x => hashStr w x
theorem keyIs_shape : ∀ {k : Key} {v : Value}, keyIs k v = true → (∃ i t, k = Sum.inl i ∧ v = Value.int i t) ∨ (∃ x t, k = Sum.inr x ∧ v = Value.str x t)
  | .inl i, v, h => by
    obtain ⟨t, e⟩ := Value.isInt_shape (k := i) (v := v) h
    exact .inl ⟨i, t, rfl, e⟩
  | .inr x, v, h => by
    obtain ⟨t, e⟩ := Value.isStrOf_shape (x := x) (v := v) h
    exact .inr ⟨x, t, rfl, e⟩
theorem keyIs_int (i : Int) (t : Tok) : keyIs (.inl i) (.int i t) = true := by simp [keyIs, Value.isInt]
theorem keyIs_str (x : Str) (t : Tok) : keyIs (.inr x) (.str x t) = true := by simp [keyIs, Value.isStrOf]
theorem key_ll (a b : Int) : decide ((Sum.inl a : Key) = Sum.inl b) = (a == b) := by
  by_cases e : a = b
  · subst e; simp
  · have h : ¬ (Sum.inl a : Key) = Sum.inl b := fun q => e (Sum.inl.inj q)
    rw [decide_eq_false h]
    exact (beq_eq_false_iff_ne.mpr e).symm
theorem key_rr (a b : Str) : decide ((Sum.inr a : Key) = Sum.inr b) = decide (a = b) := by
  by_cases e : a = b
  · subst e; simp
  · have h : ¬ (Sum.inr a : Key) = Sum.inr b := fun q => e (Sum.inr.inj q)
    rw [decide_eq_false h, decide_eq_false e]
theorem key_lr (a : Int) (b : Str) : decide ((Sum.inl a : Key) = Sum.inr b) = false := decide_eq_false (fun q => nomatch q)
theorem key_rl (a : Str) (b : Int) : decide ((Sum.inr a : Key) = Sum.inl b) = false := decide_eq_false (fun q => nomatch q)

def mixKind (prog : Program) (w : World) : PySem.KeyKind prog w Key where
  is := keyIs
  hash := keyH w
  inj := fun v a b ha hb => by
    rcases keyIs_shape ha with ⟨i, t, rfl, rfl⟩ | ⟨x, t, rfl, rfl⟩
    · rcases keyIs_shape hb with ⟨j, u, rfl, e⟩ | ⟨y, u, rfl, e⟩
      · injection e with e1 _; rw [e1]
      · exact nomatch e
    · rcases keyIs_shape hb with ⟨j, u, rfl, e⟩ | ⟨y, u, rfl, e⟩
      · exact nomatch e
      · injection e with e1 _; rw [e1]
  byValue := fun k v h => by
    rcases keyIs_shape h with ⟨i, t, rfl, rfl⟩ | ⟨x, t, rfl, rfl⟩ <;> rfl
  pyHash := fun hv h => by
    rcases keyIs_shape hv with ⟨i, t, rfl, rfl⟩ | ⟨x, t, rfl, rfl⟩
    · exact wpAny_pyHash_int h
    · exact wpAny_pyHash_str h
  eqBool := fun hu hv h => by
    rcases keyIs_shape hu with ⟨i, t, rfl, rfl⟩ | ⟨x, t, rfl, rfl⟩
    · rcases keyIs_shape hv with ⟨j, u, rfl, rfl⟩ | ⟨y, u, rfl, rfl⟩
      · rw [key_ll] at h; exact wpAny_eqBool_int h
      · rw [key_lr] at h; exact SeqAt.EqAt.int_str i t y u _ _ _ _ h
    · rcases keyIs_shape hv with ⟨j, u, rfl, rfl⟩ | ⟨y, u, rfl, rfl⟩
      · rw [key_rl] at h; exact SeqAt.EqAt.str_int x t j u _ _ _ _ h
      · rw [key_rr] at h; exact wpAny_eqBool_str h
  «strs» := fun k x t v h => by
    rcases keyIs_shape h with ⟨i, u, rfl, e⟩ | ⟨y, u, rfl, e⟩
    · exact nomatch e
    · injection e with e1 _
      subst e1
      cases v <;> rfl

theorem mixKind_int (prog : Program) (w : World) (i : Int) (t : Tok) : (mixKind prog w).is (.inl i) (.int i t) = true := keyIs_int i t
theorem mixKind_str (prog : Program) (w : World) (x : Str) (t : Tok) : (mixKind prog w).is (.inr x) (.str x t) = true := keyIs_str x t
end L2

namespace L2
open PySem PySem.Spec PyProof.Rows

/-- a value, without the heap -/
inductive V where
  | non | bl (b : Bool) | int (i : Int) | str (x : Str) | byt (b : Array UInt8) | flt (b : UInt64) | ref (a : Addr) | ty (n : String)
  deriving DecidableEq

def RelV : V → Value → Prop
  | .non, u => u = Value.none
  | .bl b, u => u = Value.bool b
  | .int i, u => ∃ t, u = Value.int i t
  | .str x, u => ∃ t, u = Value.str x t
  | .byt b, u => ∃ t, u = Value.bytes b t
  | .flt b, u => ∃ t, u = Value.float b t
  | .ref a, u => u = Value.ref a
  | .ty n, u => u = Value.type n

abbrev Vals : List V → List Value → Prop := Paired RelV
theorem Vals.length {xs : List V} {us : List Value} (r : Vals xs us) : xs.length = us.length := Paired.length r
theorem Vals.get : ∀ {xs : List V} {us : List Value} {i : Nat} {x : V}, Vals xs us → xs[i]? = some x → ∃ u, us[i]? = some u ∧ RelV x u
  | _, _, _, _, .nil, e => by simp at e
  | _, _, 0, _, .cons r _, e => by simp at e; subst e; exact ⟨_, rfl, r⟩
  | _, _, i + 1, x, .cons _ t, e => by
    obtain ⟨u, h1, h2⟩ := Vals.get (i := i) (x := x) t (by simpa using e)
    exact ⟨u, by simpa using h1, h2⟩
theorem Vals.set {x : V} {u : Value} (r : RelV x u) : ∀ {xs : List V} {us : List Value} (i : Nat), Vals xs us → Vals (xs.set i x) (us.set i u)
  | _, _, _, .nil => .nil
  | _, _, 0, .cons _ t => .cons r t
  | _, _, i + 1, .cons q t => .cons q (Vals.set r i t)
theorem Vals.append : ∀ {xs ys : List V} {us ws : List Value}, Vals xs us → Vals ys ws → Vals (xs ++ ys) (us ++ ws)
  | _, _, _, _, .nil, s => s
  | _, _, _, _, .cons r t, s => .cons r (Vals.append t s)
theorem Vals.take : ∀ {xs : List V} {us : List Value} (n : Nat), Vals xs us → Vals (xs.take n) (us.take n)
  | _, _, 0, _ => .nil
  | _, _, _ + 1, .nil => .nil
  | _, _, n + 1, .cons r t => .cons r (Vals.take n t)
theorem Vals.drop : ∀ {xs : List V} {us : List Value} (n : Nat), Vals xs us → Vals (xs.drop n) (us.drop n)
  | _, _, 0, r => r
  | _, _, _ + 1, .nil => .nil
  | _, _, n + 1, .cons _ t => Vals.drop n t
def RelO : Option V → Option Value → Prop
  | some v, some u => RelV v u
  | none, none => True
  | _, _ => False
def KV {κ : Type} : List (κ × V) → List (κ × Value) → Prop := Paired fun (p : κ × V) (q : κ × Value) => p.1 = q.1 ∧ RelV p.2 q.2

/-- a key of a dict (00_mix): an int or a text -/
def kV : Key → V
  | .inl i => .int i
  | .inr x => .str x

/-- what stands at a tracked address -/
inductive HO where
  /-- a list -/
  | lst (xs : List V)
  /-- a tuple (never changes) -/
  | tup (xs : List V)
  /-- a dict whose keys are ints and texts; one whose keys are tuples of ints and texts (the empty one is both) -/
  | dK (kvs : List (Key × V)) | dT (kvs : List (List Key × V))
  /-- a set of ints: its members, its size -/
  | set (S : Int → Bool) (n : Nat)
  /-- an instance of the class at C, its dict at dx, its attributes -/
  | ins (C dx : Addr) (fs : List (Str × V))
  /-- the dict of the instance at x -/
  | own (x : Addr)
  /-- the dict of an exception -/
  | xd (fs : List (Str × V))
  /-- a bound method, f of x -/
  | met (f x : Addr)
  /-- a range object lo, lo + 1, .. below hi -/
  | rng (lo hi : Int)
  /-- a thing that is known to the object (the script; a dict while a loop walks it): read, never written while it is so -/
  | frz (o : Obj) (u : HO)
  /-- a code object's table -/
  | tbl (ps : Array Value)
  /-- any other thing, by what is true of its one object (a def of one's own: SetO a S n := HO.ext fun h => ..) -/
  | ext (φ : Heap → Prop)

abbrev Hp := Addr → Option HO
def upd (H : Hp) (a : Addr) (o : HO) : Hp := fun b => if b = a then some o else H b
theorem upd_same {H : Hp} {a : Addr} {o : HO} : upd H a o a = some o := by unfold upd; rw [if_pos rfl]
theorem upd_ne {H : Hp} {a b : Addr} {o : HO} (h : b ≠ a) : upd H a o b = H b := by unfold upd; rw [if_neg h]
theorem upd_upd {H : Hp} {a : Addr} {o u : HO} : upd (upd H a o) a u = upd H a u := by
  funext b; unfold upd; split <;> rfl
/-- two objects of different content stand apart -/
theorem ne_of {H : Hp} {a b : Addr} {o u : HO} (h : H a = some o) (h' : H b = some u) (d : o ≠ u) : a ≠ b := by
  intro e; subst e; rw [h] at h'; exact d (Option.some.inj h')
theorem ne_of_none {H : Hp} {a b : Addr} {o : HO} (h : H a = some o) (h' : H b = none) : a ≠ b := by
  intro e; subst e; rw [h] at h'; cases h'

section
variable (P : Program) (w : World)
def ObjOk (H : Hp) (h : Heap) (a : Addr) : HO → Prop
  | .lst xs => xs.length ≤ sizeLine ∧ ∃ (its : List Value) (n : Nat), Vals xs its ∧ h.get? a = some { cls := .type "list", data := .seq its.toArray n }
  | .tup xs => xs.length ≤ sizeLine ∧ ∃ its : List Value, Vals xs its ∧ IsTup h a its.toArray
  | .dK kvs => kvs.length ≤ sizeLine ∧ (a == sysModules) = false ∧ ∃ vs, KV kvs vs ∧ h.DictOf (mixKind P w) a vs
  | .dT kvs => kvs.length ≤ sizeLine ∧ (a == sysModules) = false ∧ ∃ xs : List (List Key × Addr × Value),
      Paired (fun (p : List Key × V) (q : List Key × Addr × Value) => p.1 = q.1 ∧ H q.2.1 = some (.tup (p.1.map kV)) ∧ RelV p.2 q.2.2) kvs xs ∧
      ∃ o es ep, h.get? a = some o ∧ o.ExactDict ∧ o.data = .dict es ep ∧ es.toList = xs.map (entryOfKey (tupleKind (mixKind P w))) ∧ (xs.map (·.1)).Nodup
  | .set S n => h.SetOf (intKind P w) a S n
  | .ins C dx fs => H dx = some (.own a) ∧ fs.length ≤ 1000 ∧ dx ≠ a ∧ h.get? a = some (PySem.W.instObj C dx) ∧
      ∃ mA, h.Ns1 dx mA ∧ (∀ f, RelO (fs.lookup f) (mA f)) ∧ PySem.Within mA (fs.map (·.1))
  | .own _ => ∃ o, h.get? a = some o
  | .xd fs => ∃ mA, h.Ns1 a mA ∧ ∀ f, RelO (fs.lookup f) (mA f)
  | .rng lo hi => ∃ t u v, h.get? a = some { cls := .type "range", data := .fields #[.int lo t, .int hi u, .int 1 v] }
  | .frz o u => h.get? a = some o ∧ ObjOk H h a u
  | .tbl ps => h.get? a = some { cls := .none, data := .fields ps }
  | .met f x => h.get? a = some (PySem.W.methodObj (.ref f) (.ref x))
  | .ext φ => φ h ∧ (∃ o, h.get? a = some o) ∧ ∀ h1 h2 : Heap, φ h1 → (∀ o, h1.get? a = some o → h2.get? a = some o) → φ h2
/-- the abstract heap is held -/
def HOk (H : Hp) (h : Heap) : Prop := ∀ a o, H a = some o → ObjOk P w H h a o
end

section
variable {P : Program} {w : World} {H H' : Hp} {h h' : Heap} {a : Addr} {o : HO}
theorem ObjOk.lt (x : ObjOk P w H h a o) : a < h.objs.size := by
  cases o with
  | lst xs => obtain ⟨_, _, _, _, e⟩ := x; exact Heap.lt_size e
  | tup xs => obtain ⟨_, _, _, p⟩ := x; exact p.lt
  | dK kvs => obtain ⟨_, _, _, _, o, _, _, e, _⟩ := x; exact Heap.lt_size e
  | dT kvs => obtain ⟨_, _, _, _, o, _, _, e, _⟩ := x; exact Heap.lt_size e
  | set S n => obtain ⟨o, _, _, _, e, _⟩ := x; exact Heap.lt_size e
  | ins C dx fs => obtain ⟨_, _, _, e, _⟩ := x; exact Heap.lt_size e
  | own y => obtain ⟨_, e⟩ := x; exact Heap.lt_size e
  | xd fs => obtain ⟨_, ⟨_, _, _, e, _⟩, _⟩ := x; exact Heap.lt_size e
  | rng lo hi => obtain ⟨_, _, _, e⟩ := x; exact Heap.lt_size e
  | frz ob u => obtain ⟨e, _⟩ := x; exact Heap.lt_size e
  | tbl ps => exact Heap.lt_size (show h.get? a = some _ from x)
  | met f y => exact Heap.lt_size (show h.get? a = some _ from x)
  | ext φ => obtain ⟨_, ⟨_, e⟩, _⟩ := x; exact Heap.lt_size e
theorem Paired.mapP {α β : Type} {F G : α → β → Prop} : ∀ {l₁ : List α} {l₂ : List β}, Paired F l₁ l₂ → (∀ a b, F a b → G a b) → Paired G l₁ l₂
  | _, _, .nil, _ => .nil
  | _, _, .cons r t, f => .cons (f _ _ r) (Paired.mapP t f)
/-- what an object's description leans on: its own object, its own dict, the tuples -/
theorem ObjOk.stay (x : ObjOk P w H h a o) (k : ∀ b u, (b = a ∨ H b = some (.own a)) → h.get? b = some u → h'.get? b = some u)
    (ho : ∀ b, H b = some (.own a) → H' b = some (.own a)) (ht : ∀ b xs, H b = some (.tup xs) → H' b = some (.tup xs)) : ObjOk P w H' h' a o := by
  induction o with
  | lst xs => obtain ⟨z, its, n, r, e⟩ := x; exact ⟨z, its, n, r, k _ _ (.inl rfl) e⟩
  | tup xs => obtain ⟨z, its, r, ob, e, c⟩ := x; exact ⟨z, its, r, ob, k _ _ (.inl rfl) e, c⟩
  | dK kvs => obtain ⟨z, y, vs, r, ob, es, ep, e, c⟩ := x; exact ⟨z, y, vs, r, ob, es, ep, k _ _ (.inl rfl) e, c⟩
  | dT kvs =>
    obtain ⟨z, y, xs, r, ob, es, ep, e, c⟩ := x
    exact ⟨z, y, xs, Paired.mapP r fun p q z => ⟨z.1, ht _ _ z.2.1, z.2.2⟩, ob, es, ep, k _ _ (.inl rfl) e, c⟩
  | set S n => obtain ⟨ob, es, ep, t, e, c⟩ := x; exact ⟨ob, es, ep, t, k _ _ (.inl rfl) e, c⟩
  | ins C dx fs =>
    obtain ⟨d, z, ne, e, mA, ⟨od, es, ep, e2, c⟩, r⟩ := x
    exact ⟨ho _ d, z, ne, k _ _ (.inl rfl) e, mA, ⟨od, es, ep, k _ _ (.inr d) e2, c⟩, r⟩
  | own y => obtain ⟨ob, e⟩ := x; exact ⟨ob, k _ _ (.inl rfl) e⟩
  | xd fs => obtain ⟨mA, ⟨od, es, ep, e, c⟩, r⟩ := x; exact ⟨mA, ⟨od, es, ep, k _ _ (.inl rfl) e, c⟩, r⟩
  | rng lo hi => obtain ⟨t, u, v, e⟩ := x; exact ⟨t, u, v, k _ _ (.inl rfl) e⟩
  | frz ob u ih => obtain ⟨e, q⟩ := x; exact ⟨k _ _ (.inl rfl) e, ih q⟩
  | tbl ps =>
    have e : h.get? a = some { cls := .none, data := .fields ps } := x
    show h'.get? a = some { cls := .none, data := .fields ps }
    exact k a _ (.inl rfl) e
  | met f y =>
    have e : h.get? a = some (PySem.W.methodObj (.ref f) (.ref y)) := x
    show h'.get? a = some (PySem.W.methodObj (.ref f) (.ref y))
    exact k a _ (.inl rfl) e
  | ext φ => obtain ⟨p, ⟨o, e⟩, st⟩ := x; exact ⟨st _ _ p fun o q => k _ _ (.inl rfl) q, ⟨o, k _ _ (.inl rfl) e⟩, st⟩
theorem HOk.lt (x : HOk P w H h) (e : H a = some o) : a < h.objs.size := (x a o e).lt
theorem HOk.fresh (x : HOk P w H h) (e : h.objs.size ≤ a) : H a = none := by
  cases q : H a with
  | none => rfl
  | some u => exact absurd (Nat.lt_of_lt_of_le (x.lt q) e) (Nat.lt_irrefl _)
/-- every object of the heap is kept -/
theorem HOk.kept (x : HOk P w H h) (k : ∀ b u, h.get? b = some u → h'.get? b = some u) : HOk P w H h' := fun a o e =>
  (x a o e).stay (fun b u _ q => k b u q) (fun _ q => q) fun _ _ q => q
/-- a new object is laid and tracked -/
theorem HOk.laid (x : HOk P w H h) (k : ∀ b u, h.get? b = some u → h'.get? b = some u) (hp : h.objs.size ≤ a) (new : ObjOk P w (upd H a o) h' a o) : HOk P w (upd H a o) h' := fun b u e => by
  have hn := x.fresh hp
  by_cases hb : b = a
  · subst hb; rw [upd_same] at e; cases e; exact new
  · rw [upd_ne hb] at e
    exact (x b u e).stay (fun c v _ q => k c v q) (fun c q => by rw [upd_ne (ne_of_none q hn)]; exact q) fun c xs q => by rw [upd_ne (ne_of_none q hn)]; exact q
end

/-- what may be read as u: it is u, or a known u -/
def Rd (H : Hp) (a : Addr) (u : HO) : Prop := H a = some u ∨ ∃ o, H a = some (.frz o u)
theorem Rd.of {H : Hp} {a : Addr} {u : HO} (h : H a = some u) : Rd H a u := .inl h
theorem Rd.ok {P : Program} {w : World} {H : Hp} {h : Heap} {a : Addr} {u : HO} (r : Rd H a u) (x : HOk P w H h) : ObjOk P w H h a u := by
  rcases r with r | ⟨o, r⟩
  · exact x a u r
  · obtain ⟨_, q⟩ := x a _ r
    exact q
/-- what may be written -/
def Mut : Option HO → Prop
  | some (.lst _) => True
  | some (.dK _) => True
  | some (.dT _) => True
  | some (.set _ _) => True
  | some (.ins _ _ _) => True
  | some (.ext _) => True
  | _ => False
section
variable {P : Program} {w : World} {H : Hp} {h h' : Heap} {x e : Addr} {o' : HO}
/-- the object at e is changed: x itself, or the dict of the instance x -/
theorem HOk.write (ok : HOk P w H h) (mu : Mut (H x)) (he : e = x ∨ H e = some (.own x)) (k : ∀ b u, b ≠ e → h.get? b = some u → h'.get? b = some u) (heo : ∃ u, h'.get? e = some u)
    (new : ObjOk P w (upd H x o') h' x o') : HOk P w (upd H x o') h' := fun b u q => by
  have nown : ∀ c y, H c = some (.own y) → c ≠ x := fun c y r z => by subst z; rw [r] at mu; exact mu
  have ntup : ∀ c xs, H c = some (.tup xs) → c ≠ x := fun c xs r z => by subst z; rw [r] at mu; exact mu
  by_cases hb : b = x
  · subst hb; rw [upd_same] at q; cases q; exact new
  · rw [upd_ne hb] at q
    by_cases hbe : b = e
    · have q' : H b = some (.own x) := by
        rcases he with z | z
        · exact absurd (hbe.trans z) hb
        · rw [hbe]; exact z
      rw [q] at q'; cases q'
      obtain ⟨v, hv⟩ := heo
      exact ⟨v, by rw [hbe]; exact hv⟩
    · refine (ok b u q).stay (fun c v hc r => k c v ?_ r) (fun c r => by rw [upd_ne (nown c b r)]; exact r) fun c xs r => by rw [upd_ne (ntup c xs r)]; exact r
      rcases hc with rfl | hc
      · exact hbe
      · rintro rfl
        rcases he with z | z
        · exact nown c b hc z
        · rw [hc] at z; cases z; exact hb rfl
end

/-! ### kept unless tracked; of the frames at fs (the callers') the slots may change (an exception that passes writes there); of the records at ex (iterators) nothing is said -/
structure Un (fs ex : List Addr) (H H' : Hp) (h h' : Heap) : Prop where
  keep : ∀ b o, h.get? b = some o → H b = none → b ∉ fs → b ∉ ex → h'.get? b = some o
  slot : ∀ b o, h.get? b = some o → H b = none → b ∈ fs → b ∉ ex → ∃ sl, h'.get? b = some { o with slots := sl }
  free : ∀ b o, h.get? b = some o → H b = none → b ∉ ex → H' b = none
  there : ∀ b o, h.get? b = some o → b ∉ ex → ∃ o', h'.get? b = some o'
  tups : ∀ b xs, H b = some (.tup xs) → H' b = some (.tup xs)
  frzs : ∀ b o u, H b = some (.frz o u) → H' b = some (.frz o u)
  tbls : ∀ b ps, H b = some (.tbl ps) → ∃ more, H' b = some (.tbl (ps ++ more))
section
variable {fs fs' ex ex' : List Addr} {H H1 H2 : Hp} {h h1 h2 h' : Heap} {a x e : Addr} {o : HO}
theorem Un.any (u : Un fs ex H H1 h h1) {b : Addr} {ob : Obj} (q : h.get? b = some ob) (n : H b = none) (hx : b ∉ ex) : ∃ sl, h1.get? b = some { ob with slots := sl } := by
  by_cases hb : b ∈ fs
  · exact u.slot b ob q n hb hx
  · exact ⟨ob.slots, u.keep b ob q n hb hx⟩
theorem Un.trans (a : Un fs ex H H1 h h1) (b : Un fs ex H1 H2 h1 h2) : Un fs ex H H2 h h2 where
  keep := fun c ob q n hc hx => b.keep c ob (a.keep c ob q n hc hx) (a.free c ob q n hx) hc hx
  slot := fun c ob q n hc hx => by
    obtain ⟨sl, e1⟩ := a.slot c ob q n hc hx
    obtain ⟨sl', e2⟩ := b.slot c _ e1 (a.free c ob q n hx) hc hx
    exact ⟨sl', e2⟩
  free := fun c ob q n hx => by
    obtain ⟨o', e1⟩ := a.there c ob q hx
    exact b.free c o' e1 (a.free c ob q n hx) hx
  there := fun c ob q hx => by
    obtain ⟨o', e1⟩ := a.there c ob q hx
    exact b.there c o' e1 hx
  tups := fun c xs q => b.tups c xs (a.tups c xs q)
  frzs := fun c ob xs q => b.frzs c ob xs (a.frzs c ob xs q)
  tbls := fun c ps q => by
    obtain ⟨m1, e1⟩ := a.tbls c ps q
    obtain ⟨m2, e2⟩ := b.tbls c _ e1
    exact ⟨m1 ++ m2, by rw [e2, Array.append_assoc]⟩
theorem Un.kept (k : ∀ b u, h.get? b = some u → h'.get? b = some u) : Un fs ex H H h h' :=
  ⟨fun b ob q _ _ _ => k b ob q, fun b ob q _ _ _ => ⟨ob.slots, k b ob q⟩, fun _ _ _ n _ => n, fun b ob q _ => ⟨ob, k b ob q⟩, fun _ _ q => q, fun _ _ _ q => q, fun _ ps q => ⟨#[], by rw [q]; simp⟩⟩
theorem Un.refl : Un fs ex H H h h := Un.kept fun _ _ q => q
theorem Un.laid (k : ∀ b u, h.get? b = some u → h'.get? b = some u) (hp : h.objs.size ≤ a) (hn : H a = none) : Un fs ex H (upd H a o) h h' where
  keep := fun b u q _ _ _ => k b u q
  slot := fun b u q _ _ _ => ⟨u.slots, k b u q⟩
  free := fun b u q n _ => by rw [upd_ne (Nat.ne_of_lt (Nat.lt_of_lt_of_le (Heap.lt_size q) hp))]; exact n
  there := fun b u q _ => ⟨u, k b u q⟩
  tups := fun b xs q => by rw [upd_ne (ne_of_none q hn)]; exact q
  frzs := fun b u xs q => by rw [upd_ne (ne_of_none q hn)]; exact q
  tbls := fun b ps q => ⟨#[], by rw [upd_ne (ne_of_none q hn), q]; simp⟩
theorem Un.write (mu : Mut (H x)) (he : e = x ∨ H e = some (.own x)) (k : ∀ b u, b ≠ e → h.get? b = some u → h'.get? b = some u) (heo : ∃ u, h'.get? e = some u) : Un fs ex H (upd H x o) h h' := by
  have hx : ∀ b, H b = none → b ≠ x := fun b n z => by subst z; rw [n] at mu; exact mu
  have hb : ∀ b, H b = none → b ≠ e := fun b n z => by
    subst z
    rcases he with r | r
    · exact hx b n r
    · rw [n] at r; cases r
  have hm : ∀ b u, H b = some u → ¬ Mut (some u) → b ≠ x := fun b u q nm z => by subst z; rw [q] at mu; exact nm mu
  refine ⟨fun b u q n _ _ => k b u (hb b n) q, fun b u q n _ _ => ⟨u.slots, k b u (hb b n) q⟩, fun b u q n _ => by rw [upd_ne (hx b n)]; exact n, fun b u q _ => ?_,
    fun b xs q => by rw [upd_ne (hm b _ q fun z => z)]; exact q, fun b u xs q => by rw [upd_ne (hm b _ q fun z => z)]; exact q, fun b ps q => ⟨#[], by rw [upd_ne (hm b _ q fun z => z), q]; simp⟩⟩
  by_cases hbe : b = e
  · subst hbe; exact heo
  · exact ⟨u, k b u hbe q⟩
theorem Un.mono (u : Un fs ex H H1 h h1) (hs : ∀ b ∈ fs, b ∈ fs') (hx : ∀ b ∈ ex, b ∈ ex') : Un fs' ex' H H1 h h1 :=
  ⟨fun b ob q n hb he => u.keep b ob q n (fun z => hb (hs b z)) fun z => he (hx b z), fun _ _ q n _ he => u.any q n fun z => he (hx _ z), fun b ob q n he => u.free b ob q n fun z => he (hx b z), fun b ob q he => u.there b ob q fun z => he (hx b z), u.tups, u.frzs, u.tbls⟩
end

/-! ### the heap without what is tracked -/
def trk (h : Heap) (H : Hp) : List Addr := (List.range h.objs.size).filter fun a => (H a).isSome
def hidT (h : Heap) (H : Hp) : Heap := PySem.W.hideAll h (trk h H)
theorem hidT_size (h : Heap) (H : Hp) : (hidT h H).objs.size = h.objs.size := PySem.W.hideAll_size _ _
theorem hidT_get {h : Heap} {H : Hp} {b : Addr} {o : Obj} (e : h.get? b = some o) (n : H b = none) : (hidT h H).get? b = some o :=
  PySem.W.hideAll_get _ e fun hm => by
    have q : (H b).isSome = true := (List.mem_filter.mp hm).2
    rw [n] at q; simp at q
theorem of_hidT {h : Heap} {H : Hp} {b : Addr} {o : Obj} (e : (hidT h H).get? b = some o) : h.get? b = some o ∧ H b = none := by
  have e' : h.get? b = some o := PySem.W.of_hideAll (trk h H) e
  refine ⟨e', ?_⟩
  cases q : H b with
  | none => rfl
  | some x =>
    have hm : b ∈ trk h H := List.mem_filter.mpr ⟨List.mem_range.mpr (Heap.lt_size e'), by simp [q]⟩
    have z : (hidT h H).get? b = none := PySem.W.hideAll_none (trk h H) hm
    rw [z] at e; cases e

/-! ### OpenK's ledger, filled with every new object but one -/
def allNews (g h : Heap) (L : Addr) : List (Addr × Obj) := (List.range h.objs.size).filterMap fun a => if a = L ∨ (g.get? a).isSome = true then none else (h.get? a).map fun o => (a, o)
def rest (g h : Heap) (L d : Addr) : List (Addr × Obj) := (allNews g h L).filter fun p => decide (p.1 ≠ d)
end L2

namespace L2
open PySem PySem.Spec PyProof.Rows

/-- the module's facts, over the base: the heap at the law's entry without what is tracked there -/
structure Mod (K : PySem.W.Frag) (mg : Str → Option Value) (base : Heap) : Prop where
  kin : K.In base
  glob : base.Ns mainGlobals mg
  blt : ∃ mb, base.Ns builtinsNs mb ∧ ∀ x : Str, x ≠ "__name__" → mb x = bootBuiltins x
  nolimit : base.NoLimit

/-- the context: a def's body (or a comprehension's block) running. base: fixed through the whole law; s₀, H₀: the entry; outer: the frames whose slots others may change (a def's callers); stack: all frames that run;
   ex: iterators that were made ahead of the entry and are walked here (a comprehension's); fn: the names whose cells were made at the entry (a def: all; a comprehension's block: its own); calm: not within an except suite; pn: pins that every state bears; xe: what is wanted of an exception that leaves the code -/
structure Cx where
  prog : Program
  w : World
  K : PySem.W.Frag
  mg : Str → Option Value
  base : Heap
  A : Around
  N : List Str
  s_0 : Shared
  H_0 : Hp
  env : Env
  outer : List Env
  stack : List Env
  ex : List Addr
  fn : Str → Bool
  calm : Bool
  pn : List (Addr × Obj)
  xe : Value → Shared → Prop
/-- the callers' frames -/
def frs (l : List Env) : List Addr := l.filterMap (·.frame)
abbrev Cx.fs (X : Cx) : List Addr := frs X.outer

def Vis (sc : Scope) (x : Str) : Prop := sc.names.lookup x = some .local ∨ sc.names.lookup x = some .cell ∨ sc.names.lookup x = some .free
def Loc (sc : Scope) (x : Str) : Prop := sc.names.lookup x = some .local ∨ sc.names.lookup x = some .cell
def Look (env : Env) (h : Heap) (m : Str → Option Value) (x : Str) (u : Value) : Prop :=
  (env.kindOf x = some .local ∧ m x = some u) ∨ ((env.kindOf x = some .cell ∨ env.kindOf x = some .free) ∧ ∃ c, env.cells.lookup x = some c ∧ h.IsCell c (some u))

structure Cx.Ok (X : Cx) : Prop where
  mod : Mod X.K X.mg X.base
  kind : X.env.scope.kind = .function
  glob : X.env.globals = mainGlobals
  blt : X.env.builtins = builtinsNs
  above : X.s_0.heap.objs.size ≤ X.env.locals
  inj : ∀ x y c, X.env.cells.lookup x = some c → X.env.cells.lookup y = some c → x = y
  has : ∀ x, (X.env.kindOf x = some .cell ∨ X.env.kindOf x = some .free) → ∃ c, X.env.cells.lookup x = some c
  cab : ∀ x c, X.fn x = true → X.env.cells.lookup x = some c → X.s_0.heap.objs.size ≤ c
  hd : X.calm = true → X.A.handled = none
  frames : X.A.frames = some X.stack
  stk : X.stack = X.outer ∨ (X.stack = X.env :: X.outer ∧ X.env.frame = some X.env.locals)
  exf : ∀ b ∈ X.ex, b ≠ X.env.locals ∧ ∀ x c, X.env.cells.lookup x = some c → c ≠ b
  bs : ∀ b o, X.base.get? b = some o → X.s_0.heap.get? b = some o ∧ X.H_0 b = none
  bsz : X.base.objs.size ≤ X.s_0.heap.objs.size
  noex : ∀ b o, X.base.get? b = some o → b ∉ X.ex
  exfs : ∀ b ∈ X.ex, b ∉ X.fs
  funs : X.s_0.heap.FunFrames X.base X.outer
  frf : ∀ b ∈ X.fs, X.H_0 b = none

structure Inv (X : Cx) (pins : List (Addr × Obj)) (σ : List (Option V)) (H : Hp) (s : Shared) : Prop where
  ok : X.Ok
  os : s.os = X.s_0.os
  bare : AllBare s.gens
  base : Un X.fs X.ex X.H_0 H X.s_0.heap s.heap
  loc : ∃ m, s.heap.Ns X.env.locals m ∧ ∀ (i : Nat) (x : Str) (v : V), X.N[i]? = some x → σ[i]? = some (some v) → Vis X.env.scope x → ∃ u, RelV v u ∧ Look X.env s.heap m x u
  cell : ∀ x c, X.env.cells.lookup x = some c → ∃ v, s.heap.IsCell c v
  free : H X.env.locals = none
  freeC : ∀ x c, X.env.cells.lookup x = some c → H c = none
  pin : ∀ p ∈ X.pn ++ pins, s.heap.get? p.1 = some p.2 ∧ H p.1 = none ∧ p.1 ≠ X.env.locals ∧ p.1 ∉ X.fs ∧ ∀ v, p.2.data ≠ .cell v
  hok : HOk X.prog X.w H s.heap
  len : σ.length = X.N.length

section
variable {X : Cx} {pins : List (Addr × Obj)} {σ : List (Option V)} {H H' : Hp} {s : Shared} {h' : Heap}

theorem Cx.Ok.nofr (ok : X.Ok) {b : Addr} {o : Obj} (e : X.base.get? b = some o) : b ∉ X.fs := fun hb => by
  have := (ok.funs.mem hb).1
  rw [e] at this; cases this
theorem Inv.bs (I : Inv X pins σ H s) : ∀ b o, X.base.get? b = some o → s.heap.get? b = some o ∧ H b = none := fun b o e =>
  ⟨I.base.keep b o (I.ok.bs b o e).1 (I.ok.bs b o e).2 (I.ok.nofr e) (I.ok.noex b o e), I.base.free b o (I.ok.bs b o e).1 (I.ok.bs b o e).2 (I.ok.noex b o e)⟩
theorem Inv.bk (I : Inv X pins σ H s) : ∀ b o, X.base.get? b = some o → s.heap.get? b = some o := fun b o e => (I.bs b o e).1
theorem Inv.mod (I : Inv X pins σ H s) : Mod X.K X.mg X.base := I.ok.mod
theorem Inv.kIn (I : Inv X pins σ H s) : X.K.In s.heap := I.ok.mod.kin.keeps I.bk
theorem Inv.nolimit (I : Inv X pins σ H s) : s.heap.NoLimit := I.ok.mod.nolimit.keeps I.bk
theorem Inv.lt (I : Inv X pins σ H s) : X.env.locals < s.heap.objs.size := let ⟨_, hn, _⟩ := I.loc; hn.lt
theorem Inv.sz (I : Inv X pins σ H s) : X.s_0.heap.objs.size ≤ s.heap.objs.size := Nat.le_trans I.ok.above (Nat.le_of_lt I.lt)
theorem Inv.nofs (I : Inv X pins σ H s) {a : Addr} (h : s.heap.objs.size ≤ a) : a ∉ X.fs := fun hb => by
  obtain ⟨_, o, ho, _⟩ := I.ok.funs.mem hb
  exact absurd (Nat.lt_of_lt_of_le (Heap.lt_size ho) (Nat.le_trans I.sz h)) (Nat.lt_irrefl _)
theorem Inv.cne (I : Inv X pins σ H s) : ∀ x c, X.env.cells.lookup x = some c → c ≠ X.env.locals := fun x c e z => by
  obtain ⟨v, o, ho, hd⟩ := I.cell x c e
  obtain ⟨m, ⟨o', es, ep, ho', hd', _⟩, _⟩ := I.loc
  rw [z, ho'] at ho; cases ho; rw [hd'] at hd; cases hd
theorem Inv.funs (I : Inv X pins σ H s) : s.heap.FunFrames X.base X.outer := by
  have all : ∀ (l : List Env), (∀ b ∈ frs l, b ∈ X.fs) → X.s_0.heap.FunFrames X.base l → s.heap.FunFrames X.base l := by
    intro l
    induction l with
    | nil => intro _ _; trivial
    | cons env r ih =>
      intro hs hl
      obtain ⟨hk, ⟨L, o, hf, hn, ho, hd⟩, hr⟩ := hl
      have hL : L ∈ X.fs := hs L (by unfold frs; rw [List.filterMap_cons, hf]; exact List.mem_cons_self)
      obtain ⟨sl, e⟩ := I.base.slot L o ho (I.ok.frf L hL) hL fun z => I.ok.exfs L z hL
      exact ⟨hk, ⟨L, _, hf, hn, e, hd⟩, ih (fun b hb => hs b (by unfold frs; rw [List.filterMap_cons, hf]; exact List.mem_cons_of_mem _ hb)) hr⟩
  exact all X.outer (fun _ hb => hb) I.ok.funs

/-- the frames that run, for a call -/
theorem Inv.stack (I : Inv X pins σ H s) : s.heap.FunFrames X.base X.stack := by
  rcases I.ok.stk with e | ⟨e, hf⟩
  · rw [e]; exact I.funs
  · rw [e]
    obtain ⟨m, hn, _⟩ := I.loc
    refine .cons (by rw [I.ok.kind]; decide) hf hn ?_ I.funs
    exact Heap.get?_none_of_le (Nat.le_trans I.ok.bsz I.ok.above)
theorem Inv.stkSub (I : Inv X pins σ H s) : ∀ b ∈ frs X.stack, b ∈ X.env.locals :: X.fs := fun b hb => by
  rcases I.ok.stk with e | ⟨e, hf⟩
  · rw [e] at hb; exact List.mem_cons_of_mem _ hb
  · rw [e] at hb
    unfold frs at hb
    rw [List.filterMap_cons, hf] at hb
    exact hb
theorem Inv.stkFree (I : Inv X pins σ H s) : ∀ b ∈ frs X.stack, H b = none := fun b hb => by
  rcases List.mem_cons.mp (I.stkSub b hb) with e | hb
  · rw [e]; exact I.free
  · obtain ⟨_, o, ho, _⟩ := I.ok.funs.mem hb
    exact I.base.free b o ho (I.ok.frf b hb) fun z => I.ok.exfs b z hb

/-- THE STEP: the untracked objects but the frame and the records at ch are kept (the callers' frames up to slots), the frame's map is kept, the new abstract heap is held -/
theorem Inv.step {g' : Array GenState} {t' : Nat} {d' : Drawn} {ch : List Addr} (I : Inv X pins σ H s)
    (hch : ∀ b ∈ ch, (b ∈ X.ex ∨ X.s_0.heap.objs.size ≤ b) ∧ b ≠ X.env.locals ∧ (∀ x c, X.env.cells.lookup x = some c → c ≠ b) ∧ ∀ p ∈ X.pn ++ pins, p.1 ≠ b)
    (keep : ∀ b o, b ≠ X.env.locals → b ∉ X.fs → b ∉ ch → s.heap.get? b = some o → H b = none → h'.get? b = some o)
    (slot : ∀ b o, b ≠ X.env.locals → b ∈ X.fs → b ∉ ch → s.heap.get? b = some o → H b = none → ∃ sl, h'.get? b = some { o with slots := sl }) (free : ∀ b o, b ∉ ch → s.heap.get? b = some o → H b = none → H' b = none)
    (there : ∀ b o, b ∉ ch → s.heap.get? b = some o → ∃ o', h'.get? b = some o')
    (tups : ∀ b xs, H b = some (.tup xs) → H' b = some (.tup xs)) (frzs : ∀ b o u, H b = some (.frz o u) → H' b = some (.frz o u)) (tbls : ∀ b ps, H b = some (.tbl ps) → ∃ more, H' b = some (.tbl (ps ++ more)))
    (ns : ∀ m, s.heap.Ns X.env.locals m → h'.Ns X.env.locals m) (hok : HOk X.prog X.w H' h') (hg : AllBare g') :
    Inv X pins σ H' { s with heap := h', gens := g', drawn := d', toks := t' } := by
  have neL : ∀ b o, X.s_0.heap.get? b = some o → b ≠ X.env.locals := fun b o e => Nat.ne_of_lt (Nat.lt_of_lt_of_le (Heap.lt_size e) I.ok.above)
  have neC : ∀ b o, X.s_0.heap.get? b = some o → b ∉ X.ex → b ∉ ch := fun b o e hx hb => by
    rcases (hch b hb).1 with z | z
    · exact hx z
    · exact absurd (Nat.lt_of_lt_of_le (Heap.lt_size e) z) (Nat.lt_irrefl _)
  have cellK : ∀ x c, X.env.cells.lookup x = some c → ∀ v, s.heap.IsCell c v → h'.IsCell c v := fun x c e v ⟨o, ho, hd⟩ => by
    have nch : c ∉ ch := fun z => (hch c z).2.2.1 x c e rfl
    by_cases hc : c ∈ X.fs
    · obtain ⟨sl, q⟩ := slot c o (I.cne x c e) hc nch ho (I.freeC x c e)
      exact ⟨_, q, hd⟩
    · exact ⟨o, keep c o (I.cne x c e) hc nch ho (I.freeC x c e), hd⟩
  refine ⟨I.ok, I.os, hg, ⟨fun b o e n hb hx => ?_, fun b o e n hb hx => ?_, fun b o e n hx => ?_, fun b o e hx => ?_, fun b xs e => tups b xs (I.base.tups b xs e), fun b o xs e => frzs b o xs (I.base.frzs b o xs e), fun b ps e => ?_⟩, ?_, fun x c e => ?_, ?_, fun x c e => ?_, fun p hp => ?_, hok, I.len⟩
  · exact keep b o (neL b o e) hb (neC b o e hx) (I.base.keep b o e n hb hx) (I.base.free b o e n hx)
  · obtain ⟨sl, e1⟩ := I.base.slot b o e n hb hx
    obtain ⟨sl', e2⟩ := slot b _ (neL b o e) hb (neC b o e hx) e1 (I.base.free b o e n hx)
    exact ⟨sl', e2⟩
  · obtain ⟨o', e1⟩ := I.base.there b o e hx
    exact free b o' (neC b o e hx) e1 (I.base.free b o e n hx)
  · obtain ⟨o', e1⟩ := I.base.there b o e hx
    exact there b o' (neC b o e hx) e1
  · obtain ⟨m1, e1⟩ := I.base.tbls b ps e
    obtain ⟨m2, e2⟩ := tbls b _ e1
    exact ⟨m1 ++ m2, by rw [e2, Array.append_assoc]⟩
  · obtain ⟨m, hn, hl⟩ := I.loc
    refine ⟨m, ns m hn, fun i x v e1 e2 e3 => ?_⟩
    obtain ⟨u, r, l⟩ := hl i x v e1 e2 e3
    refine ⟨u, r, ?_⟩
    rcases l with l | ⟨k, c, e, z⟩
    · exact .inl l
    · exact .inr ⟨k, c, e, cellK x c e _ z⟩
  · obtain ⟨v, z⟩ := I.cell x c e
    exact ⟨v, cellK x c e v z⟩
  · obtain ⟨m, ⟨o, _, _, ho, _⟩, _⟩ := I.loc
    exact free _ o (fun z => (hch _ z).2.1 rfl) ho I.free
  · obtain ⟨v, o, ho, hd⟩ := I.cell x c e
    exact free c o (fun z => (hch c z).2.2.1 x c e rfl) ho (I.freeC x c e)
  · obtain ⟨e, n, ne, nf, d⟩ := I.pin p hp
    have nch : p.1 ∉ ch := fun z => (hch p.1 z).2.2.2 p hp rfl
    exact ⟨keep p.1 p.2 ne nf nch e n, free p.1 p.2 nch e n, ne, nf, d⟩
/-- .. where the frame's own object is kept too -/
theorem Inv.un {t' : Nat} (I : Inv X pins σ H s) (u : Un X.fs [] H H' s.heap h') (hok : HOk X.prog X.w H' h') : Inv X pins σ H' { s with heap := h', toks := t' } := by
  obtain ⟨m, ⟨o, es, ep, ho, r⟩, _⟩ := id I.loc
  obtain ⟨sl, hL⟩ := u.any ho I.free (by simp)
  exact I.step (g' := s.gens) (d' := s.drawn) (ch := []) (fun _ z => nomatch z) (fun b o _ hb _ e n => u.keep b o e n hb (by simp)) (fun b o _ hb _ e n => u.slot b o e n hb (by simp)) (fun b o _ e n => u.free b o e n (by simp)) (fun b o _ e => u.there b o e (by simp)) u.tups u.frzs u.tbls (fun m' hm => by
    obtain ⟨o', es', ep', ho', r'⟩ := hm
    rw [ho] at ho'; cases ho'
    exact ⟨_, es', ep', hL, r'⟩) hok I.bare
/-- behind a call (or a comprehension's block): the slots of this frame may have changed too, the records at ch may have turned -/
theorem Inv.call {g' : Array GenState} {t' : Nat} {d' : Drawn} {ch : List Addr} (I : Inv X pins σ H s) (u : Un (frs X.stack) ch H H' s.heap h') (hok : HOk X.prog X.w H' h') (hg : AllBare g')
    (hch : ∀ b ∈ ch, (b ∈ X.ex ∨ X.s_0.heap.objs.size ≤ b) ∧ b ≠ X.env.locals ∧ (∀ x c, X.env.cells.lookup x = some c → c ≠ b) ∧ ∀ p ∈ X.pn ++ pins, p.1 ≠ b) :
    Inv X pins σ H' { s with heap := h', gens := g', drawn := d', toks := t' } := by
  obtain ⟨m, ⟨o, es, ep, ho, r⟩, _⟩ := id I.loc
  obtain ⟨sl, hL⟩ := u.any ho I.free fun z => (hch _ z).2.1 rfl
  exact I.step (ch := ch) hch (fun b o hL hb hc e n => u.keep b o e n (fun z => (List.mem_cons.mp (I.stkSub b z)).elim hL hb) hc) (fun b o _ _ hc e n => u.any e n hc) (fun b o hc e n => u.free b o e n hc) (fun b o hc e => u.there b o e hc) u.tups u.frzs u.tbls (fun m' hm => by
    obtain ⟨o', es', ep', ho', r'⟩ := hm
    rw [ho] at ho'; cases ho'
    exact ⟨_, es', ep', hL, r'⟩) hok hg
/-- an untracked record of ours (an iterator) has turned -/
theorem Inv.turned {t' : Nat} {it : Addr} (I : Inv X pins σ H s) (k : ∀ b o, b ≠ it → s.heap.get? b = some o → h'.get? b = some o) (hn : H it = none) (hL : it ≠ X.env.locals)
    (h1 : it ∈ X.ex ∨ X.s_0.heap.objs.size ≤ it) (h2 : ∀ x c, X.env.cells.lookup x = some c → c ≠ it) (h3 : ∀ p ∈ X.pn ++ pins, p.1 ≠ it) : Inv X pins σ H { s with heap := h', toks := t' } := by
  have nit : ∀ b u, H b = some u → b ≠ it := fun b u e z => by rw [z, hn] at e; cases e
  refine I.step (g' := s.gens) (d' := s.drawn) (ch := [it]) (fun b hb => ?_) (fun b o _ _ hc e _ => k b o (fun z => hc (by simp [z])) e) (fun b o _ _ hc e _ => ⟨o.slots, k b o (fun z => hc (by simp [z])) e⟩) (fun _ _ _ _ n => n)
    (fun b o hc e => ⟨o, k b o (fun z => hc (by simp [z])) e⟩) (fun _ _ e => e) (fun _ _ _ e => e) (fun b ps e => ⟨#[], by rw [e]; simp⟩) (fun m hm => ?_) (fun b u e => ?_) I.bare
  · have e : b = it := by simpa using hb
    subst e
    exact ⟨h1, hL, h2, h3⟩
  · obtain ⟨o, es, ep, ho, r⟩ := hm
    exact ⟨o, es, ep, k _ o (Ne.symm hL) ho, r⟩
  · refine (I.hok b u e).stay (fun c v hc q => k c v ?_ q) (fun _ q => q) fun _ _ q => q
    rcases hc with z | z
    · rw [z]; exact nit b u e
    · exact nit c _ z
theorem Inv.tok (I : Inv X pins σ H s) (t : Nat) : Inv X pins σ H { s with toks := t } := I.un (h' := s.heap) (t' := t) Un.refl I.hok
/-- all objects kept -/
theorem Inv.kept {t' : Nat} (I : Inv X pins σ H s) (k : ∀ b u, s.heap.get? b = some u → h'.get? b = some u) : Inv X pins σ H { s with heap := h', toks := t' } := I.un (Un.kept k) (I.hok.kept k)
/-- a new object laid and tracked -/
theorem Inv.laid {a : Addr} {o : HO} {t' : Nat} (I : Inv X pins σ H s) (k : ∀ b u, s.heap.get? b = some u → h'.get? b = some u) (hp : s.heap.objs.size ≤ a) (new : ObjOk X.prog X.w (upd H a o) h' a o) :
    Inv X pins σ (upd H a o) { s with heap := h', toks := t' } := I.un (Un.laid k hp (I.hok.fresh hp)) (I.hok.laid k hp new)
/-- an object written -/
theorem Inv.write {x e : Addr} {o : HO} {t' : Nat} (I : Inv X pins σ H s) (mu : Mut (H x)) (he : e = x ∨ H e = some (.own x)) (k : ∀ b u, b ≠ e → s.heap.get? b = some u → h'.get? b = some u) (heo : ∃ u, h'.get? e = some u)
    (new : ObjOk X.prog X.w (upd H x o) h' x o) : Inv X pins σ (upd H x o) { s with heap := h', toks := t' } := I.un (Un.write mu he k heo) (I.hok.write mu he k heo new)
/-- forgetting slots, pins -/
theorem Inv.weak {σ' : List (Option V)} (I : Inv X pins σ H s) (hl : σ'.length = σ.length) (w : ∀ (i : Nat) v, σ'[i]? = some (some v) → σ[i]? = some (some v)) : Inv X pins σ' H s :=
  ⟨I.ok, I.os, I.bare, I.base, let ⟨m, hn, hl'⟩ := I.loc; ⟨m, hn, fun i x v e1 e2 e3 => hl' i x v e1 (w i v e2) e3⟩, I.cell, I.free, I.freeC, I.pin, I.hok, hl.trans I.len⟩
theorem Inv.pins_of {pins' : List (Addr × Obj)} (I : Inv X pins σ H s) (h : ∀ p ∈ pins', s.heap.get? p.1 = some p.2 ∧ H p.1 = none ∧ p.1 ≠ X.env.locals ∧ p.1 ∉ X.fs ∧ ∀ v, p.2.data ≠ .cell v) : Inv X pins' σ H s :=
  ⟨I.ok, I.os, I.bare, I.base, I.loc, I.cell, I.free, I.freeC, fun p hp => (List.mem_append.mp hp).elim (fun z => I.pin p (List.mem_append_left _ z)) (h p), I.hok, I.len⟩

theorem nodup_ix {N : List Str} (hN : N.Nodup) {i j : Nat} {x : Str} (a : N[i]? = some x) (b : N[j]? = some x) : i = j := by
  obtain ⟨h1, e1⟩ := List.getElem?_eq_some_iff.mp a
  obtain ⟨h2, e2⟩ := List.getElem?_eq_some_iff.mp b
  exact (List.getElem_inj hN).mp (e1.trans e2.symm)

/-- a name is stored; what changed -/
theorem store_ok2 {M : Model} {A : Around} {E : Value → Shared → Prop} {i : Nat} {x : Str} {v : V} {u : Value} {Q : Unit → Shared → Prop} (I : Inv X pins σ H s) (hN : X.N.Nodup) (hi : X.N[i]? = some x) (hx : Loc X.env.scope x) (r : RelV v u)
    (h : ∀ s', Inv X pins (σ.set i (some v)) H s' → (∃ a, Heap.SameBut a s.heap s'.heap ∧ (a = X.env.locals ∨ X.env.cells.lookup x = some a)) → Q () s') (hf : X.fn x = true ∨ X.env.scope.names.lookup x = some .local := by first | exact .inl rfl | exact .inr rfl | assumption) : wpAny M A (storeName X.env x u) Q E s := by
  obtain ⟨m, hn, hl⟩ := id I.loc
  have hcls : (X.env.scope.kind == .class || (X.env.scope.kind == .module && X.env.locals != X.env.globals)) = false := by rw [I.ok.kind]; rfl
  have hiσ : i < σ.length := by rw [I.len]; exact (List.getElem?_eq_some_iff.mp hi).1
  have cne := I.cne
  have tracked : ∀ {a : Addr} {h' : Heap}, (∃ o, s.heap.get? a = some o ∧ H a = none) → Heap.SameBut a s.heap h' → HOk X.prog X.w H h' := fun {a h'} ha hs b ob e => by
    obtain ⟨_, _, hfree⟩ := ha
    refine (I.hok b ob e).stay (fun c w' hc q => (hs.2 c ?_).trans q) (fun _ q => q) fun _ _ q => q
    rintro rfl
    rcases hc with rfl | hc
    · rw [hfree] at e; cases e
    · rw [hfree] at hc; cases hc
  rcases hx with hk | hk
  · refine wpAny_storeName_local hk hn (fun h' hn' hs => ?_) hcls
    obtain ⟨oL, _, _, hoL, _⟩ := id hn
    refine h _ ⟨I.ok, I.os, I.bare, ⟨fun b o e n hb hx => ?_, fun b o e n hb hx => ?_, I.base.free, fun b o e hx => ?_, I.base.tups, I.base.frzs, I.base.tbls⟩, ⟨_, hn', fun j y v' e1 e2 e3 => ?_⟩, fun y c e => ?_, I.free, I.freeC, fun p hp => ?_, tracked ⟨oL, hoL, I.free⟩ hs, by simpa using I.len⟩ ⟨_, hs, .inl rfl⟩
    · exact (hs.2 b (Nat.ne_of_lt (Nat.lt_of_lt_of_le (Heap.lt_size e) I.ok.above))).trans (I.base.keep b o e n hb hx)
    · obtain ⟨sl, e1⟩ := I.base.slot b o e n hb hx
      exact ⟨sl, (hs.2 b (Nat.ne_of_lt (Nat.lt_of_lt_of_le (Heap.lt_size e) I.ok.above))).trans e1⟩
    · obtain ⟨o', e1⟩ := I.base.there b o e hx
      exact ⟨o', (hs.2 b (Nat.ne_of_lt (Nat.lt_of_lt_of_le (Heap.lt_size e) I.ok.above))).trans e1⟩
    · by_cases hj : j = i
      · subst hj
        rw [hi] at e1; cases e1
        rw [List.getElem?_set_self hiσ] at e2
        cases e2
        exact ⟨u, r, .inl ⟨hk, by simp⟩⟩
      · rw [List.getElem?_set_ne (Ne.symm hj)] at e2
        obtain ⟨u', r', q⟩ := hl j y v' e1 e2 e3
        refine ⟨u', r', ?_⟩
        rcases q with ⟨k, e⟩ | ⟨k, c, e, z⟩
        · refine .inl ⟨k, ?_⟩
          have : y ≠ x := fun e => hj (nodup_ix hN e1 (e ▸ hi))
          simp [this, e]
        · exact .inr ⟨k, c, e, z.sameBut hs (cne y c e)⟩
    · obtain ⟨w', z⟩ := I.cell y c e
      exact ⟨w', z.sameBut hs (cne y c e)⟩
    · obtain ⟨e, n, ne, nf, d⟩ := I.pin p hp
      exact ⟨(hs.2 p.1 ne).trans e, n, ne, nf, d⟩
  · have hfn : X.fn x = true := by
      rcases hf with z | z
      · exact z
      · rw [z] at hk; cases hk
    obtain ⟨c, hc⟩ := I.ok.has x (.inl hk)
    obtain ⟨w', z⟩ := I.cell x c hc
    refine wpAny_storeName_cell I.ok.kind hk hc z (fun h' hc' hs => ?_)
    obtain ⟨oc, hoc, hocd⟩ := id z
    refine h { s with heap := h' } ⟨I.ok, I.os, I.bare, ⟨fun b o e n hb hx => ?_, fun b o e n hb hx => ?_, I.base.free, fun b o e hx => ?_, I.base.tups, I.base.frzs, I.base.tbls⟩, ⟨m, hn.sameBut hs (Ne.symm (cne x c hc)), fun j y v' e1 e2 e3 => ?_⟩, fun y c' e => ?_, I.free, I.freeC, fun p hp => ?_, tracked ⟨oc, hoc, I.freeC x c hc⟩ hs, by simpa using I.len⟩ ⟨c, hs, .inr hc⟩
    · exact (hs.2 b (Nat.ne_of_lt (Nat.lt_of_lt_of_le (Heap.lt_size e) (I.ok.cab x c hfn hc)))).trans (I.base.keep b o e n hb hx)
    · obtain ⟨sl, e1⟩ := I.base.slot b o e n hb hx
      exact ⟨sl, (hs.2 b (Nat.ne_of_lt (Nat.lt_of_lt_of_le (Heap.lt_size e) (I.ok.cab x c hfn hc)))).trans e1⟩
    · obtain ⟨o', e1⟩ := I.base.there b o e hx
      exact ⟨o', (hs.2 b (Nat.ne_of_lt (Nat.lt_of_lt_of_le (Heap.lt_size e) (I.ok.cab x c hfn hc)))).trans e1⟩
    · by_cases hj : j = i
      · subst hj
        rw [hi] at e1; cases e1
        rw [List.getElem?_set_self hiσ] at e2
        cases e2
        exact ⟨u, r, .inr ⟨.inl hk, c, hc, hc'⟩⟩
      · rw [List.getElem?_set_ne (Ne.symm hj)] at e2
        obtain ⟨u', r', q⟩ := hl j y v' e1 e2 e3
        refine ⟨u', r', ?_⟩
        rcases q with q | ⟨k, c', e, z'⟩
        · exact .inl q
        · refine .inr ⟨k, c', e, z'.sameBut hs ?_⟩
          rintro rfl
          exact hj (nodup_ix hN e1 (I.ok.inj _ _ _ e hc ▸ hi))
    · by_cases hcc : c' = c
      · subst hcc; exact ⟨_, hc'⟩
      · obtain ⟨w2, z2⟩ := I.cell y c' e
        exact ⟨w2, z2.sameBut hs hcc⟩
    · obtain ⟨e, n, ne, nf, d⟩ := I.pin p hp
      refine ⟨(hs.2 p.1 ?_).trans e, n, ne, nf, d⟩
      intro q
      rw [q, hoc] at e
      have q' : oc = p.2 := Option.some.inj e
      exact d w' (by rw [← q']; exact hocd)
theorem store_ok {M : Model} {A : Around} {E : Value → Shared → Prop} {i : Nat} {x : Str} {v : V} {u : Value} {Q : Unit → Shared → Prop} (I : Inv X pins σ H s) (hN : X.N.Nodup) (hi : X.N[i]? = some x) (hx : Loc X.env.scope x) (r : RelV v u)
    (h : ∀ s', Inv X pins (σ.set i (some v)) H s' → Q () s') (hf : X.fn x = true ∨ X.env.scope.names.lookup x = some .local := by first | exact .inl rfl | exact .inr rfl | assumption) : wpAny M A (storeName X.env x u) Q E s :=
  store_ok2 I hN hi hx r (fun s' I' _ => h s' I') hf
/-- behind a call or a block, the state as it is -/
theorem Inv.call' {s' : Shared} {ch : List Addr} (I : Inv X pins σ H s) (ho : s'.os = s.os) (u : Un (frs X.stack) ch H H' s.heap s'.heap) (hok : HOk X.prog X.w H' s'.heap) (hg : AllBare s'.gens)
    (hch : ∀ b ∈ ch, (b ∈ X.ex ∨ X.s_0.heap.objs.size ≤ b) ∧ b ≠ X.env.locals ∧ (∀ x c, X.env.cells.lookup x = some c → c ≠ b) ∧ ∀ p ∈ X.pn ++ pins, p.1 ≠ b) : Inv X pins σ H' s' := by
  obtain ⟨h', g', d', t', o'⟩ := s'
  have e : o' = s.os := ho
  subst e
  exact I.call (g' := g') (t' := t') (d' := d') u hok hg hch
end

/-! ### the judgements -/
/-- an exception: its class, its own dict's address (where it has one), the abstract heap behind it -/
abbrev XK := Value → Option Addr → Hp → Prop
abbrev St := List (Option V)
abbrev VK := V → Hp → Prop
/-- an expression's reading; a test's; an argument list's -/
abbrev TE := St → Hp → VK → Prop
abbrev TT := St → Hp → (Bool → Hp → Prop) → Prop
abbrev TA := St → Hp → (List V → Hp → Prop) → Prop
/-- what is wanted behind a statement -/
structure Ends where
  nx : St → Hp → Prop
  rt : VK
  bk : St → Hp → Prop := fun _ _ => False
  ct : St → Hp → Prop := fun _ _ => False
abbrev TS := Ends → St → Hp → Prop

def EP (X : Cx) (pins : List (Addr × Obj)) (σ : St) (Q : VK) (u : Value) (s' : Shared) : Prop := ∃ v H', Inv X pins σ H' s' ∧ RelV v u ∧ Q v H'
def TP (X : Cx) (pins : List (Addr × Obj)) (σ : St) (Q : Bool → Hp → Prop) (b : Bool) (s' : Shared) : Prop := ∃ H', Inv X pins σ H' s' ∧ Q b H'
def AP (X : Cx) (pins : List (Addr × Obj)) (σ : St) (Q : List V → Hp → Prop) (us : List Value) (s' : Shared) : Prop := ∃ vs H', Inv X pins σ H' s' ∧ Vals vs us ∧ Q vs H'
def SP (X : Cx) (pins : List (Addr × Obj)) (D : Ends) (f : Flow) (s' : Shared) : Prop :=
  match f with
  | .next => ∃ σ' H', Inv X pins σ' H' s' ∧ D.nx σ' H'
  | .brk => ∃ σ' H', Inv X pins σ' H' s' ∧ D.bk σ' H'
  | .cont => ∃ σ' H', Inv X pins σ' H' s' ∧ D.ct σ' H'
  | .ret u => ∃ v σ' H', Inv X pins σ' H' s' ∧ RelV v u ∧ D.rt v H'

def PE (X : Cx) (e : Expr) (t : TE) : Prop :=
  ∀ (pins : List (Addr × Obj)) (s : Shared) (σ : St) (H : Hp) (Q : VK), Inv X pins σ H s → t σ H Q → wpAny (model X.prog X.w) X.A (eval e X.env) (EP X pins σ Q) X.xe s
def PT (X : Cx) (e : Expr) (t : TT) : Prop :=
  ∀ (pins : List (Addr × Obj)) (s : Shared) (σ : St) (H : Hp) (Q : Bool → Hp → Prop), Inv X pins σ H s → t σ H Q → wpAny (model X.prog X.w) X.A (isTrue e X.env (eval e X.env)) (TP X pins σ Q) X.xe s
/-- a test whatever its 'whole' is (and, or) -/
def PW (X : Cx) (e : Expr) (t : TT) : Prop :=
  ∀ (whole : Sem Value) (pins : List (Addr × Obj)) (s : Shared) (σ : St) (H : Hp) (Q : Bool → Hp → Prop), Inv X pins σ H s → t σ H Q → wpAny (model X.prog X.w) X.A (isTrue e X.env whole) (TP X pins σ Q) X.xe s
theorem PW.pt {X : Cx} {e : Expr} {t : TT} (h : PW X e t) : PT X e t := h _
/-- an argument list (no star), from the left -/
def PA (X : Cx) (es : List Expr) (t : TA) : Prop :=
  ∀ (pos : Pos) (pins : List (Addr × Obj)) (s : Shared) (σ : St) (H : Hp) (Q : List V → Hp → Prop), Inv X pins σ H s → t σ H Q → wpAny (model X.prog X.w) X.A (spliced (backTo pos (starEach es X.env))) (AP X pins σ Q) X.xe s
def PS (X : Cx) (st : Stmt) (t : TS) : Prop :=
  ∀ (pins : List (Addr × Obj)) (s : Shared) (σ : St) (H : Hp) (D : Ends), Inv X pins σ H s → t D σ H → wpAny (model X.prog X.w) X.A (exec st X.env) (SP X pins D) X.xe s
def PSs (X : Cx) (st : List Stmt) (t : TS) : Prop :=
  ∀ (pins : List (Addr × Obj)) (s : Shared) (σ : St) (H : Hp) (D : Ends), Inv X pins σ H s → t D σ H → wpAny (model X.prog X.w) X.A (execs st X.env) (SP X pins D) X.xe s
/-- weaken the end -/
theorem thn {α : Type} {t : Sem α} {Q Q' : α → Shared → Prop} {M : Model} {A : Around} {E : Value → Shared → Prop} {s : Shared} (h : wpAny M A t Q E s) (hQ : ∀ a s, Q a s → Q' a s) : wpAny M A t Q' E s := wpAny_mono h hQ fun _ _ x => x
end L2

namespace L2
open PySem PySem.Spec PyProof.Rows
section
variable {X : Cx}

/-! ### names and constants -/
def tVar (i : Nat) : TE := fun σ H Q => ∃ v, σ[i]? = some (some v) ∧ Q v H
def tC (v : V) : TE := fun _ H Q => Q v H
theorem pe_var {i : Nat} {x : Str} {pos : Pos} (hN : X.N[i]? = some x) (hv : Vis X.env.scope x) (hd : (x == ("__debug__" : Str)) = false := by decide) (hcd : (x == ("__classdict__" : Str)) = false := by decide) : PE X (.Name x pos) (tVar i) := by
  intro pins s σ H Q I h
  obtain ⟨v, e, h⟩ := h
  obtain ⟨m, hn, hl⟩ := I.loc
  obtain ⟨u, r, l⟩ := hl i x v hN e hv
  have fin : EP X pins σ Q u s := ⟨v, H, I, r, h⟩
  rcases l with ⟨hk, hm⟩ | ⟨hk, c, hc, hcell⟩
  · exact wpAny_Name (wpAny_loadName_local I.ok.kind hk hn hm fin) hd
  · rcases hk with hk | hk
    · exact wpAny_Name (wpAny_loadName_cell I.ok.kind hk hc hcell fin) hd
    · exact wpAny_Name (wpAny_loadName_free I.ok.kind hk hc hcell fin hcd) hd
theorem pe_int {i j pos} : PE X (.Constant (.int i) j pos) (tC (.int i)) := fun _ _ _ H _ I h => wpAny_Constant_int ⟨.int i, H, I.tok _, ⟨_, rfl⟩, h⟩
theorem pe_bl {b j pos} : PE X (.Constant (.bool b) j pos) (tC (.bl b)) := fun _ _ _ H _ I h => Constant_bool ⟨.bl b, H, I, rfl, h⟩
theorem pe_non {j pos} : PE X (.Constant .none j pos) (tC .non) := fun _ _ _ H _ I h => Constant_none ⟨.non, H, I, rfl, h⟩
theorem pe_str {x j pos} : PE X (.Constant (.str x) j pos) (tC (.str x)) := fun _ _ _ H _ I h => Calls.Constant_str ⟨.str x, H, I.tok _, ⟨_, rfl⟩, h⟩

/-- a global name of the def -/
def Gl (X : Cx) (x : Str) : Prop := X.env.kindOf x = some .globalImplicit
theorem ld_glob {E : Value → Shared → Prop} {pins : List (Addr × Obj)} {s : Shared} {σ : St} {H : Hp} {x : Str} {u : Value} {pos : Pos} {Q : Value → Shared → Prop} (I : Inv X pins σ H s) (hg : Gl X x) (hm : X.mg x = some u) (h : Q u s)
    (hd : (x == ("__debug__" : Str)) = false := by decide) : wpAny (model X.prog X.w) X.A (eval (.Name x pos) X.env) Q E s :=
  Calls.Name_function_global I.ok.kind hg (Calls.loadGlobal_global (by rw [I.ok.glob]; exact I.mod.glob.keeps I.bk) hm h) hd
theorem ld_blt {E : Value → Shared → Prop} {pins : List (Addr × Obj)} {s : Shared} {σ : St} {H : Hp} {x : Str} {u : Value} {pos : Pos} {Q : Value → Shared → Prop} (I : Inv X pins σ H s) (hg : Gl X x) (hm : X.mg x = none) (hv : bootBuiltins x = some u) (h : Q u s)
    (hn : x ≠ "__name__" := by decide) (hd : (x == ("__debug__" : Str)) = false := by decide) : wpAny (model X.prog X.w) X.A (eval (.Name x pos) X.env) Q E s := by
  obtain ⟨mb, h1, h2⟩ := I.mod.blt
  exact Calls.Name_function_global I.ok.kind hg (Calls.loadGlobal_builtin (by rw [I.ok.glob]; exact I.mod.glob.keeps I.bk) hm (by rw [I.ok.blt]; exact h1.keeps I.bk) ((h2 x hn).trans hv) h) hd
/-- a module's constant, a class, a function, as a value -/
theorem pe_glob {x : Str} {v : V} {u : Value} {pos : Pos} (hg : Gl X x) (hm : X.mg x = some u) (r : RelV v u) (hd : (x == ("__debug__" : Str)) = false := by decide) : PE X (.Name x pos) (tC v) :=
  fun _ _ _ H _ I h => ld_glob I hg hm ⟨v, H, I, r, h⟩ hd
theorem pe_bltn {x : Str} {v : V} {u : Value} {pos : Pos} (hg : Gl X x) (hm : X.mg x = none) (hv : bootBuiltins x = some u) (r : RelV v u) (hn : x ≠ "__name__" := by decide) (hd : (x == ("__debug__" : Str)) = false := by decide) : PE X (.Name x pos) (tC v) :=
  fun _ _ _ H _ I h => ld_blt I hg hm hv ⟨v, H, I, r, h⟩ hn hd

/-! ### arithmetic -/
variable {a b : Expr} {ta tb : TE} {pos : Pos}
/-! ### comparisons -/
def PC (X : Cx) (op : CmpOp) (a b : Expr) (t : TE) : Prop :=
  ∀ (pins : List (Addr × Obj)) (s : Shared) (σ : St) (H : Hp) (Q : VK), Inv X pins σ H s → t σ H Q →
    wpAny (model X.prog X.w) X.A (eval a X.env) (fun v s₁ => wpAny (model X.prog X.w) X.A (eval b X.env) (fun u s₂ => wpAny (model X.prog X.w) X.A (compareOp op v u) (EP X pins σ Q) X.xe s₂) X.xe s₁) X.xe s
theorem nobehind (b : Expr) {op : CmpOp} (h : op ≠ .In) (h2 : op ≠ .NotIn) : behindInMarks op b = false := by
  have e1 : (op == CmpOp.In) = false := by cases op <;> first | rfl | exact absurd rfl h
  have e2 : (op == CmpOp.NotIn) = false := by cases op <;> first | rfl | exact absurd rfl h2
  cases b <;> simp [behindInMarks, e1, e2]
/-- a comparison as a value, as a test -/
def tB (t : TE) : TT := fun σ H Q => t σ H fun x H1 => ∃ c, x = .bl c ∧ Q c H1
theorem pt_cmp {op : CmpOp} {t : TE} (h : PC X op a b t) (h1 : behindInMarks op b = false := by first | exact nobehind _ (by decide) (by decide) | rfl) : PT X (.Compare a [op] [b] pos) (tB t) := by
  intro pins s σ H Q I hw
  refine wpAny_isTrue_Compare1 (thn (h pins s σ H _ I hw) fun v s1 h1 => thn h1 fun u s2 h2 => thn h2 fun c s3 ⟨x, H1, I1, r1, q1⟩ => ?_) h1
  obtain ⟨d, rfl, q⟩ := q1
  cases r1
  exact wpAny_truthy_bool ⟨H1, I1, q⟩
/-- an expression whose value is a bool, as a test -/
theorem pt_val {e : Expr} {t : TE} (h : PE X e t) (he : ∀ whole, isTrue e X.env whole = (do let v ← whole; standAt e.pos; holding [v] (truthy v)) := by intro _; rfl) : PT X e (tB t) := by
  intro pins s σ H Q I hw
  refine isTrue_plain (thn (h pins s σ H _ I hw) fun v s1 ⟨x, H1, I1, r1, q1⟩ => ?_) (he _)
  obtain ⟨d, rfl, q⟩ := q1
  cases r1
  exact wpAny_truthy_bool ⟨H1, I1, q⟩

/-! ### and, or, not -/
variable {tA tB' : TT} {rest : List Expr}
def tAnd (t u : TT) : TT := fun σ H Q => t σ H fun c H1 => if c = true then u σ H1 Q else Q false H1
def tOr (t u : TT) : TT := fun σ H Q => t σ H fun c H1 => if c = true then Q true H1 else u σ H1 Q
def tNot (t : TT) : TT := fun σ H Q => t σ H fun c H1 => Q (!c) H1
theorem pw_and1 (ha : PT X a tA) : PW X (.BoolOp .And [a] pos) tA := by
  intro wh pins s σ H Q I h
  refine isTrue_and (thn (ha pins s σ H Q I h) fun c s1 e => ?_)
  cases c with
  | true => exact isTrue_and_nil e
  | false => exact e
theorem pw_or1 (ha : PT X a tA) : PW X (.BoolOp .Or [a] pos) tA := by
  intro wh pins s σ H Q I h
  refine isTrue_or (thn (ha pins s σ H Q I h) fun c s1 e => ?_)
  cases c with
  | false => exact isTrue_or_nil e
  | true => exact e
theorem pw_and (ha : PT X a tA) (hb : PW X (.BoolOp .And (b :: rest) pos) tB') : PW X (.BoolOp .And (a :: b :: rest) pos) (tAnd tA tB') := by
  intro wh pins s σ H Q I h
  refine isTrue_and (thn (ha pins s σ H _ I h) fun c s1 ⟨H1, I1, q1⟩ => ?_)
  cases c with
  | true => exact hb wh pins s1 σ H1 Q I1 q1
  | false => exact ⟨H1, I1, q1⟩
theorem pw_or (ha : PT X a tA) (hb : PW X (.BoolOp .Or (b :: rest) pos) tB') : PW X (.BoolOp .Or (a :: b :: rest) pos) (tOr tA tB') := by
  intro wh pins s σ H Q I h
  refine isTrue_or (thn (ha pins s σ H _ I h) fun c s1 ⟨H1, I1, q1⟩ => ?_)
  cases c with
  | true => exact ⟨H1, I1, q1⟩
  | false => exact hb wh pins s1 σ H1 Q I1 q1
theorem pt_not (ha : PT X a tA) : PT X (.UnaryOp .Not a pos) (tNot tA) := by
  intro pins s σ H Q I h
  exact isTrue_not (ha pins s σ H (fun c H1 => Q (!c) H1) I h)
/-- .. as values (bools) -/
def tAndV (ta tb : TE) : TE := fun σ H Q => ta σ H fun x H1 => ∃ c, x = .bl c ∧ if c = true then tb σ H1 Q else Q (.bl false) H1
def tOrV (ta tb : TE) : TE := fun σ H Q => ta σ H fun x H1 => ∃ c, x = .bl c ∧ if c = true then Q (.bl true) H1 else tb σ H1 Q
def tNotV (ta : TE) : TE := fun σ H Q => ta σ H fun x H1 => ∃ c, x = .bl c ∧ Q (.bl (!c)) H1
theorem pe_one {op} {t : TE} (h : PE X a t) : PE X (.BoolOp op [a] pos) t := fun pins s σ H Q I hw => BoolOp_one (h pins s σ H Q I hw)
theorem pe_and (ha : PE X a ta) (hb : PE X (.BoolOp .And (b :: rest) pos) tb) : PE X (.BoolOp .And (a :: b :: rest) pos) (tAndV ta tb) := by
  intro pins s σ H Q I h
  refine BoolOp_and (thn (ha pins s σ H _ I h) fun v s1 ⟨x, H1, I1, r1, q1⟩ => ?_)
  obtain ⟨c, rfl, q1⟩ := q1
  cases r1
  refine wpAny_truthy_bool ?_
  cases c with
  | true => exact hb pins s1 σ H1 Q I1 q1
  | false => exact ⟨.bl false, H1, I1, rfl, q1⟩
theorem pe_or (ha : PE X a ta) (hb : PE X (.BoolOp .Or (b :: rest) pos) tb) : PE X (.BoolOp .Or (a :: b :: rest) pos) (tOrV ta tb) := by
  intro pins s σ H Q I h
  refine BoolOp_or (thn (ha pins s σ H _ I h) fun v s1 ⟨x, H1, I1, r1, q1⟩ => ?_)
  obtain ⟨c, rfl, q1⟩ := q1
  cases r1
  refine wpAny_truthy_bool ?_
  cases c with
  | false => exact hb pins s1 σ H1 Q I1 q1
  | true => exact ⟨.bl true, H1, I1, rfl, q1⟩
theorem pe_not (ha : PE X a ta) : PE X (.UnaryOp .Not a pos) (tNotV ta) := by
  intro pins s σ H Q I h
  refine UnaryOp_ (thn (ha pins s σ H _ I h) fun v s1 ⟨x, H1, I1, r1, q1⟩ => ?_)
  obtain ⟨c, rfl, q1⟩ := q1
  cases r1
  exact not_of (wpAny_truthy_bool ⟨.bl (!c), H1, I1, rfl, q1⟩)
/-- a if t else b -/
def tIf (t : TT) (ta tb : TE) : TE := fun σ H Q => t σ H fun c H1 => if c = true then ta σ H1 Q else tb σ H1 Q
theorem pe_ifExp {c : Expr} (hc : PT X c tA) (ha : PE X a ta) (hb : PE X b tb) : PE X (.IfExp c a b pos) (tIf tA ta tb) := by
  intro pins s σ H Q I h
  refine wpAny_IfExp (thn (hc pins s σ H _ I h) fun d s1 ⟨H1, I1, q1⟩ => ?_)
  cases d with
  | true => exact ha pins s1 σ H1 Q I1 q1
  | false => exact hb pins s1 σ H1 Q I1 q1
end
end L2

namespace L2
open PySem PySem.Spec PyProof.Rows

/-! ### a list, a tuple that is read: tracked, frozen, or an object of the module -/
def SqL (K : PySem.W.Frag) (H : Hp) (a : Addr) (xs : List V) : Prop :=
  Rd H a (.lst xs) ∨
    ∃ (o : Obj) (its : Array Value) (n : Nat), K.lookup a = some o ∧ o.cls = .type "list" ∧ o.dict = none ∧ o.data = .seq its n ∧ its.size ≤ sizeLine ∧ Vals xs its.toList
def SqT (K : PySem.W.Frag) (H : Hp) (a : Addr) (xs : List V) : Prop :=
  Rd H a (.tup xs) ∨
    ∃ (o : Obj) (its : Array Value) (n : Nat), K.lookup a = some o ∧ o.cls = .type "tuple" ∧ o.data = .seq its n ∧ its.size ≤ sizeLine ∧ Vals xs its.toList
def absV : Value → Option V
  | .none => some .non
  | .bool b => some (.bl b)
  | .int i _ => some (.int i)
  | .str x _ => some (.str x)
  | .bytes b _ => some (.byt b)
  | .float b _ => some (.flt b)
  | .ref a => some (.ref a)
  | .type n => some (.ty n)
  | _ => none
theorem RelV.abs {x : V} {u : Value} (r : RelV x u) : absV u = some x := by
  cases x with
  | non => cases r; rfl
  | bl _ => cases r; rfl
  | int _ => obtain ⟨t, rfl⟩ := r; rfl
  | str _ => obtain ⟨t, rfl⟩ := r; rfl
  | byt _ => obtain ⟨t, rfl⟩ := r; rfl
  | flt _ => obtain ⟨t, rfl⟩ := r; rfl
  | ref _ => cases r; rfl
  | ty _ => cases r; rfl
theorem RelV.inj {x y : V} {u : Value} (r : RelV x u) (q : RelV y u) : x = y := Option.some.inj (r.abs.symm.trans q.abs)
theorem Vals.inj : ∀ {xs ys : List V} {us : List Value}, Vals xs us → Vals ys us → xs = ys
  | _, _, _, .nil, .nil => rfl
  | _, _, _, .cons r t, .cons r' t' => by rw [r.inj r', Vals.inj t t']
section
variable {X : Cx} {pins : List (Addr × Obj)} {σ : St} {H : Hp} {s : Shared} {a : Addr} {xs ys : List V}
theorem SqL.of {K : PySem.W.Frag} (h : H a = some (.lst xs)) : SqL K H a xs := .inl (.inl h)
theorem SqT.of {K : PySem.W.Frag} (h : H a = some (.tup xs)) : SqT K H a xs := .inl (.inl h)
theorem Inv.list (I : Inv X pins σ H s) (h : SqL X.K H a xs) : ∃ its : List Value, Vals xs its ∧ PlainL s.heap a its.toArray ∧ xs.length ≤ sizeLine := by
  rcases h with h | ⟨o, its, n, hk, hc, hd, hs, hz, r⟩
  · obtain ⟨z, its, n, r, e⟩ := h.ok I.hok
    exact ⟨its, r, ⟨_, n, e, rfl, rfl, rfl⟩, z⟩
  · refine ⟨its.toList, r, ⟨o, n, I.kIn a o hk, hc, hd, by simpa using hs⟩, ?_⟩
    have e := r.length
    simp only [Array.length_toList] at e
    omega
theorem Inv.tuple (I : Inv X pins σ H s) (h : SqT X.K H a xs) : ∃ its : List Value, Vals xs its ∧ IsTup s.heap a its.toArray ∧ xs.length ≤ sizeLine := by
  rcases h with h | ⟨o, its, n, hk, hc, hs, hz, r⟩
  · obtain ⟨z, its, r, p⟩ := h.ok I.hok
    exact ⟨its, r, p, z⟩
  · refine ⟨its.toList, r, ⟨o, I.kIn a o hk, hc, n, by simpa using hs⟩, ?_⟩
    have e := r.length
    simp only [Array.length_toList] at e
    omega
theorem Inv.list_inj (I : Inv X pins σ H s) (h : SqL X.K H a xs) (h' : SqL X.K H a ys) : xs = ys := by
  obtain ⟨its, r, ⟨o, n, e, _, _, d⟩, _⟩ := I.list h
  obtain ⟨its', r', ⟨o', n', e', _, _, d'⟩, _⟩ := I.list h'
  rw [e] at e'; cases e'
  rw [d] at d'
  injection d' with d1 _
  have : its = its' := by simpa using congrArg Array.toList d1
  subst this
  exact r.inj r'
theorem Inv.tuple_inj (I : Inv X pins σ H s) (h : SqT X.K H a xs) (h' : SqT X.K H a ys) : xs = ys := by
  obtain ⟨its, r, ⟨o, e, _, n, d⟩, _⟩ := I.tuple h
  obtain ⟨its', r', ⟨o', e', _, n', d'⟩, _⟩ := I.tuple h'
  rw [e] at e'; cases e'
  rw [d] at d'
  injection d' with d1 _
  have : its = its' := by simpa using congrArg Array.toList d1
  subst this
  exact r.inj r'
end

/-! ### another wish about exceptions -/
abbrev Cx.wish (X : Cx) (E : Value → Shared → Prop) : Cx := { X with xe := E }
/-- no exception leaves -/
abbrev Cx.nox (X : Cx) : Cx := X.wish fun _ _ => False
theorem Cx.Ok.wish {X : Cx} (ok : X.Ok) (E : Value → Shared → Prop) : (X.wish E).Ok :=
  ⟨ok.mod, ok.kind, ok.glob, ok.blt, ok.above, ok.inj, ok.has, ok.cab, ok.hd, ok.frames, ok.stk, ok.exf, ok.bs, ok.bsz, ok.noex, ok.exfs, ok.funs, ok.frf⟩
theorem Cx.Ok.unwish {X : Cx} {E : Value → Shared → Prop} (ok : (X.wish E).Ok) : X.Ok :=
  ⟨ok.mod, ok.kind, ok.glob, ok.blt, ok.above, ok.inj, ok.has, ok.cab, ok.hd, ok.frames, ok.stk, ok.exf, ok.bs, ok.bsz, ok.noex, ok.exfs, ok.funs, ok.frf⟩
section
variable {X : Cx} {pins : List (Addr × Obj)} {σ : St} {H : Hp} {s : Shared} {E : Value → Shared → Prop}
theorem Inv.wish (I : Inv X pins σ H s) (E : Value → Shared → Prop) : Inv (X.wish E) pins σ H s := ⟨I.ok.wish E, I.os, I.bare, I.base, I.loc, I.cell, I.free, I.freeC, I.pin, I.hok, I.len⟩
theorem Inv.unwish (I : Inv (X.wish E) pins σ H s) : Inv X pins σ H s := ⟨I.ok.unwish, I.os, I.bare, I.base, I.loc, I.cell, I.free, I.freeC, I.pin, I.hok, I.len⟩
theorem SP.unwish {D : Ends} {f : Flow} {s' : Shared} (h : SP (X.wish E) pins D f s') : SP X pins D f s' := by
  cases f with
  | next => obtain ⟨σ', H', I, q⟩ := h; exact ⟨σ', H', I.unwish, q⟩
  | brk => obtain ⟨σ', H', I, q⟩ := h; exact ⟨σ', H', I.unwish, q⟩
  | cont => obtain ⟨σ', H', I, q⟩ := h; exact ⟨σ', H', I.unwish, q⟩
  | ret u => obtain ⟨v, σ', H', I, r, q⟩ := h; exact ⟨v, σ', H', I.unwish, r, q⟩
theorem PE.nox {e : Expr} {t : TE} (h : PE X.nox e t) : PE X e t := fun pins s σ H Q I hw =>
  wpAny_mono (h pins s σ H Q (I.wish _) hw) (fun _ _ ⟨v, H', I', r, q⟩ => ⟨v, H', I'.unwish, r, q⟩) fun _ _ z => False.elim z
theorem PT.nox {e : Expr} {t : TT} (h : PT X.nox e t) : PT X e t := fun pins s σ H Q I hw =>
  wpAny_mono (h pins s σ H Q (I.wish _) hw) (fun _ _ ⟨H', I', q⟩ => ⟨H', I'.unwish, q⟩) fun _ _ z => False.elim z
theorem PSs.nox {st : List Stmt} {t : TS} (h : PSs X.nox st t) : PSs X st t := fun pins s σ H D I hw =>
  wpAny_mono (h pins s σ H D (I.wish _) hw) (fun _ _ q => q.unwish) fun _ _ z => False.elim z
end

/-! ### blocks and small statements -/
section
variable {X : Cx} {st : Stmt} {rest : List Stmt} {t u : TS} {e : Expr} {te : TE} {pos : Pos}
def tNext : TS := fun D σ H => D.nx σ H
def tSeq (t u : TS) : TS := fun D σ H => t { D with nx := u D } σ H
theorem pss_nil : PSs X [] tNext := fun _ _ σ H _ I h => wpAny_execs_nil ⟨σ, H, I, h⟩
theorem pss_cons (h1 : PS X st t) (h2 : PSs X rest u) : PSs X (st :: rest) (tSeq t u) := by
  intro pins s σ H D I h
  refine wpAny_execs_cons (thn (h1 pins s σ H { D with nx := u D } I h) fun f s1 q => ?_)
  cases f with
  | next =>
    obtain ⟨σ', H', I', q⟩ := q
    exact h2 pins s1 σ' H' D I' q
  | ret v => exact q
  | brk => exact q
  | cont => exact q
theorem pss_one (h1 : PS X st t) : PSs X [st] t := by
  intro pins s σ H D I h
  refine wpAny_execs_cons (thn (h1 pins s σ H D I h) fun f s1 q => ?_)
  cases f with
  | next => exact wpAny_execs_nil q
  | ret v => exact q
  | brk => exact q
  | cont => exact q
def tCont : TS := fun D σ H => D.ct σ H
theorem ps_continue : PS X (.Continue pos) tCont := fun _ _ σ H _ I h => wpAny_Continue ⟨σ, H, I, h⟩
/-- in a def's body nothing is shown -/
theorem Inv.quiet {pins : List (Addr × Obj)} {σ : St} {H : Hp} {s : Shared} (I : Inv X pins σ H s) : interactive X.env = false := by simp [interactive, I.ok.kind]
/-- an expression whose value is dropped -/
def tDrop (te : TE) : TS := fun D σ H => te σ H fun _ H1 => D.nx σ H1
theorem ps_expr (he : PE X e te) (hs : swapsWith e none pos.line X.env = pure false := by rfl) : PS X (.Expr e pos) (tDrop te) := by
  intro pins s σ H D I h
  exact wpAny_Expr_any (thn (he pins s σ H _ I h) fun v s1 ⟨x, H1, I1, r1, q1⟩ => ⟨σ, H1, I1, q1⟩) I.quiet hs
def tRet (te : TE) : TS := fun D σ H => te σ H D.rt
theorem ps_ret (he : PE X e te) : PS X (.Return (some e) pos) (tRet te) := by
  intro pins s σ H D I h
  exact wpAny_Return_some (thn (he pins s σ H _ I h) fun v s1 ⟨x, H1, I1, r1, q1⟩ => ⟨x, σ, H1, I1, r1, q1⟩)
def tIfS (c : TT) (t u : TS) : TS := fun D σ H => c σ H fun b H1 => if b = true then t D σ H1 else u D σ H1
theorem ps_if {c : Expr} {a b : List Stmt} {tc : TT} (hc : PT X c tc) (ha : PSs X a t) (hb : PSs X b u) : PS X (.If c a b pos) (tIfS tc t u) := by
  intro pins s σ H D I h
  refine wpAny_If (thn (hc pins s σ H _ I h) fun d s1 ⟨H1, I1, q1⟩ => ?_)
  cases d with
  | true => exact ha pins s1 σ H1 D I1 q1
  | false => exact hb pins s1 σ H1 D I1 q1
/-- code that the proof never comes to -/
def tNever : TS := fun _ _ _ => False
theorem ps_never : PS X st tNever := fun _ _ _ _ _ _ h => h.elim
end

/-! ### targets -/
abbrev TG := V → St → Hp → (St → Hp → Prop) → Prop
abbrev TGs := List V → St → Hp → (St → Hp → Prop) → Prop
def PG (X : Cx) (target : Expr) (t : TG) : Prop :=
  ∀ (pins : List (Addr × Obj)) (s : Shared) (σ : St) (H : Hp) (v : V) (u : Value) (Q : St → Hp → Prop), Inv X pins σ H s → RelV v u → t v σ H Q →
    wpAny (model X.prog X.w) X.A (assign target X.env u) (fun _ s' => ∃ σ' H', Inv X pins σ' H' s' ∧ Q σ' H') X.xe s
/-- several targets, one after another -/
def PGs (X : Cx) (ts : List Expr) (t : TGs) : Prop :=
  ∀ (pins : List (Addr × Obj)) (s : Shared) (σ : St) (H : Hp) (vs : List V) (us : List Value) (Q : St → Hp → Prop), Inv X pins σ H s → Vals vs us → t vs σ H Q →
    wpAny (model X.prog X.w) X.A (assignInOrder ((assignEach ts X.env).map (·.2)) us) (fun _ s' => ∃ σ' H', Inv X pins σ' H' s' ∧ Q σ' H') X.xe s
section
variable {X : Cx} {pos : Pos}
def gName (i : Nat) : TG := fun v σ H Q => Q (σ.set i (some v)) H
theorem pg_name {i : Nat} {x : Str} (hN : X.N.Nodup) (hi : X.N[i]? = some x) (hx : Loc X.env.scope x) (hf : X.fn x = true ∨ X.env.scope.names.lookup x = some .local := by first | exact .inl rfl | exact .inr rfl | assumption) : PG X (.Name x pos) (gName i) := by
  intro pins s σ H v u Q I r h
  exact wpAny_assign_Name (store_ok I hN hi hx r (fun s' I' => ⟨_, H, I', h⟩) hf)
def gNil : TGs := fun vs σ H Q => vs = [] ∧ Q σ H
def gCons (t : TG) (u : TGs) : TGs := fun vs σ H Q => ∃ v r, vs = v :: r ∧ t v σ H fun σ' H' => u r σ' H' Q
theorem pgs_nil : PGs X [] gNil := by
  intro pins s σ H vs us Q I r h
  obtain ⟨e, h⟩ := h
  subst e
  cases r
  exact assignInOrder_nil ⟨σ, H, I, h⟩
theorem pgs_cons {e : Expr} {es : List Expr} {t : TG} {u : TGs} (h1 : PG X e t) (h2 : PGs X es u)
    (hs : (assignEach (e :: es) X.env).map (·.2) = assign e X.env :: (assignEach es X.env).map (·.2) := by rfl) : PGs X (e :: es) (gCons t u) := by
  intro pins s σ H vs us Q I r h
  obtain ⟨v, vr, e1, h⟩ := h
  subst e1
  cases r with
  | cons r rr =>
    rw [hs]
    refine assignInOrder_cons (thn (h1 pins s σ H _ _ _ I r h) fun _ s1 ⟨σ1, H1, I1, q1⟩ => ?_)
    exact h2 pins s1 σ1 H1 _ _ Q I1 rr q1
/-- (a, b, ..) = a tuple of that length -/
def gTup (K : PySem.W.Frag) (n : Nat) (t : TGs) : TG := fun v σ H Q => ∃ a xs, v = .ref a ∧ SqT K H a xs ∧ xs.length = n ∧ t xs σ H Q
theorem pg_tup {es : List Expr} {k : Nat} {t : TGs} {n : Nat} (hc : X.calm = true) (h : PGs X es t)
    (hn : (assignEach es X.env).length = n := by rfl) (hst : (assignEach es X.env).findIdx? (·.1) = none := by rfl) : PG X (.Tuple es k pos) (gTup X.K n t) := by
  intro pins s σ H v u Q I r hw
  obtain ⟨a, xs, e1, hq, hl, hw⟩ := hw
  subst e1
  cases r
  obtain ⟨its, rv, ht, hz⟩ := I.tuple hq
  refine assign_Tuple_tuple (I.ok.hd hc) ht (by simp [hn, ← hl, rv.length]) hst fun h' hx => ?_
  have I1 : Inv X pins σ H { s with heap := h' } := I.kept (t' := s.toks) fun b o e => hx b o (Nat.ne_of_lt (Heap.lt_size e)) e
  exact h pins _ σ H xs _ Q I1 (by simpa using rv) hw
/-- target = value -/
def tAsg (te : TE) (g : TG) : TS := fun D σ H => te σ H fun x H1 => g x σ H1 D.nx
theorem ps_asg {tg e : Expr} {te : TE} {g : TG} (he : PE X e te) (hg : PG X tg g) (hs : swapsWithSole [tg] e pos.line X.env = pure false := by rfl) (hw : swappedStores [tg] e X.env = pure none := by rfl)
    (h1 : (assignEach [tg] X.env).map (·.2) = [assign tg X.env] := by rfl) : PS X (.Assign [tg] e pos) (tAsg te g) := by
  intro pins s σ H D I h
  refine wpAny_Assign_stores (thn (he pins s σ H _ I h) fun v s1 ⟨x, H1, I1, r1, q1⟩ => ?_) hs hw
  rw [h1]
  exact thn (hg pins s1 σ H1 x v _ I1 r1 q1) fun _ s2 q => q
/-- name = value -/
theorem ps_set {i : Nat} {x : Str} {e : Expr} {te : TE} {pos' : Pos} (hN : X.N.Nodup) (hi : X.N[i]? = some x) (hx : Loc X.env.scope x) (he : PE X e te) (hs : swapsWith e (some (.Name x pos')) pos.line X.env = pure false := by rfl) (hf : X.fn x = true ∨ X.env.scope.names.lookup x = some .local := by first | exact .inl rfl | exact .inr rfl | assumption) :
    PS X (.Assign [.Name x pos'] e pos) (tAsg te (gName i)) := by
  intro pins s σ H D I h
  refine wpAny_Assign_Name (thn (he pins s σ H _ I h) fun v s1 ⟨y, H1, I1, r1, q1⟩ => ?_) hs
  exact store_ok I1 hN hi hx r1 (fun s2 I2 => ⟨_, H1, I2, q1⟩) hf
/-- a, b = x, y with plain local names: stored from the right; the pair itself is not tracked (the opening rows as in PyProof/Rows/TupAssign.lean:23) -/
def tPar (i j : Nat) (ta : TA) : TS := fun D σ H => ta σ H fun vs H1 => ∃ v w, vs = [v, w] ∧ D.nx ((σ.set i (some v)).set j (some w)) H1
theorem ps_par {i j : Nat} {x y : Str} {a b : Expr} {ta : TA} {px py pt : Pos} {kt k2 pt2} (hc : X.calm = true) (hN : X.N.Nodup) (hi : X.N[i]? = some x) (hj : X.N[j]? = some y) (hij : i ≠ j)
    (hx : X.env.scope.names.lookup x = some .local) (hy : X.env.scope.names.lookup y = some .local) (ha : PA X [a, b] ta)
    (hw : swappedStores [.Tuple [.Name x px, .Name y py] kt pt] (.Tuple [a, b] k2 pt2) X.env = pure (some [x, y]))
    (hs : swapsWithSole [.Tuple [.Name x px, .Name y py] kt pt] (.Tuple [a, b] k2 pt2) pos.line X.env = pure false := by rfl) :
    PS X (.Assign [.Tuple [.Name x px, .Name y py] kt pt] (.Tuple [a, b] k2 pt2) pos) (tPar i j ta) := by
  intro pins s σ H D I h
  rw [exec_Assign_arm]
  refine wpAny_bind (wpAny_standAt ?_)
  rw [hs]
  refine wpAny_bind (wpAny_pure ?_)
  rw [if_neg (by decide)]
  refine wpAny_bind (Tuple_ (thn (ha _ pins s σ H _ I h) fun us s1 ⟨vs, H1, I1, r1, q1⟩ => ?_))
  obtain ⟨v, w, e1, q1⟩ := q1
  subst e1
  obtain ⟨u1, u2, rfl, rv, rw'⟩ : ∃ u1 u2, us = [u1, u2] ∧ RelV v u1 ∧ RelV w u2 := by
    cases r1 with
    | cons p q =>
      cases q with
      | cons p' q' =>
        cases q'
        exact ⟨_, _, rfl, p, p'⟩
  refine wpAny_newObj_type ?_ (by show 2 ≤ sizeLine; decide)
  have I2 : Inv X pins σ H1 { s1 with heap := s1.heap.push { cls := .type "tuple", data := .seq [u1, u2].toArray } } := I1.kept (t' := s1.toks) fun b o e => Heap.get?_push_of_some _ e
  rw [hw]
  refine wpAny_bind (wpAny_pure ?_)
  show wpAny (model X.prog X.w) X.A (do rule "assign.swapped-stores"; let items ← unpackItems (.ref s1.heap.objs.size) 2 none; assignInOrder [fun v => bindName X.env y v, fun v => bindName X.env x v] items.reverse; pure Flow.next) _ _ _
  refine wpAny_bind (wpAny_rule (wpAny_bind (unpackItems_tuple (items := #[u1, u2]) (I.ok.hd hc) (IsTup.new s1.heap _) fun h' hx' => ?_)))
  have I3 := I2.kept (h' := h') (t' := s1.toks) fun b o e => hx' b o (Nat.ne_of_lt (Heap.lt_size e)) e
  show wpAny _ _ (assignInOrder [fun v => bindName X.env y v, fun v => bindName X.env x v] [u2, u1] >>= fun _ => pure Flow.next) _ _ _
  refine wpAny_bind (assignInOrder_cons (wpAny_bindName (store_ok I3 hN hj (.inl hy) rw' (fun s2 I4 => ?_) (.inr hy))))
  refine assignInOrder_cons (wpAny_bindName (store_ok I4 hN hi (.inl hx) rv (fun s3 I5 => assignInOrder_nil (wpAny_pure ?_)) (.inr hx)))
  rw [List.set_comm _ _ (Ne.symm hij)] at I5
  exact ⟨_, H1, I5, q1⟩
end

/-! ### while -/
section
variable {X : Cx} {pos : Pos}
end

/-! ### what a loop or a comprehension walks -/
/-- at turn i: it yields x (the heap may grow), or it stops -/
structure It where
  go : Nat → Hp → Prop
  yld : Nat → Hp → V → Hp → Prop
  stop : Nat → Hp → Prop
/-- the iterator's own objects may turn: they are not the frame's, not pinned, younger than the entry (or a comprehension's own) -/
def FpOk (X : Cx) (pins : List (Addr × Obj)) (H : Hp) (b : Addr) : Prop :=
  H b = none ∧ b ≠ X.env.locals ∧ b ∉ X.fs ∧ (b ∈ X.ex ∨ X.s_0.heap.objs.size ≤ b) ∧ (∀ x c, X.env.cells.lookup x = some c → c ≠ b) ∧ ∀ p ∈ X.pn ++ pins, p.1 ≠ b
theorem Inv.fpOk {X : Cx} {pins : List (Addr × Obj)} {σ : St} {H H' : Hp} {s : Shared} {b : Addr} (I : Inv X pins σ H s) (hb : s.heap.objs.size ≤ b) (hn : H' b = none) : FpOk X pins H' b := by
  refine ⟨hn, Nat.ne_of_gt (Nat.lt_of_lt_of_le I.lt hb), I.nofs hb, .inr (Nat.le_trans I.sz hb), fun x c e z => ?_, fun p hp z => ?_⟩
  · obtain ⟨v, q⟩ := I.cell x c e
    exact absurd (Nat.lt_of_lt_of_le q.lt (by rw [z]; exact hb)) (Nat.lt_irrefl _)
  · exact absurd (Nat.lt_of_lt_of_le (Heap.lt_size (I.pin p hp).1) (by rw [z]; exact hb)) (Nat.lt_irrefl _)
structure Turn (P : Program) (w : World) (K : PySem.W.Frag) (tg : Expr) (J : It) (fp : List Addr) (it : Addr) (tn : Nat → Heap → Prop) : Prop where
  mem : it ∈ fp
  obj : ∀ i h, tn i h → ∀ b ∈ fp, ∃ o, h.get? b = some o ∧ ∀ v, o.data ≠ .cell v
  keep : ∀ i h h', tn i h → (∀ b ∈ fp, ∀ o, h.get? b = some o → h'.get? b = some o) → tn i h'
  item : ∀ (X : Cx), X.prog = P → X.w = w → X.K = K → X.calm = true → ∀ (i : Nat) (pins : List (Addr × Obj)) (s : Shared) (σ : St) (H : Hp) (E : Value → Shared → Prop), Inv X pins σ H s → (∀ b ∈ fp, FpOk X pins H b) → tn i s.heap → J.go i H →
    wpAny (model P w) X.A (pyNext (.ref it)) (fun r s1 => ∃ u, r = some u ∧
      wpAny (model P w) X.A (letOwnedTupleGo tg (.ref it) u) (fun _ s2 => ∃ x H', Inv X pins σ H' s2 ∧ RelV x u ∧ J.yld i H x H' ∧ tn (i + 1) s2.heap ∧ ∀ b ∈ fp, H' b = none) E s1) E s
  done : ∀ (X : Cx), X.prog = P → X.w = w → X.K = K → X.calm = true → ∀ (i : Nat) (pins : List (Addr × Obj)) (s : Shared) (σ : St) (H : Hp) (E : Value → Shared → Prop), Inv X pins σ H s → (∀ b ∈ fp, FpOk X pins H b) → tn i s.heap → J.stop i H →
    wpAny (model P w) X.A (pyNext (.ref it)) (fun r s1 => r = none ∧ Inv X pins σ H s1) E s
  self : ∀ (A : Around) (i : Nat) (s : Shared) (Q : Value → Shared → Prop) (E : Value → Shared → Prop), tn i s.heap → Q (.ref it) s → wpAny (model P w) A (pyIter (.ref it)) Q E s
abbrev TI := St → Hp → (It → Hp → Prop) → Prop
/-- an iterator has come -/
def PIE (X : Cx) (pins : List (Addr × Obj)) (σ : St) (tg : Expr) (R : It → Hp → Prop) (itv : Value) (s2 : Shared) : Prop :=
  ∃ (it : Addr) (fp : List Addr) (tn : Nat → Heap → Prop) (J : It) (H' : Hp), itv = .ref it ∧ Inv X pins σ H' s2 ∧ Turn X.prog X.w X.K tg J fp it tn ∧ tn 0 s2.heap ∧ (∀ b ∈ fp, FpOk X pins H' b) ∧ R J H'
def PI (X : Cx) (tg iter : Expr) (wi : TI) : Prop :=
  ∀ (pins : List (Addr × Obj)) (s : Shared) (σ : St) (H : Hp) (R : It → Hp → Prop), Inv X pins σ H s → wi σ H R →
    wpAny (model X.prog X.w) X.A (eval iter X.env) (fun v s1 => wpAny (model X.prog X.w) X.A (pyIter v) (PIE X pins σ tg R) X.xe s1) X.xe s

/-- the step ahead of the store is nothing for an iterator that keeps no tuple -/
theorem go_of {M : Model} {A : Around} {E : Value → Shared → Prop} {s : Shared} {tg : Expr} {it : Addr} {u : Value} {o : Obj} {n : String} {vs : Array Value} {Q : Unit → Shared → Prop} (ho : s.heap.get? it = some o) (hc : o.cls = .type n) (hd : o.data = .fields vs)
    (hn : ["enumerate", "zip", "dict_itemiterator", "dict_reverseitemiterator", "odict_iterator", "itertools.zip_longest", "itertools.pairwise"].contains n = false) (hQ : Q () s) : wpAny M A (letOwnedTupleGo tg (.ref it) u) Q E s := by
  unfold letOwnedTupleGo
  cases tg <;> first
    | exact wpAny_pure hQ
    | (cases u <;> first
        | exact wpAny_pure hQ
        | (refine wpAny_bind (wpAny_load ho ?_)
           rw [hc, hd]
           show wpAny M A (if (["enumerate", "zip", "dict_itemiterator", "dict_reverseitemiterator", "odict_iterator", "itertools.zip_longest", "itertools.pairwise"].contains n && vs[0]? == some (rawInt _)) = true then _ else _) Q E s
           rw [if_neg (by intro h; rw [hn, Bool.false_and] at h; cases h)]
           exact wpAny_pure hQ))

/-- the list at a, as it stands at each turn (a loop may append to it) -/
def Itl (K : PySem.W.Frag) (a : Addr) : It :=
  ⟨fun i H => ∃ xs x, SqL K H a xs ∧ xs[i]? = some x, fun i H x H' => H' = H ∧ ∀ xs, SqL K H a xs → xs[i]? = some x, fun i H => ∃ xs, SqL K H a xs ∧ xs.length ≤ i⟩
def Itt (K : PySem.W.Frag) (a : Addr) : It :=
  ⟨fun i H => ∃ xs x, SqT K H a xs ∧ xs[i]? = some x, fun i H x H' => H' = H ∧ ∀ xs, SqT K H a xs → xs[i]? = some x, fun i H => ∃ xs, SqT K H a xs ∧ xs.length ≤ i⟩
/-- lo, lo + 1, .. (n of them) -/
def Itr (lo : Int) (n : Nat) : It := ⟨fun i _ => i < n, fun i H x H' => H' = H ∧ x = .int (lo + i), fun i _ => n ≤ i⟩
theorem turn_list {P : Program} {w : World} {K : PySem.W.Frag} {tg : Expr} (a it : Addr) : Turn P w K tg (Itl K a) [it] it (fun i h => h.IsListIter it a i) where
  mem := by simp
  obj := fun i h st b hb => by
    have e : b = it := by simpa using hb
    subst e
    obtain ⟨o, e, c, d⟩ := st
    exact ⟨o, e, fun v z => by rw [d] at z; cases z⟩
  keep := fun i h h' st k => st.at fun o e => k it (by simp) o e
  item := by
    intro X hP hw hK hc i pins s σ H E I hf st hg
    subst hP hw hK
    obtain ⟨xs, x, hq, hx⟩ := hg
    obtain ⟨its, rv, p, hz⟩ := I.list hq
    obtain ⟨u, hu, ru⟩ := rv.get hx
    obtain ⟨f0, f1, f2, f3, f4, f5⟩ := hf it (by simp)
    refine wpAny_pyNext_list_item st p.isList (x := u) (by simpa using hu) fun h' st' sb => ?_
    have I1 : Inv X pins σ H { s with heap := h' } := I.turned (t' := s.toks) (fun b o hb e => (sb.2 b hb).trans e) f0 f1 f3 f4 f5
    obtain ⟨o, e, c, d⟩ := id st'
    exact ⟨u, rfl, go_of (s := { s with heap := h' }) e c d (by decide) ⟨x, H, I1, ru, ⟨rfl, fun ys hy => by rw [I.list_inj hy hq]; exact hx⟩, st', fun b hb => (hf b hb).1⟩⟩
  done := by
    intro X hP hw hK hc i pins s σ H E I hf st hg
    subst hP hw hK
    obtain ⟨xs, hq, hx⟩ := hg
    obtain ⟨its, rv, p, hz⟩ := I.list hq
    obtain ⟨f0, f1, f2, f3, f4, f5⟩ := hf it (by simp)
    have hl := rv.length
    exact wpAny_pyNext_list_end (I.ok.hd hc) st p.isList (by simp; omega) fun h' eb => ⟨rfl, I.turned (t' := s.toks) (fun b o hb e => eb b o hb e) f0 f1 f3 f4 f5⟩
  self := fun _ _ _ _ _ st h => wpAny_pyIter_listiter st h
theorem turn_tuple {P : Program} {w : World} {K : PySem.W.Frag} {tg : Expr} (a it : Addr) : Turn P w K tg (Itt K a) [it] it (fun i h => h.IsTupleIter it a i) where
  mem := by simp
  obj := fun i h st b hb => by
    have e : b = it := by simpa using hb
    subst e
    obtain ⟨o, e, c, d⟩ := st
    exact ⟨o, e, fun v z => by rw [d] at z; cases z⟩
  keep := fun i h h' st k => st.at fun o e => k it (by simp) o e
  item := by
    intro X hP hw hK hc i pins s σ H E I hf st hg
    subst hP hw hK
    obtain ⟨xs, x, hq, hx⟩ := hg
    obtain ⟨its, rv, p, hz⟩ := I.tuple hq
    obtain ⟨u, hu, ru⟩ := rv.get hx
    obtain ⟨f0, f1, f2, f3, f4, f5⟩ := hf it (by simp)
    refine wpAny_pyNext_tuple_item st (show s.heap.IsTuple a its.toArray from p) (x := u) (by simpa using hu) fun h' st' sb => ?_
    have I1 : Inv X pins σ H { s with heap := h' } := I.turned (t' := s.toks) (fun b o hb e => (sb.2 b hb).trans e) f0 f1 f3 f4 f5
    obtain ⟨o, e, c, d⟩ := id st'
    exact ⟨u, rfl, go_of (s := { s with heap := h' }) e c d (by decide) ⟨x, H, I1, ru, ⟨rfl, fun ys hy => by rw [I.tuple_inj hy hq]; exact hx⟩, st', fun b hb => (hf b hb).1⟩⟩
  done := by
    intro X hP hw hK hc i pins s σ H E I hf st hg
    subst hP hw hK
    obtain ⟨xs, hq, hx⟩ := hg
    obtain ⟨its, rv, p, hz⟩ := I.tuple hq
    obtain ⟨f0, f1, f2, f3, f4, f5⟩ := hf it (by simp)
    have hl := rv.length
    exact wpAny_pyNext_tuple_end (I.ok.hd hc) st (show s.heap.IsTuple a its.toArray from p) (by simp; omega) fun h' eb => ⟨rfl, I.turned (t' := s.toks) (fun b o hb e => eb b o hb e) f0 f1 f3 f4 f5⟩
  self := fun _ _ _ _ _ st h => wpAny_pyIter_tupleiter st h
theorem turn_range {P : Program} {w : World} {K : PySem.W.Frag} {tg : Expr} (it : Addr) (lo : Int) (n : Nat) : Turn P w K tg (Itr lo n) [it] it (fun i h => IsRangeIter h it (lo + (i : Nat) * 1) ((n : Int) - (i : Nat)) 1) where
  mem := by simp
  obj := fun i h st b hb => by
    have e : b = it := by simpa using hb
    subst e
    exact ⟨_, st, fun v z => by
      have z' : Data.fields _ = Data.cell v := z
      cases z'⟩
  keep := fun i h h' st k => k it (by simp) _ st
  item := by
    intro X hP hw hK hc i pins s σ H E I hf st hg
    subst hP hw hK
    obtain ⟨f0, f1, f2, f3, f4, f5⟩ := hf it (by simp)
    have W := Walks.range (prog := X.prog) (w := X.w) (I.ok.hd hc) it lo 1 n
    refine W.item i s _ _ hg st fun v h' tk hv st' kk => ?_
    obtain ⟨t, rfl⟩ := hv
    have I1 : Inv X pins σ H { s with heap := h', toks := tk } := I.turned (fun b o hb e => kk b o (by simpa using hb) e) f0 f1 f3 f4 f5
    refine ⟨_, rfl, go_of (s := { s with heap := h', toks := tk }) (n := "range_iterator") st' rfl rfl (by decide) ⟨.int (lo + i), H, I1, ⟨t, ?_⟩, ⟨rfl, rfl⟩, st', fun b hb => (hf b hb).1⟩⟩
    rw [Int.mul_one]
  done := by
    intro X hP hw hK hc i pins s σ H E I hf st hg
    subst hP hw hK
    obtain ⟨f0, f1, f2, f3, f4, f5⟩ := hf it (by simp)
    exact wpAny_pyNext_range_end (I.ok.hd hc) st (by have : n ≤ i := hg; omega) fun h' eb => ⟨rfl, I.turned (t' := s.toks) (fun b o hb e => eb b o hb e) f0 f1 f3 f4 f5⟩
  self := fun _ _ _ _ _ st h => wpAny_pyIter_rangeiter st h
end L2

namespace L2
open PySem PySem.Spec PyProof.Rows
section
variable {X : Cx} {tg : Expr}
def iList (K : PySem.W.Frag) (tl : TE) : TI := fun σ H R => tl σ H fun x H1 => ∃ a, x = .ref a ∧ (∃ xs, SqL K H1 a xs) ∧ R (Itl K a) H1
def iTup (K : PySem.W.Frag) (tl : TE) : TI := fun σ H R => tl σ H fun x H1 => ∃ a, x = .ref a ∧ (∃ xs, SqT K H1 a xs) ∧ R (Itt K a) H1
theorem pi_list {l : Expr} {tl : TE} (hl : PE X l tl) : PI X tg l (iList X.K tl) := by
  intro pins s σ H R I h
  refine thn (hl pins s σ H _ I h) fun v s1 ⟨x, H1, I1, r1, q1⟩ => ?_
  obtain ⟨a, e, ⟨xs, hq⟩, q⟩ := q1
  subst e
  cases r1
  obtain ⟨its, rv, p, hz⟩ := I1.list hq
  refine wpAny_pyIter_list p.isList ?_
  refine ⟨s1.heap.objs.size, [s1.heap.objs.size], _, _, H1, rfl, I1.kept (t' := s1.toks) fun b o e => Heap.get?_push_of_some _ e, turn_list a _, ⟨_, Heap.get?_push_size _ rfl, rfl, rfl⟩, fun b hb => ?_, q⟩
  have e : b = s1.heap.objs.size := by simpa using hb
  subst e
  exact I1.fpOk (Nat.le_refl _) (I1.hok.fresh (Nat.le_refl _))
theorem pi_tup {l : Expr} {tl : TE} (hl : PE X l tl) : PI X tg l (iTup X.K tl) := by
  intro pins s σ H R I h
  refine thn (hl pins s σ H _ I h) fun v s1 ⟨x, H1, I1, r1, q1⟩ => ?_
  obtain ⟨a, e, ⟨xs, hq⟩, q⟩ := q1
  subst e
  cases r1
  obtain ⟨its, rv, p, hz⟩ := I1.tuple hq
  refine wpAny_pyIter_tuple (show s1.heap.IsTuple a its.toArray from p) ?_
  refine ⟨s1.heap.objs.size, [s1.heap.objs.size], _, _, H1, rfl, I1.kept (t' := s1.toks) fun b o e => Heap.get?_push_of_some _ e, turn_tuple a _, ⟨_, Heap.get?_push_size _ rfl, rfl, rfl⟩, fun b hb => ?_, q⟩
  have e : b = s1.heap.objs.size := by simpa using hb
  subst e
  exact I1.fpOk (Nat.le_refl _) (I1.hok.fresh (Nat.le_refl _))
/-- a range object just made, walked -/
theorem range_it {pins : List (Addr × Obj)} {σ : St} {H : Hp} {s : Shared} {R : It → Hp → Prop} {E : Value → Shared → Prop} {lo hi : Int} {t u v : Tok} {tk : Nat} (I : Inv X pins σ H s) (h1 : -(2 ^ 62) ≤ lo) (h2 : lo < 2 ^ 62) (h3 : -(2 ^ 62) ≤ hi) (h4 : hi < 2 ^ 62)
    (q : R (Itr lo (hi - lo).toNat) H) : wpAny (model X.prog X.w) X.A (pyIter (.ref s.heap.objs.size)) (PIE X pins σ tg R) E { s with heap := s.heap.push { cls := .type "range", data := .fields #[.int lo t, .int hi u, .int 1 v] }, toks := tk } := by
  refine wpAny_pyIter_range (IsRange.new ..) (small_one h1 h2 h3 h4) ?_
  have I1 : Inv X pins σ H { s with heap := s.heap.push { cls := .type "range", data := .fields #[.int lo t, .int hi u, .int 1 v] }, toks := tk } := I.kept fun b o e => Heap.get?_push_of_some _ e
  refine ⟨(s.heap.push { cls := .type "range", data := .fields #[.int lo t, .int hi u, .int 1 v] }).objs.size, [(s.heap.push { cls := .type "range", data := .fields #[.int lo t, .int hi u, .int 1 v] }).objs.size], _, _, H, rfl,
    I1.kept (t' := tk) fun b o e => Heap.get?_push_of_some _ e, turn_range _ lo (hi - lo).toNat, ?_, fun b hb => ?_, q⟩
  · have e1 : lo + ((0 : Nat) : Int) * 1 = lo := by simp
    have e2 : (((hi - lo).toNat : Nat) : Int) - ((0 : Nat) : Int) = Builtin.Range.rangeSize lo hi 1 := by rw [rangeSize_one]; split <;> omega
    show IsRangeIter _ _ (lo + ((0 : Nat) : Int) * 1) ((((hi - lo).toNat : Nat) : Int) - ((0 : Nat) : Int)) 1
    rw [e1, e2]
    exact Heap.get?_push_size _ rfl
  · have e : b = (s.heap.push { cls := .type "range", data := .fields #[.int lo t, .int hi u, .int 1 v] }).objs.size := by simpa using hb
    subst e
    exact I1.fpOk (Nat.le_refl _) (I1.hok.fresh (Nat.le_refl _))
def iRng1 (ta : TA) : TI := fun σ H R => ta σ H fun vs H1 => ∃ j : Int, vs = [.int j] ∧ -(2 ^ 62) ≤ j ∧ j < 2 ^ 62 ∧ R (Itr 0 j.toNat) H1
theorem pi_range1 {a : Expr} {ta : TA} {p pos : Pos} (hg : Gl X "range") (hm : X.mg "range" = none) (ha : PA X [a] ta) (hs : starEach [a] X.env = [(false, eval a X.env)] := by rfl) : PI X tg (.Call (.Name "range" p) [a] [] pos) (iRng1 ta) := by
  intro pins s σ H R I h
  refine Call_ (ld_blt I hg hm boot_range (PyProof.Rows.callWith_type1 (thn (ha pos pins s σ H _ I h) fun us s1 ⟨vs, H1, I1, r1, q1⟩ => ?_) hs rfl))
  obtain ⟨j, e, q1, q2, q⟩ := q1
  subst e
  cases r1 with
  | cons r rr =>
    cases rr
    obtain ⟨t, rfl⟩ := r
    exact call_range_1 (range_it I1 (by omega) (by omega) q1 q2 (by simpa using q))
/-! ### for -/
/-- W: the invariant by the turn and a measure; N: what the body is to reach -/
def tFor (wi : TI) (g : TG) (tb : TS) : TS := fun D σ H => wi σ H fun J H1 => ∃ W : Nat → Nat → St → Hp → Prop, (∃ m, W 0 m σ H1) ∧ ∀ i m σ H, W i m σ H →
  (J.stop i H ∧ D.nx σ H) ∨ (J.go i H ∧ ∃ N : St → Hp → Prop, (∀ σ' H', N σ' H' → ∃ m', m' < m ∧ W (i + 1) m' σ' H') ∧ ∀ x H', J.yld i H x H' → g x σ H' fun σ2 H2 => tb { D with nx := N, ct := N, bk := D.nx } σ2 H2)
/-- the records at fp as they stand -/
def pinsAt (fp : List Addr) (h : Heap) : List (Addr × Obj) := fp.filterMap fun b => (h.get? b).map fun o => (b, o)
theorem mem_pinsAt {fp : List Addr} {h : Heap} {b : Addr} {o : Obj} (hb : b ∈ fp) (e : h.get? b = some o) : (b, o) ∈ pinsAt fp h := List.mem_filterMap.mpr ⟨b, hb, by rw [e]; rfl⟩
theorem of_pinsAt {fp : List Addr} {h : Heap} {p : Addr × Obj} (hp : p ∈ pinsAt fp h) : p.1 ∈ fp ∧ h.get? p.1 = some p.2 := by
  obtain ⟨b, hb, e⟩ := List.mem_filterMap.mp hp
  cases q : h.get? b with
  | none => rw [q] at e; cases e
  | some o =>
    rw [q] at e
    have e' : (b, o) = p := Option.some.inj e
    subst e'
    exact ⟨hb, q⟩
theorem Inv.pinned {pins : List (Addr × Obj)} {σ : St} {H : Hp} {s : Shared} {fp : List Addr} (I : Inv X pins σ H s) (hf : ∀ b ∈ fp, FpOk X pins H b) (ho : ∀ b ∈ fp, ∃ o, s.heap.get? b = some o ∧ ∀ v, o.data ≠ .cell v) : Inv X (pins ++ pinsAt fp s.heap) σ H s :=
  I.pins_of fun p hp => (List.mem_append.mp hp).elim (fun z => I.pin p (List.mem_append_right _ z)) fun z => by
    obtain ⟨hb, e⟩ := of_pinsAt z
    obtain ⟨f0, f1, f2, _⟩ := hf p.1 hb
    obtain ⟨o, e', d⟩ := ho p.1 hb
    rw [e] at e'; cases e'
    exact ⟨e, f0, f1, f2, d⟩
theorem Inv.unpinned {pins pl : List (Addr × Obj)} {σ : St} {H : Hp} {s : Shared} (I : Inv X (pins ++ pl) σ H s) : Inv X pins σ H s := I.pins_of fun p hp => I.pin p (List.mem_append_right _ (List.mem_append_left _ hp))
theorem ps_for {iter : Expr} {body : List Stmt} {wi : TI} {g : TG} {tb : TS} {pos : Pos} (hp : PassesOwn (model X.prog X.w) X.A X.env X.xe) (hc : X.calm = true) (hi : PI X tg iter wi) (hg : PG X tg g) (hb : PSs X body tb)
    (hs : ∀ x, foldedSetIterable iter X.env x = pure x := by intro _; rfl) : PS X (.For tg iter body [] pos) (tFor wi g tb) := by
  intro pins s σ H D I h
  refine wpAny_For (thn (hi pins s σ H _ I h) fun v s1 h1 => thn h1 fun itv s2 h2 => ?_) hs
  obtain ⟨it, fp, tn, J, H2, e, I2, T, st2, f2, W, ⟨m0, w0⟩, turn⟩ := h2
  subst e
  -- what stays true of the iterator's objects through the loop
  have stat : ∀ {H' : Hp}, (∀ b ∈ fp, H' b = none) → ∀ b ∈ fp, FpOk X pins H' b := fun hn b hb => ⟨hn b hb, (f2 b hb).2⟩
  refine codeAny_forLoop_any (fun n s' => ∃ i σ' H', Inv X pins σ' H' s' ∧ tn i s'.heap ∧ (∀ b ∈ fp, H' b = none) ∧ W i n σ' H') ?_ m0 ⟨0, σ, H2, I2, st2, fun b hb => (f2 b hb).1, w0⟩
  rintro n s3 ⟨i, σ3, H3, I3, st3, fr3, w3⟩
  rcases turn i n σ3 H3 w3 with ⟨stop, qn⟩ | ⟨go, N, hN, step⟩
  · refine wpAny_passesOwn hp (thn (T.done X rfl rfl rfl hc i pins s3 σ3 H3 X.xe I3 (stat fr3) st3 stop) fun r s4 ⟨hr, I4⟩ => ?_)
    subst hr
    exact wpAny_execs_nil ⟨σ3, H3, I4, qn⟩
  · refine wpAny_passesOwn hp (thn (T.item X rfl rfl rfl hc i pins s3 σ3 H3 X.xe I3 (stat fr3) st3 go) fun r s4 ⟨u, hr, h4⟩ => ?_)
    subst hr
    refine wpAny_passesOwn hp (thn h4 fun _ s5 ⟨x, H5, I5, r5, y5, st5, fr5⟩ => ?_)
    have I5' := I5.pinned (stat fr5) (T.obj _ _ st5)
    refine wpAny_passesOwn hp (thn (hg _ s5 σ3 H5 x u _ I5' r5 (step x H5 y5)) fun _ s6 ⟨σ6, H6, I6, q6⟩ => ?_)
    refine wpAny_passesOwn hp (thn (hb _ s6 σ6 H6 _ I6 q6) fun f s7 q7 => ?_)
    have again : ∀ {σ7 : St} {H7 : Hp}, Inv X (pins ++ pinsAt fp s5.heap) σ7 H7 s7 → N σ7 H7 → ∃ m, m < n ∧ ∃ i σ' H', Inv X pins σ' H' s7 ∧ tn i s7.heap ∧ (∀ b ∈ fp, H' b = none) ∧ W i m σ' H' := fun {σ7 H7} I7 n7 => by
      obtain ⟨m', hm, w7⟩ := hN σ7 H7 n7
      refine ⟨m', hm, i + 1, σ7, H7, I7.unpinned, T.keep _ _ _ st5 fun b hb o e => (I7.pin (b, o) (List.mem_append_right _ (List.mem_append_right _ (mem_pinsAt hb e)))).1, fun b hb => ?_, w7⟩
      obtain ⟨o, e, d⟩ := T.obj _ _ st5 b hb
      exact (I7.pin (b, o) (List.mem_append_right _ (List.mem_append_right _ (mem_pinsAt hb e)))).2.1
    cases f with
    | next => obtain ⟨σ7, H7, I7, n7⟩ := q7; exact again I7 n7
    | cont => obtain ⟨σ7, H7, I7, n7⟩ := q7; exact again I7 n7
    | brk => obtain ⟨σ7, H7, I7, q7⟩ := q7; exact ⟨σ7, H7, I7.unpinned, q7⟩
    | ret v => obtain ⟨x7, σ7, H7, I7, r7, q7⟩ := q7; exact ⟨x7, σ7, H7, I7.unpinned, r7, q7⟩
end

/-! ### the forms one uses -/
/-- over a list that the body leaves as it is -/
theorem for_list {K : PySem.W.Frag} {a : Addr} {xs : List V} {g : TG} {tb : TS} {D : Ends} {σ : St} {H : Hp} (Pv : Nat → St → Hp → Prop) (h0 : Pv 0 σ H) (hl : ∀ i σ H, i ≤ xs.length → Pv i σ H → SqL K H a xs)
    (hs : ∀ i x σ H, xs[i]? = some x → Pv i σ H → g x σ H fun σ2 H2 => tb { D with nx := Pv (i + 1), ct := Pv (i + 1), bk := D.nx } σ2 H2) (hd : ∀ σ H, Pv xs.length σ H → D.nx σ H) :
    ∃ W : Nat → Nat → St → Hp → Prop, (∃ m, W 0 m σ H) ∧ ∀ i m σ H, W i m σ H →
      ((Itl K a).stop i H ∧ D.nx σ H) ∨ ((Itl K a).go i H ∧ ∃ N : St → Hp → Prop, (∀ σ' H', N σ' H' → ∃ m', m' < m ∧ W (i + 1) m' σ' H') ∧ ∀ x H', (Itl K a).yld i H x H' → g x σ H' fun σ2 H2 => tb { D with nx := N, ct := N, bk := D.nx } σ2 H2) := by
  refine ⟨fun i m σ H => m = xs.length - i ∧ i ≤ xs.length ∧ Pv i σ H, ⟨xs.length, by simp, Nat.zero_le _, h0⟩, ?_⟩
  rintro i m σ H ⟨rfl, hi, p⟩
  have q := hl i σ H hi p
  by_cases hlt : i < xs.length
  · refine .inr ⟨⟨xs, xs[i], q, by simp [hlt]⟩, Pv (i + 1), fun σ' H' p' => ⟨xs.length - (i + 1), by omega, rfl, hlt, p'⟩, fun x H' y => ?_⟩
    obtain ⟨e, y⟩ := y
    subst e
    exact hs i x σ _ (y xs q) p
  · have e : i = xs.length := by omega
    subst e
    exact .inl ⟨⟨xs, q, Nat.le_refl _⟩, hd σ H p⟩
theorem for_tup {K : PySem.W.Frag} {a : Addr} {xs : List V} {g : TG} {tb : TS} {D : Ends} {σ : St} {H : Hp} (Pv : Nat → St → Hp → Prop) (h0 : Pv 0 σ H) (hl : ∀ i σ H, i ≤ xs.length → Pv i σ H → SqT K H a xs)
    (hs : ∀ i x σ H, xs[i]? = some x → Pv i σ H → g x σ H fun σ2 H2 => tb { D with nx := Pv (i + 1), ct := Pv (i + 1), bk := D.nx } σ2 H2) (hd : ∀ σ H, Pv xs.length σ H → D.nx σ H) :
    ∃ W : Nat → Nat → St → Hp → Prop, (∃ m, W 0 m σ H) ∧ ∀ i m σ H, W i m σ H →
      ((Itt K a).stop i H ∧ D.nx σ H) ∨ ((Itt K a).go i H ∧ ∃ N : St → Hp → Prop, (∀ σ' H', N σ' H' → ∃ m', m' < m ∧ W (i + 1) m' σ' H') ∧ ∀ x H', (Itt K a).yld i H x H' → g x σ H' fun σ2 H2 => tb { D with nx := N, ct := N, bk := D.nx } σ2 H2) := by
  refine ⟨fun i m σ H => m = xs.length - i ∧ i ≤ xs.length ∧ Pv i σ H, ⟨xs.length, by simp, Nat.zero_le _, h0⟩, ?_⟩
  rintro i m σ H ⟨rfl, hi, p⟩
  have q := hl i σ H hi p
  by_cases hlt : i < xs.length
  · refine .inr ⟨⟨xs, xs[i], q, by simp [hlt]⟩, Pv (i + 1), fun σ' H' p' => ⟨xs.length - (i + 1), by omega, rfl, hlt, p'⟩, fun x H' y => ?_⟩
    obtain ⟨e, y⟩ := y
    subst e
    exact hs i x σ _ (y xs q) p
  · have e : i = xs.length := by omega
    subst e
    exact .inl ⟨⟨xs, q, Nat.le_refl _⟩, hd σ H p⟩
theorem for_range {lo : Int} {n : Nat} {g : TG} {tb : TS} {D : Ends} {σ : St} {H : Hp} (Pv : Nat → St → Hp → Prop) (h0 : Pv 0 σ H)
    (hs : ∀ i σ H, i < n → Pv i σ H → g (.int (lo + i)) σ H fun σ2 H2 => tb { D with nx := Pv (i + 1), ct := Pv (i + 1), bk := D.nx } σ2 H2) (hd : ∀ σ H, Pv n σ H → D.nx σ H) :
    ∃ W : Nat → Nat → St → Hp → Prop, (∃ m, W 0 m σ H) ∧ ∀ i m σ H, W i m σ H →
      ((Itr lo n).stop i H ∧ D.nx σ H) ∨ ((Itr lo n).go i H ∧ ∃ N : St → Hp → Prop, (∀ σ' H', N σ' H' → ∃ m', m' < m ∧ W (i + 1) m' σ' H') ∧ ∀ x H', (Itr lo n).yld i H x H' → g x σ H' fun σ2 H2 => tb { D with nx := N, ct := N, bk := D.nx } σ2 H2) := by
  refine ⟨fun i m σ H => m = n - i ∧ i ≤ n ∧ Pv i σ H, ⟨n, by simp, Nat.zero_le _, h0⟩, ?_⟩
  rintro i m σ H ⟨rfl, hi, p⟩
  by_cases hlt : i < n
  · refine .inr ⟨hlt, Pv (i + 1), fun σ' H' p' => ⟨n - (i + 1), by omega, rfl, hlt, p'⟩, fun x H' y => ?_⟩
    obtain ⟨e, y⟩ := y
    subst e y
    exact hs i σ _ hlt p
  · have e : i = n := by omega
    subst e
    exact .inl ⟨Nat.le_refl _, hd σ H p⟩
end L2

namespace L2
open PySem PySem.Spec PyProof.Rows

abbrev R2 := V → V → Hp → VK → Prop
/-- a two-place operation on values: f is binaryOp op, inplaceOp op or compareOp op -/
def OpR (X : Cx) (f : Value → Value → Sem Value) (r : R2) : Prop :=
  ∀ (pins : List (Addr × Obj)) (s : Shared) (σ : St) (H : Hp) (x y : V) (v u : Value) (Q : VK), Inv X pins σ H s → RelV x v → RelV y u → r x y H Q →
    wpAny (model X.prog X.w) X.A (f v u) (EP X pins σ Q) X.xe s
/-- a one-place operation -/
def UnR (X : Cx) (f : Value → Sem Value) (r : V → Hp → VK → Prop) : Prop :=
  ∀ (pins : List (Addr × Obj)) (s : Shared) (σ : St) (H : Hp) (x : V) (v : Value) (Q : VK), Inv X pins σ H s → RelV x v → r x H Q →
    wpAny (model X.prog X.w) X.A (f v) (EP X pins σ Q) X.xe s
/-- a call of a value that is known (a builtin, a type) with values -/
def CallR (X : Cx) (f : Value) (r : List V → Hp → VK → Prop) : Prop :=
  ∀ (pins : List (Addr × Obj)) (s : Shared) (σ : St) (H : Hp) (xs : List V) (us : List Value) (Q : VK), Inv X pins σ H s → Vals xs us → r xs H Q →
    wpAny (model X.prog X.w) X.A (call f us) (EP X pins σ Q) X.xe s
/-- a value's truth -/
def TruR (X : Cx) (r : V → Hp → (Bool → Hp → Prop) → Prop) : Prop :=
  ∀ (pins : List (Addr × Obj)) (s : Shared) (σ : St) (H : Hp) (x : V) (v : Value) (Q : Bool → Hp → Prop), Inv X pins σ H s → RelV x v → r x H Q →
    wpAny (model X.prog X.w) X.A (truthy v) (TP X pins σ Q) X.xe s

def tOp (r : R2) (ta tb : TE) : TE := fun σ H Q => ta σ H fun x H1 => tb σ H1 fun y H2 => r x y H2 Q
def tUn (r : V → Hp → VK → Prop) (ta : TE) : TE := fun σ H Q => ta σ H fun x H1 => r x H1 Q
/-- ints in, under C, and a value out -/
def rI (C : Int → Int → Prop) (g : Int → Int → V) : R2 := fun x y H Q => ∃ i j, x = .int i ∧ y = .int j ∧ C i j ∧ Q (g i j) H
def rI0 (g : Int → Int → V) : R2 := fun x y H Q => ∃ i j, x = .int i ∧ y = .int j ∧ Q (g i j) H
def rU (g : Int → V) : V → Hp → VK → Prop := fun x H Q => ∃ i, x = .int i ∧ Q (g i) H

section
variable {X : Cx} {a b c : Expr} {ta tb tc : TE} {pos : Pos}

theorem binT (ha : PE X a ta) (hb : PE X b tb) {pins : List (Addr × Obj)} {s : Shared} {σ : St} {H : Hp} {R : V → V → Hp → Prop} (I : Inv X pins σ H s)
    (h : ta σ H fun x H1 => tb σ H1 fun y H2 => R x y H2) {Q : Value → Shared → Prop} {f : Value → Value → Sem Value}
    (hf : ∀ v u s2 x y H2, Inv X pins σ H2 s2 → RelV x v → RelV y u → R x y H2 → wpAny (model X.prog X.w) X.A (f v u) Q X.xe s2) :
    wpAny (model X.prog X.w) X.A (eval a X.env) (fun v s₁ => wpAny (model X.prog X.w) X.A (eval b X.env) (fun u s₂ => wpAny (model X.prog X.w) X.A (f v u) Q X.xe s₂) X.xe s₁) X.xe s := by
  refine thn (ha pins s σ H _ I h) fun v s1 ⟨x, H1, I1, r1, q1⟩ => ?_
  refine thn (hb pins s1 σ H1 _ I1 q1) fun u s2 ⟨y, H2, I2, r2, q2⟩ => ?_
  exact hf v u s2 x y H2 I2 r1 r2 q2

theorem pe_op {op : Operator} {r : R2} (ho : OpR X (binaryOp op) r) (ha : PE X a ta) (hb : PE X b tb) : PE X (.BinOp a op b pos) (tOp r ta tb) := by
  intro pins s σ H Q I h
  exact wpAny_BinOp (binT ha hb I h fun v u s2 x y H2 I2 rx ry q => ho pins s2 σ H2 x y v u Q I2 rx ry q)
theorem pe_un {op : UnaryOp} {r : V → Hp → VK → Prop} (ho : UnR X (unaryOp op) r) (ha : PE X a ta) : PE X (.UnaryOp op a pos) (tUn r ta) := by
  intro pins s σ H Q I h
  exact UnaryOp_ (thn (ha pins s σ H _ I h) fun v s1 ⟨x, H1, I1, r1, q1⟩ => ho pins s1 σ H1 x v Q I1 r1 q1)
/-! ### ints -/
theorem opI {f : Value → Value → Sem Value} {C : Int → Int → Prop} {g : Int → Int → Int}
    (rule : ∀ (i j : Int) (t u : Tok) (s : Shared) (Q : Value → Shared → Prop) (E : Value → Shared → Prop), C i j → Q (.int (g i j) s.toks) { s with toks := s.toks + 1 } → wpAny (model X.prog X.w) X.A (f (.int i t) (.int j u)) Q E s) :
    OpR X f (rI C fun i j => .int (g i j)) := by
  intro pins s σ H x y v u Q I rx ry h
  obtain ⟨i, j, rfl, rfl, hc, q⟩ := h
  obtain ⟨t, rfl⟩ := rx
  obtain ⟨t', rfl⟩ := ry
  exact rule i j t t' s _ _ hc ⟨.int (g i j), H, I.tok _, ⟨_, rfl⟩, q⟩
theorem opI0 {f : Value → Value → Sem Value} {g : Int → Int → Int}
    (rule : ∀ (i j : Int) (t u : Tok) (s : Shared) (Q : Value → Shared → Prop) (E : Value → Shared → Prop), Q (.int (g i j) s.toks) { s with toks := s.toks + 1 } → wpAny (model X.prog X.w) X.A (f (.int i t) (.int j u)) Q E s) :
    OpR X f (rI0 fun i j => .int (g i j)) := by
  intro pins s σ H x y v u Q I rx ry h
  obtain ⟨i, j, rfl, rfl, q⟩ := h
  obtain ⟨t, rfl⟩ := rx
  obtain ⟨t', rfl⟩ := ry
  exact rule i j t t' s _ _ ⟨.int (g i j), H, I.tok _, ⟨_, rfl⟩, q⟩
theorem opB0 {f : Value → Value → Sem Value} {g : Int → Int → Bool}
    (rule : ∀ (i j : Int) (t u : Tok) (s : Shared) (Q : Value → Shared → Prop) (E : Value → Shared → Prop), Q (.bool (g i j)) s → wpAny (model X.prog X.w) X.A (f (.int i t) (.int j u)) Q E s) :
    OpR X f (rI0 fun i j => .bl (g i j)) := by
  intro pins s σ H x y v u Q I rx ry h
  obtain ⟨i, j, rfl, rfl, q⟩ := h
  obtain ⟨t, rfl⟩ := rx
  obtain ⟨t', rfl⟩ := ry
  exact rule i j t t' s _ _ ⟨.bl (g i j), H, I, rfl, q⟩

def CDiv (i j : Int) : Prop := 0 < j ∧ j < 1073741824
def CPow (i j : Int) : Prop := 0 ≤ j ∧ j ≤ 1000000 ∧ i.natAbs < 2 ^ 64
def CMul (i j : Int) : Prop := (-(2 ^ 64) < i ∧ i < 2 ^ 64) ∨ (-(2 ^ 64) < j ∧ j < 2 ^ 64)
theorem CMul.ok {i j : Int} (h : CMul i j) : IntMulOk i j := by
  rcases h with ⟨h1, h2⟩ | ⟨h1, h2⟩
  · exact .of_left (intBits_le_64 h1 h2)
  · exact .of_right (intBits_le_64 h1 h2)
theorem op_add : OpR X (binaryOp .Add) (rI0 fun i j => .int (i + j)) := opI0 fun _ _ _ _ _ _ _ q => add_int q
theorem op_sub : OpR X (binaryOp .Sub) (rI0 fun i j => .int (i - j)) := opI0 fun _ _ _ _ _ _ _ q => sub_int q
theorem op_mul : OpR X (binaryOp .Mult) (rI CMul fun i j => .int (i * j)) := opI fun _ _ _ _ _ _ _ hc q => mul_int q hc.ok
/-- // by a positive divisor -/
theorem op_fdiv : OpR X (binaryOp .FloorDiv) (rI CDiv fun i j => .int (i / j)) := opI fun i j _ _ _ _ _ hc q => by
  have h1 : (0 : Int) < j := hc.1
  have h2 : j < 1073741824 := hc.2
  exact floordiv_int (by omega) (by rw [Int.fdiv_eq_ediv_of_nonneg i (by omega)]; exact q) (.inl (PyProof.noPylong_small (by omega)))
/-- % by a positive divisor of any size -/
theorem op_mod : OpR X (binaryOp .Mod) (rI (fun _ j => 0 < j) fun i j => .int (i % j)) := opI fun i j _ _ _ _ _ hc q => by
  have h1 : (0 : Int) < j := hc
  exact mod_int' (by omega) (by rw [Int.fmod_eq_emod_of_nonneg i (by omega)]; exact q)
theorem op_pow : OpR X (binaryOp .Pow) (rI CPow fun i j => .int (i ^ j.toNat)) := opI fun _ _ _ _ _ _ _ hc q => pow_int_small hc.1 hc.2.1 hc.2.2 q
theorem unI {f : Value → Sem Value} {g : Int → Int}
    (rule : ∀ (i : Int) (t : Tok) (s : Shared) (Q : Value → Shared → Prop) (E : Value → Shared → Prop), Q (.int (g i) s.toks) { s with toks := s.toks + 1 } → wpAny (model X.prog X.w) X.A (f (.int i t)) Q E s) :
    UnR X f (rU fun i => .int (g i)) := by
  intro pins s σ H x v Q I rx h
  obtain ⟨i, rfl, q⟩ := h
  obtain ⟨t, rfl⟩ := rx
  exact rule i t s _ _ ⟨.int (g i), H, I.tok _, ⟨_, rfl⟩, q⟩
theorem un_neg : UnR X (unaryOp .USub) (rU fun i => .int (-i)) := unI fun _ _ _ _ _ q => neg_int q
/-! ### bools among ints: n += (a < b) -/
end

/-! ### comparisons -/
/-- the scalars that == tells apart as data does -/
def scal : V → V → Bool
  | .non, .non => true | .non, .int _ => true | .int _, .non => true | .non, .bl _ => true | .bl _, .non => true | .non, .str _ => true | .str _, .non => true
  | .int _, .int _ => true | .bl _, .bl _ => true | .str _, .str _ => true | .byt _, .byt _ => true
  | .int _, .str _ => true | .str _, .int _ => true | .bl _, .str _ => true | .str _, .bl _ => true
  | _, _ => false
def rEq : R2 := fun x y H Q => scal x y = true ∧ Q (.bl (decide (x = y))) H
def rNe : R2 := fun x y H Q => scal x y = true ∧ Q (.bl (!decide (x = y))) H

theorem dec_int {i j : Int} : decide (V.int i = V.int j) = (i == j) := by
  rw [Bool.eq_iff_iff]
  simp
theorem dec_bl {i j : Bool} : decide (V.bl i = V.bl j) = (i == j) := by
  rw [Bool.eq_iff_iff]
  simp
theorem dec_str {i j : Str} : decide (V.str i = V.str j) = (i == j) := by
  rw [Bool.eq_iff_iff]
  simp
theorem dec_byt {i j : Array UInt8} : decide (V.byt i = V.byt j) = (i.toList == j.toList) := by
  rw [Bool.eq_iff_iff]
  cases i
  cases j
  simp

section
variable {X : Cx} {a b c : Expr} {ta tb tc : TE} {pos : Pos}
theorem fin_bl {pins : List (Addr × Obj)} {σ : St} {H : Hp} {s : Shared} {Q : VK} {k k' : Bool} (I : Inv X pins σ H s) (q : Q (.bl k) H) (e : k = k') : EP X pins σ Q (.bool k') s := by
  subst e
  exact ⟨.bl k, H, I, rfl, q⟩
theorem op_eq : OpR X (compareOp .Eq) rEq := by
  intro pins s σ H x y v u Q I rx ry h
  obtain ⟨hs, q⟩ := h
  cases x with
  | non =>
    cases rx
    cases y with
    | non => cases ry; exact PySem.EqNone.eq_none_none (fin_bl I q (by simp))
    | bl j => cases ry; exact PySem.EqNone.eq_none_bool (fin_bl I q (by simp))
    | int j => obtain ⟨t', rfl⟩ := ry; exact PySem.EqNone.eq_none_int (fin_bl I q (by simp))
    | str j => obtain ⟨t', rfl⟩ := ry; exact PySem.EqNone.eq_none_str (fin_bl I q (by simp))
    | _ => exact absurd (show false = true from hs) Bool.false_ne_true
  | bl i =>
    cases rx
    cases y with
    | non => cases ry; exact PySem.EqNone.eq_bool_none (fin_bl I q (by simp))
    | bl j => cases ry; exact eq_bool (fin_bl I q dec_bl)
    | str j => obtain ⟨t', rfl⟩ := ry; exact PySem.EqMixed.eq_bool_str (fin_bl I q (by simp))
    | _ => exact absurd (show false = true from hs) Bool.false_ne_true
  | int i =>
    obtain ⟨t, rfl⟩ := rx
    cases y with
    | non => cases ry; exact PySem.EqNone.eq_int_none (fin_bl I q (by simp))
    | int j => obtain ⟨t', rfl⟩ := ry; exact eq_int (fin_bl I q dec_int)
    | str j => obtain ⟨t', rfl⟩ := ry; exact PySem.EqMixed.eq_int_str (fin_bl I q (by simp))
    | _ => exact absurd (show false = true from hs) Bool.false_ne_true
  | str i =>
    obtain ⟨t, rfl⟩ := rx
    cases y with
    | non => cases ry; exact PySem.EqNone.eq_str_none (fin_bl I q (by simp))
    | bl j => cases ry; exact PySem.EqMixed.eq_str_bool (fin_bl I q (by simp))
    | int j => obtain ⟨t', rfl⟩ := ry; exact PySem.EqMixed.eq_str_int (fin_bl I q (by simp))
    | str j => obtain ⟨t', rfl⟩ := ry; exact eq_str (fin_bl I q dec_str)
    | _ => exact absurd (show false = true from hs) Bool.false_ne_true
  | byt i =>
    obtain ⟨t, rfl⟩ := rx
    cases y with
    | byt j => obtain ⟨t', rfl⟩ := ry; exact PySem.W.eq_bytes (fin_bl I q dec_byt)
    | _ => exact absurd (show false = true from hs) Bool.false_ne_true
  | _ => cases y <;> exact absurd (show false = true from hs) Bool.false_ne_true
theorem op_ne : OpR X (compareOp .NotEq) rNe := by
  intro pins s σ H x y v u Q I rx ry h
  obtain ⟨hs, q⟩ := h
  cases x with
  | non =>
    cases rx
    cases y with
    | non => cases ry; exact PySem.EqNone.ne_none_none (fin_bl I q (by simp))
    | bl j => cases ry; exact PySem.EqNone.ne_none_bool (fin_bl I q (by simp))
    | int j => obtain ⟨t', rfl⟩ := ry; exact PySem.EqNone.ne_none_int (fin_bl I q (by simp))
    | str j => obtain ⟨t', rfl⟩ := ry; exact PySem.EqNone.ne_none_str (fin_bl I q (by simp))
    | _ => exact absurd (show false = true from hs) Bool.false_ne_true
  | bl i =>
    cases rx
    cases y with
    | non => cases ry; exact PySem.EqNone.ne_bool_none (fin_bl I q (by simp))
    | bl j => cases ry; exact ne_bool (fin_bl I q (congrArg not dec_bl))
    | str j => obtain ⟨t', rfl⟩ := ry; exact PySem.EqMixed.ne_bool_str (fin_bl I q (by simp))
    | _ => exact absurd (show false = true from hs) Bool.false_ne_true
  | int i =>
    obtain ⟨t, rfl⟩ := rx
    cases y with
    | non => cases ry; exact PySem.EqNone.ne_int_none (fin_bl I q (by simp))
    | int j => obtain ⟨t', rfl⟩ := ry; exact ne_int (fin_bl I q (congrArg not dec_int))
    | str j => obtain ⟨t', rfl⟩ := ry; exact PySem.EqMixed.ne_int_str (fin_bl I q (by simp))
    | _ => exact absurd (show false = true from hs) Bool.false_ne_true
  | str i =>
    obtain ⟨t, rfl⟩ := rx
    cases y with
    | non => cases ry; exact PySem.EqNone.ne_str_none (fin_bl I q (by simp))
    | bl j => cases ry; exact PySem.EqMixed.ne_str_bool (fin_bl I q (by simp))
    | int j => obtain ⟨t', rfl⟩ := ry; exact PySem.EqMixed.ne_str_int (fin_bl I q (by simp))
    | str j => obtain ⟨t', rfl⟩ := ry; exact ne_str (fin_bl I q (congrArg not dec_str))
    | _ => exact absurd (show false = true from hs) Bool.false_ne_true
  | byt i =>
    obtain ⟨t, rfl⟩ := rx
    cases y with
    | byt j => obtain ⟨t', rfl⟩ := ry; exact PySem.W.ne_bytes (fin_bl I q (congrArg not dec_byt))
    | _ => exact absurd (show false = true from hs) Bool.false_ne_true
  | _ => cases y <;> exact absurd (show false = true from hs) Bool.false_ne_true

theorem op_lt : OpR X (compareOp .Lt) (rI0 fun i j => .bl (decide (i < j))) := opB0 fun _ _ _ _ _ _ _ q => lt_int q
theorem op_le : OpR X (compareOp .LtE) (rI0 fun i j => .bl (decide (i ≤ j))) := opB0 fun _ _ _ _ _ _ _ q => le_int q
theorem op_gt : OpR X (compareOp .Gt) (rI0 fun i j => .bl (decide (j < i))) := opB0 fun _ _ _ _ _ _ _ q => gt_int q
theorem op_ge : OpR X (compareOp .GtE) (rI0 fun i j => .bl (decide (j ≤ i))) := opB0 fun _ _ _ _ _ _ _ q => ge_int q
/-- two rules for one operation: by cases -/
theorem OpR.or {f : Value → Value → Sem Value} {r r' : R2} (h : OpR X f r) (h' : OpR X f r') : OpR X f (fun x y H Q => r x y H Q ∨ r' x y H Q) := by
  intro pins s σ H x y v u Q I rx ry q
  rcases q with q | q
  · exact h pins s σ H x y v u Q I rx ry q
  · exact h' pins s σ H x y v u Q I rx ry q

theorem nomark (b : Expr) {op : CmpOp} (h : op ≠ .In := by decide) (h2 : op ≠ .NotIn := by decide) : behindInMarks op b = false := by
  have e1 : (op == CmpOp.In) = false := by cases op <;> first | rfl | exact absurd rfl h
  have e2 : (op == CmpOp.NotIn) = false := by cases op <;> first | rfl | exact absurd rfl h2
  cases b <;> simp [behindInMarks, e1, e2]
/-- a comparison as a value; hm: nomark b, or (for in, not in) by with_unfolding_all rfl -/
theorem pe_cmpR {op : CmpOp} {r : R2} (ho : OpR X (compareOp op) r) (ha : PE X a ta) (hb : PE X b tb) (hm : behindInMarks op b = false) : PE X (.Compare a [op] [b] pos) (tOp r ta tb) := by
  intro pins s σ H Q I h
  exact wpAny_Compare1 (binT ha hb I h fun v u s2 x y H2 I2 rx ry q => ho pins s2 σ H2 x y v u Q I2 rx ry q) hm
/-- a reading of a value as a test -/
def tTest (t : TE) : TT := fun σ H Q => t σ H fun x H' => ∃ k, x = .bl k ∧ Q k H'
theorem pt_cmpR {op : CmpOp} {r : R2} (ho : OpR X (compareOp op) r) (ha : PE X a ta) (hb : PE X b tb) (hm : behindInMarks op b = false) : PT X (.Compare a [op] [b] pos) (tTest (tOp r ta tb)) := by
  intro pins s σ H Q I h
  refine wpAny_isTrue_Compare1 (thn (ha pins s σ H _ I h) fun v s1 ⟨x, H1, I1, r1, q1⟩ => thn (hb pins s1 σ H1 _ I1 q1) fun u s2 ⟨y, H2, I2, r2, q2⟩ =>
    thn (ho pins s2 σ H2 x y v u _ I2 r1 r2 q2) fun c s3 ⟨z, H3, I3, r3, k, e, q3⟩ => ?_) hm
  subst e
  cases r3
  exact wpAny_truthy_bool ⟨H3, I3, q3⟩
/-- a op1 b op2 c -/
def tChain (r r' : R2) (ta tb tc : TE) : TE := fun σ H Q => ta σ H fun x H1 => tb σ H1 fun y H2 => r x y H2 fun z H3 => ∃ k, z = .bl k ∧
  (if k = true then tc σ H3 fun w' H4 => r' y w' H4 Q else Q (.bl false) H3)
theorem pe_chain {op op' : CmpOp} {r r' : R2} (ho : OpR X (compareOp op) r) (ho' : OpR X (compareOp op') r') (ha : PE X a ta) (hb : PE X b tb) (hc : PE X c tc)
    (hm : lastMarks [op, op'] [b, c] = false := by with_unfolding_all rfl) : PE X (.Compare a [op, op'] [b, c] pos) (tChain r r' ta tb tc) := by
  intro pins s σ H Q I h
  refine Compare_chain (thn (ha pins s σ H _ I h) fun v s1 ⟨x, H1, I1, r1, q1⟩ => chain_link (thn (hb pins s1 σ H1 _ I1 q1) fun u s2 ⟨y, H2, I2, r2, q2⟩ =>
    thn (ho pins s2 σ H2 x y v u _ I2 r1 r2 q2) fun d s3 ⟨z, H3, I3, r3, k, e, q3⟩ => ?_)) hm
  subst e
  cases r3
  refine wpAny_truthy_bool ?_
  cases k with
  | false => exact ite_ff ⟨.bl false, H3, I3, rfl, q3⟩
  | true => exact ite_tt (chain_last (thn (hc pins s3 σ H3 _ I3 q3) fun w' s4 ⟨z', H4, I4, r4, q4⟩ => ho' pins s4 σ H4 y z' u w' Q I4 r2 r4 q4))
theorem pt_chain {op op' : CmpOp} {r r' : R2} (ho : OpR X (compareOp op) r) (ho' : OpR X (compareOp op') r') (ha : PE X a ta) (hb : PE X b tb) (hc : PE X c tc)
    (hm : lastMarks [op, op'] [b, c] = false := by with_unfolding_all rfl) : PT X (.Compare a [op, op'] [b, c] pos) (tTest (tChain r r' ta tb tc)) := by
  intro pins s σ H Q I h
  refine isTrue_chain (thn (ha pins s σ H _ I h) fun v s1 ⟨x, H1, I1, r1, q1⟩ => test_link (thn (hb pins s1 σ H1 _ I1 q1) fun u s2 ⟨y, H2, I2, r2, q2⟩ =>
    thn (ho pins s2 σ H2 x y v u _ I2 r1 r2 q2) fun d s3 ⟨z, H3, I3, r3, k, e, q3⟩ => ?_)) hm
  subst e
  cases r3
  refine wpAny_truthy_bool ?_
  cases k with
  | false =>
    obtain ⟨k', e', q'⟩ := q3
    cases e'
    exact ite_ff ⟨H3, I3, q'⟩
  | true =>
    refine ite_tt (test_last (thn (hc pins s3 σ H3 _ I3 q3) fun w' s4 ⟨z', H4, I4, r4, q4⟩ => thn (ho' pins s4 σ H4 y z' u w' _ I4 r2 r4 q4) fun d' s5 ⟨z2, H5, I5, r5, k2, e2, q5⟩ => ?_))
    subst e2
    cases r5
    exact wpAny_truthy_bool ⟨H5, I5, q5⟩

/-! ### truth -/
/-- a value's truth by the abstract heap -/
def TruV (K : PySem.W.Frag) (x : V) (H : Hp) (k : Bool) : Prop :=
  match x with
  | .non => k = false
  | .bl b => k = b
  | .int i => k = (i != 0)
  | .str y => y.length ≤ sizeLine ∧ k = ((y.length : Int) != 0)
  | .byt y => y.size ≤ sizeLine ∧ k = ((y.size : Int) != 0)
  | .ref p => (∃ xs, SqL K H p xs ∧ k = !xs.isEmpty) ∨ (∃ xs, SqT K H p xs ∧ k = !xs.isEmpty) ∨ ∃ kvs, H p = some (.dK kvs) ∧ k = !kvs.isEmpty
  | _ => False
theorem isEmpty_kv {κ : Type} {kvs : List (κ × V)} {vs : List (κ × Value)} (r : KV kvs vs) : (!vs.isEmpty) = !kvs.isEmpty := by
  cases r <;> rfl
theorem isEmpty_of {xs : List V} {its : List Value} (r : Vals xs its) : (!its.toArray.isEmpty) = !xs.isEmpty := by
  cases r <;> simp
theorem line63 : (sizeLine : Nat) < 2 ^ 63 := by rw [sizeLine_eq]; decide
theorem tru_ok : TruR X (fun x H Q => ∃ k, TruV X.K x H k ∧ Q k H) := by
  intro pins s σ H x v Q I rx h
  obtain ⟨k, e, q⟩ := h
  have hl := line63
  have hs : sizeLine = 16777216 := sizeLine_eq
  cases x with
  | non =>
    cases rx
    have e' : k = false := e
    subst e'
    exact truthy_none ⟨H, I, q⟩
  | bl b =>
    cases rx
    have e' : k = b := e
    subst e'
    exact wpAny_truthy_bool ⟨H, I, q⟩
  | int i =>
    obtain ⟨t, rfl⟩ := rx
    have e' : k = (i != 0) := e
    subst e'
    exact PySem.P.truthy_int ⟨H, I, q⟩
  | str y =>
    obtain ⟨t, rfl⟩ := rx
    obtain ⟨hy, e'⟩ : y.length ≤ sizeLine ∧ k = ((y.length : Int) != 0) := e
    subst e'
    exact PySem.P.truthy_str (by omega) ⟨H, I.tok _, q⟩
  | byt y =>
    obtain ⟨t, rfl⟩ := rx
    obtain ⟨hy, e'⟩ : y.size ≤ sizeLine ∧ k = ((y.size : Int) != 0) := e
    subst e'
    exact PySem.W.truthy_bytes (by omega) ⟨H, I.tok _, q⟩
  | ref p =>
    cases rx
    have e' : (∃ xs, SqL X.K H p xs ∧ k = !xs.isEmpty) ∨ (∃ xs, SqT X.K H p xs ∧ k = !xs.isEmpty) ∨ ∃ kvs, H p = some (.dK kvs) ∧ k = !kvs.isEmpty := e
    rcases e' with ⟨xs, hx, e'⟩ | ⟨xs, hx, e'⟩ | ⟨kvs, hx, e'⟩
    · subst e'
      obtain ⟨its, r, pl, hz⟩ := I.list hx
      have hlen := r.length
      exact wpAny_truthy_list pl.isList (by simp only [List.size_toArray]; omega) ⟨H, I.tok _, by rw [isEmpty_of r]; exact q⟩
    · subst e'
      obtain ⟨its, r, pl, hz⟩ := I.tuple hx
      have hlen := r.length
      exact truthy_tuple pl (by simp only [List.size_toArray]; omega) ⟨H, I.tok _, by rw [isEmpty_of r]; exact q⟩
    · subst e'
      obtain ⟨hz, hS, vs, r, m⟩ : kvs.length ≤ sizeLine ∧ (p == sysModules) = false ∧ ∃ vs, KV kvs vs ∧ s.heap.DictOf (mixKind X.prog X.w) p vs := I.hok p _ hx
      have hlen : kvs.length = vs.length := Paired.length r
      exact wpAny_truthy_dict hS m (by omega) ⟨H, I.tok _, by rw [isEmpty_kv r]; exact q⟩
  | _ => exact (show False from e).elim
/-- any expression whose test is its value's truth (a name, a call, a subscript, a field ..: he by fun _ => rfl) -/
theorem pt_truth (ha : PE X a ta) (he : ∀ whole, isTrue a X.env whole = (do let v ← whole; standAt a.pos; holding [v] (truthy v))) :
    PT X a (fun σ H Q => ta σ H fun x H' => ∃ k, TruV X.K x H' k ∧ Q k H') := by
  intro pins s σ H Q I h
  exact isTrue_plain (thn (ha pins s σ H _ I h) fun v s1 ⟨x, H1, I1, r1, q1⟩ => tru_ok pins s1 σ H1 x v Q I1 r1 q1) (he _)

/-! ### strs and bytes -/
theorem op_add_str : OpR X (binaryOp .Add) (fun x y H Q => ∃ i j, x = .str i ∧ y = .str j ∧ i.length + j.length ≤ sizeLine ∧ Q (.str (i ++ j)) H) := by
  intro pins s σ H x y v u Q I rx ry h
  obtain ⟨i, j, rfl, rfl, hz, q⟩ := h
  obtain ⟨t, rfl⟩ := rx
  obtain ⟨t', rfl⟩ := ry
  exact add_str (fun t' tk => ⟨.str (i ++ j), H, I.tok _, ⟨_, rfl⟩, q⟩) hz
/-! ### scalar builtins, by CallR -/
theorem vals1 {x : V} {us : List Value} (r : Vals [x] us) : ∃ u, us = [u] ∧ RelV x u := by
  cases r with
  | cons r1 r2 => cases r2; exact ⟨_, rfl, r1⟩
theorem call_str_int : CallR X (.type "str") (fun xs H Q => ∃ i, xs = [.int i] ∧ i.natAbs.log2 < 1920 ∧ Q (.str (toString i)) H) := by
  intro pins s σ H xs us Q I r h
  obtain ⟨i, rfl, hz, q⟩ := h
  obtain ⟨u, rfl, t, rfl⟩ := vals1 r
  exact PySem.P.str_of_int hz ⟨.str _, H, I.tok _, ⟨_, rfl⟩, q⟩
end
end L2

namespace L2
open PySem PySem.Spec PyProof.Rows

/-! ### an instance, its attributes a map -/
structure ObjM (h : Heap) (x dx C : Addr) (mA : Str → Option Value) : Prop where
  obj : h.get? x = some (PySem.W.instObj C dx)
  ns : h.Ns1 dx mA
  ne : dx ≠ x

theorem lookIn_ns {h : Heap} {dx : Addr} {mA : Str → Option Value} (n : h.Ns1 dx mA) : ∃ od, h.get? dx = some od ∧ ∀ name, PySem.W.lookIn name od = some (mA name) := by
  obtain ⟨o, es, ep, ho, hd, hk, _, hm⟩ := n
  refine ⟨o, ho, fun name => ?_⟩
  have e := hm name
  unfold nsFind findBy at e
  rw [← Array.find?_toList] at e
  unfold PySem.W.lookIn
  rw [hd]
  dsimp only
  split
  · rename_i y q
    rw [q] at e
    exact congrArg some e
  · rename_i q
    rw [q] at e
    have a : es.toList.any (·.refKey) = false := by
      rw [List.any_eq_false]
      intro y hy
      obtain ⟨z, t, hkey⟩ := hk y (Array.mem_toList_iff.mp hy)
      simp [DictEntry.refKey, hkey]
    have a' : ¬ es.toList.any (·.refKey) = true := by rw [a]; exact Bool.false_ne_true
    rw [if_neg a']
    exact congrArg some e

theorem ObjM.look {h : Heap} {x dx C : Addr} {mA : Str → Option Value} (I : ObjM h x dx C mA) : ∃ od, PySem.W.InstAt h x (PySem.W.instObj C dx) C (some od) ∧ ∀ name, PySem.W.lookIn name od = some (mA name) :=
  let ⟨od, ho, hl⟩ := lookIn_ns I.ns
  ⟨od, ⟨I.obj, rfl, rfl, ho⟩, hl⟩

section
variable {prog : Program} {w : World} {A : Around} {E : Value → Shared → Prop} {s : Shared} {K : PySem.W.Frag} {x dx C f : Addr} {mA : Str → Option Value} {name : Str} {v : Value}

end

/-! ### the attributes as a list of pairs -/
theorem RelO.some_of {v : V} {o : Option Value} (r : RelO (some v) o) : ∃ u, o = some u ∧ RelV v u := by
  cases o with
  | none => exact (show False from r).elim
  | some u => exact ⟨u, rfl, r⟩
section
variable {P : Program} {w : World} {H H' : Hp} {h h' : Heap} {a C dx : Addr} {fs fs' : List (Str × V)}
theorem ins_get (hok : HOk P w H h) (e : H a = some (.ins C dx fs)) : ∃ mA, ObjM h a dx C mA ∧ (∀ f, RelO (fs.lookup f) (mA f)) ∧ PySem.Within mA (fs.map (·.1)) ∧ fs.length ≤ 1000 ∧ H dx = some (.own a) := by
  obtain ⟨d, z, ne, ob, mA, n, r, q⟩ := (show ObjOk P w H h a (.ins C dx fs) from hok a _ e)
  exact ⟨mA, ⟨ob, n, ne⟩, r, q, z, d⟩
end

/-! ### what of the text a class must have -/
structure Cls (K : PySem.W.Frag) (C : Addr) : Prop where
  pg : PySem.W.plainGet K C Str.empty = true
  hd : PySem.W.hasDictIn K C = true
  po : PySem.W.plainOver K C = true
  sa : PySem.W.findIn K (.ref C) "__setattr__" = some (some (.builtin "object.__setattr__"))
theorem Cls.get {K : PySem.W.Frag} {C : Addr} (c : Cls K C) (f : Str) : PySem.W.plainGet K C f = true := c.pg
/-- a constant of the class -/
structure Con (K : PySem.W.Frag) (C : Addr) (f : Str) (v : V) (u : Value) : Prop where
  at_ : PySem.W.findIn K (.ref C) f = some (some u)
  rel : RelV v u
  get : PySem.W.specialIn K u "__get__" = some none
  cp : PySem.W.copiedNames.contains f = false
/-- a method: a plain def of the class or of one above it -/
structure Meth (K : PySem.W.Frag) (C : Addr) (m : Str) (f : Addr) : Prop where
  at_ : PySem.W.findIn K (.ref C) m = some (some (.ref f))
  fn : PySem.W.isFn K (.ref f) = true
  kp : PySem.W.keepIn K (.ref f) = true

section
variable {X : Cx} {pins : List (Addr × Obj)} {σ : St} {H : Hp} {s : Shared} {a C dx : Addr} {fs : List (Str × V)} {f : Str} {v : V} {A : Around} {E : Value → Shared → Prop}

/-- a new instance, tracked, without attributes -/
theorem Inv.made (I : Inv X pins σ H s) : Inv X pins σ (upd (upd H s.heap.objs.size (.own (s.heap.objs.size + 1))) (s.heap.objs.size + 1) (.ins C s.heap.objs.size []))
    { s with heap := (s.heap.push PySem.W.emptyDict).push (PySem.W.instObj C s.heap.objs.size) } := by
  have e1 : (s.heap.push PySem.W.emptyDict).get? s.heap.objs.size = some PySem.W.emptyDict := Heap.get?_push_size s.heap rfl
  have e2 : ((s.heap.push PySem.W.emptyDict).push (PySem.W.instObj C s.heap.objs.size)).get? (s.heap.objs.size + 1) = some (PySem.W.instObj C s.heap.objs.size) := by
    have := Heap.get?_push_size (s.heap.push PySem.W.emptyDict) (o := PySem.W.instObj C s.heap.objs.size) rfl
    rwa [Heap.size_push] at this
  have e3 : (s.heap.push PySem.W.emptyDict).Ns s.heap.objs.size (fun _ => none) := ⟨PySem.W.emptyDict, #[], _, e1, rfl, (fun e he => absurd he (by simp)), fun _ => rfl⟩
  have I1 := I.laid (a := s.heap.objs.size) (o := .own (s.heap.objs.size + 1)) (h' := s.heap.push PySem.W.emptyDict) (t' := s.toks) (fun b u q => Heap.get?_push_of_some _ q) (Nat.le_refl _) ⟨_, e1⟩
  refine I1.laid (a := s.heap.objs.size + 1) (o := .ins C s.heap.objs.size []) (t' := s.toks) (fun b u q => Heap.get?_push_of_some _ q) (Nat.le_of_eq (Heap.size_push _ _)) ?_
  have ne : s.heap.objs.size ≠ s.heap.objs.size + 1 := Nat.ne_of_lt (Nat.lt_succ_self _)
  refine ⟨by rw [upd_ne ne, upd_same], Nat.zero_le _, ne, e2, fun _ => none, (Heap.Ns1.of_empty e3).at fun o q => Heap.get?_push_of_some _ q, fun _ => True.intro, fun y hy => absurd rfl hy⟩

end

/-! ### readings and rules -/
section
variable {X : Cx} {o e value : Expr} {f : Str} {pos pos' tpos : Pos} {ta tv : TE}
end

/-! ### isinstance -/
section
variable {X : Cx} {pins : List (Addr × Obj)} {σ : St} {H : Hp} {s : Shared} {A : Around} {E : Value → Shared → Prop} {Q : Value → Shared → Prop} {c : Value} {b : Bool}
/-- the type of a value, as the fragment's deciders take it; for an instance its class -/
inductive TyOf (K : PySem.W.Frag) (H : Hp) : V → Value → Prop where
  | non : TyOf K H .non (.type "NoneType")
  | bl (x : Bool) : TyOf K H (.bl x) (.type "bool")
  | int (i : Int) : TyOf K H (.int i) (.type "int")
  | str (x : Str) : TyOf K H (.str x) (.type "str")
  | flt (x : UInt64) : TyOf K H (.flt x) (.type "float")
  | lst {a : Addr} {xs : List V} (e : H a = some (.lst xs)) : TyOf K H (.ref a) (.type "list")
  | frz {a : Addr} {o : Obj} {xs : List V} (e : H a = some (.frz o (.lst xs))) : TyOf K H (.ref a) (.type "list")
  | tup {a : Addr} {xs : List V} (e : H a = some (.tup xs)) : TyOf K H (.ref a) (.type "tuple")
  | dK {a : Addr} {kvs : List (Key × V)} (e : H a = some (.dK kvs)) : TyOf K H (.ref a) (.type "dict")
  | dT {a : Addr} {kvs : List (List Key × V)} (e : H a = some (.dT kvs)) : TyOf K H (.ref a) (.type "dict")
  | ins {a C dx : Addr} {fs : List (Str × V)} (e : H a = some (.ins C dx fs)) (cl : Cls K C) (ha : PySem.W.findIn K (.ref C) "__class__" = some (some (.builtin "object.__class__")))
      (hn : PySem.W.specialIn K (.builtin "object.__class__") "__get__" = some (some (.builtin "getset_descriptor.__get__"))) (htk : PySem.W.takesIn K (.builtin "object.__class__") = some true)
      (hm : PySem.W.mroIn K C (.type "object") = some true) : TyOf K H (.ref a) (.ref C)
/-- isinstance(x, c) for one class c, a built-in or an own one: kitOne's answer -/
theorem isinst_ok {x : V} {u t : Value} (I : Inv X pins σ H s) (rx : RelV x u) (ty : TyOf X.K H x t) (e : PySem.W.kitOne X.K t c = some b) (h : ∀ tk, Q (.bool b) { s with toks := tk }) :
    wpAny (model X.prog X.w) A (call (.builtin "isinstance") [u, c]) Q E s := by
  cases ty with
  | non => cases (show u = Value.none from rx); exact PySem.W.kia_one PySem.W.kitx_none I.kIn True.intro e (fun z => nomatch z) h
  | bl y => cases (show u = Value.bool y from rx); exact PySem.W.kia_one PySem.W.kitx_bool I.kIn True.intro e (fun z => nomatch z) h
  | int i => obtain ⟨t, q⟩ := (show ∃ t, u = Value.int i t from rx); cases q; exact PySem.W.kia_one PySem.W.kitx_int I.kIn True.intro e (fun z => nomatch z) h
  | str y => obtain ⟨t, q⟩ := (show ∃ t, u = Value.str y t from rx); cases q; exact PySem.W.kia_one PySem.W.kitx_str I.kIn True.intro e (fun z => nomatch z) h
  | flt y => obtain ⟨t, q⟩ := (show ∃ t, u = Value.float y t from rx); cases q; exact PySem.W.kia_one PySem.W.kitx_float I.kIn True.intro e (fun z => nomatch z) h
  | @lst a xs ea =>
    cases (show u = Value.ref a from rx)
    obtain ⟨_, _, n, _, h1⟩ := (show ObjOk X.prog X.w H s.heap a (.lst xs) from I.hok a _ ea)
    exact PySem.W.kia_one PySem.W.kitx_list I.kIn ⟨_, h1, rfl⟩ e (fun z => nomatch z) h
  | @frz a ob xs ea =>
    cases (show u = Value.ref a from rx)
    obtain ⟨_, _, _, n, _, h1⟩ := (show ObjOk X.prog X.w H s.heap a (.frz ob (.lst xs)) from I.hok a _ ea)
    exact PySem.W.kia_one PySem.W.kitx_list I.kIn ⟨_, h1, rfl⟩ e (fun z => nomatch z) h
  | @tup a xs ea =>
    cases (show u = Value.ref a from rx)
    obtain ⟨_, _, _, p⟩ := (show ObjOk X.prog X.w H s.heap a (.tup xs) from I.hok a _ ea)
    obtain ⟨o, h1, h2, _⟩ := p
    exact PySem.W.kia_one PySem.W.kitx_tuple I.kIn ⟨o, h1, h2⟩ e (fun z => nomatch z) h
  | @dK a kvs ea =>
    cases (show u = Value.ref a from rx)
    obtain ⟨_, _, vs, _, p⟩ := (show ObjOk X.prog X.w H s.heap a (.dK kvs) from I.hok a _ ea)
    obtain ⟨o, es, ep, h1, h2, _⟩ := p
    exact PySem.W.kia_one PySem.W.kitx_dict I.kIn ⟨o, h1, h2.1⟩ e (fun z => nomatch z) h
  | @dT a kvs ea =>
    cases (show u = Value.ref a from rx)
    obtain ⟨_, _, xs, _, o, es, ep, h1, h2, _⟩ := (show ObjOk X.prog X.w H s.heap a (.dT kvs) from I.hok a _ ea)
    exact PySem.W.kia_one PySem.W.kitx_dict I.kIn ⟨o, h1, h2.1⟩ e (fun z => nomatch z) h
  | @ins a C dx fs ea cl ha hn htk hm =>
    cases (show u = Value.ref a from rx)
    obtain ⟨mA, O, _⟩ := ins_get I.hok ea
    obtain ⟨od, J, _⟩ := O.look
    exact PySem.W.kia_one (PySem.W.kitx_own (cl.get _) cl.hd ha hn htk hm) I.kIn J e (fun z => nomatch z) h
end
end L2

namespace L2
open PySem PySem.Spec PyProof.Rows

/-! ### room -/
structure Room (k : Nat) (A : Around) : Prop where
  hd : A.handled = none
  dp : A.depth + 3 * k + 5 < recursionLimit
  un : A.units + 16 * k + 200 < cLine
theorem Room.mono {j k : Nat} {A : Around} (r : Room k A) (h : j ≤ k) : Room j A := ⟨r.hd, by have := r.dp; omega, by have := r.un; omega⟩
theorem Room.deeper {k : Nat} {A : Around} (r : Room (k + 1) A) (env : Env) : Room k (A.deeper env) :=
  ⟨r.hd, by have := r.dp; show A.depth + 1 + 3 * k + 5 < _; omega, by have := r.un; show A.units + 3 + 16 * k + 200 < _; omega⟩
theorem Room.in1 {k : Nat} {A : Around} (r : Room (k + 1) A) : Room k A.in1 :=
  ⟨r.hd, by have := r.dp; show A.depth + 3 * k + 5 < _; omega, by have := r.un; show A.units + 1 + 16 * k + 200 < _; omega⟩
theorem make_depth {A : Around} {C : Addr} {us : List Value} {kw : List (Str × Value)} : (A.under (.builtin "type.__call__" ⟨.ref C :: us, kw⟩)).depth = A.depth + 1 := by
  first | rfl | simp [Around.under, Code.weight, Code.isCreation, Code.isGuard, Code.isCaller, Code.frames, Code.isFrame, guardIds]
theorem make_units {A : Around} {C : Addr} {us : List Value} {kw : List (Str × Value)} : (A.under (.builtin "type.__call__" ⟨.ref C :: us, kw⟩)).units = A.units + 1 := by
  first | rfl | simp [Around.under, Code.cUnits, Code.frames, Code.isFrame]
theorem Room.make {k : Nat} {A : Around} (r : Room (k + 1) A) (C : Addr) (us : List Value) (kw : List (Str × Value)) : Room k (A.under (.builtin "type.__call__" ⟨.ref C :: us, kw⟩)) :=
  ⟨r.hd, by have := r.dp; rw [make_depth]; omega, by have := r.un; rw [make_units]; omega⟩
theorem Room.depth {k : Nat} {A : Around} (r : Room k A) : A.depth < recursionLimit := by have := r.dp; omega
theorem Room.units {k : Nat} {A : Around} (r : Room k A) : A.units + 64 < cLine := by have := r.un; omega
/-! ### argument lists and displays -/
def tNil : TA := fun _ H Q => Q [] H
def tCons (ta : TE) (tr : TA) : TA := fun σ H Q => ta σ H fun x H1 => tr σ H1 fun xs H2 => Q (x :: xs) H2
section
variable {X : Cx} {e : Expr} {es : List Expr} {te : TE} {t : TA} {pos : Pos}
theorem pa_nil : PA X [] tNil := fun _ _ _ _ H Q I h => Calls.spliced_nil ⟨[], H, I, .nil, h⟩
theorem pa_cons (ha : PE X e te) (hr : PA X es t) (hs : starEach (e :: es) X.env = (false, eval e X.env) :: starEach es X.env := by rfl) : PA X (e :: es) (tCons te t) := by
  intro pos pins s σ H Q I h
  rw [hs]
  show wpAny _ _ (spliced ((false, eval e X.env) :: backTo pos (starEach es X.env))) _ _ s
  refine Calls.spliced_cons (thn (ha pins s σ H _ I h) fun u s1 ⟨x, H1, I1, r1, q1⟩ => ?_)
  exact thn (hr pos pins s1 σ H1 _ I1 q1) fun us s2 ⟨xs, H2, I2, r2, q2⟩ => ⟨x :: xs, H2, I2, .cons r1 r2, q2⟩

/-- a tuple, a list of written items -/
def tTup (t : TA) : TE := fun σ H Q => t σ H fun xs H1 => xs.length ≤ sizeLine ∧ ∀ p, H1 p = none → Q (.ref p) (upd H1 p (.tup xs))
def tLst (t : TA) : TE := fun σ H Q => t σ H fun xs H1 => xs.length ≤ sizeLine ∧ ∀ p, H1 p = none → Q (.ref p) (upd H1 p (.lst xs))
theorem pe_tup {x1} (h : PA X es t) : PE X (.Tuple es x1 pos) (tTup t) := by
  intro pins s σ H Q I hq
  refine wpAny_Tuple_spliced (thn (h pos pins s σ H _ I hq) fun us s1 ⟨xs, H1, I1, r, z, q⟩ => ⟨by rw [← r.length]; exact z, ?_⟩)
  have hf : H1 s1.heap.objs.size = none := I1.hok.fresh (Nat.le_refl _)
  refine ⟨.ref s1.heap.objs.size, upd H1 s1.heap.objs.size (.tup xs), I1.laid (t' := s1.toks) (fun b u e => Heap.get?_push_of_some _ e) (Nat.le_refl _) ?_, rfl, q _ hf⟩
  exact ⟨z, us, r, ⟨_, Heap.get?_push_size _ rfl, rfl, _, rfl⟩⟩
theorem pe_lst (h : PA X es t) : PE X (.List es pos) (tLst t) := by
  intro pins s σ H Q I hq
  refine wpAny_List_spliced (thn (h pos pins s σ H _ I hq) fun us s1 ⟨xs, H1, I1, r, z, q⟩ => ⟨by rw [← r.length]; exact z, ?_⟩)
  have hf : H1 s1.heap.objs.size = none := I1.hok.fresh (Nat.le_refl _)
  refine ⟨.ref s1.heap.objs.size, upd H1 s1.heap.objs.size (.lst xs), I1.laid (t' := s1.toks) (fun b u e => Heap.get?_push_of_some _ e) (Nat.le_refl _) ?_, rfl, q _ hf⟩
  exact ⟨z, us, 0, r, Heap.get?_push_size _ rfl⟩
end

/-! ### what a def promises -/
/-- a def's promise: the bound arguments in the parameters' order, the heap, the wanted end, the wanted exception -/
abbrev Sp := List V → Hp → VK → XK → Prop
/-- how an exception lies behind a call (file 08 gives it): the callers' frames, abstract heap and state ahead of the call, the wish, the exception, the state -/
abbrev CXT := List Env → Hp → Shared → XK → Value → Shared → Prop

/-- the state at a call -/
structure Env0 (P : Program) (w : World) (K : PySem.W.Frag) (mg : Str → Option Value) (base : Heap) (A : Around) (outer : List Env) (s : Shared) (H : Hp) : Prop where
  frames : A.frames = some outer
  mod : Mod K mg base
  bs : ∀ b o, base.get? b = some o → s.heap.get? b = some o ∧ H b = none
  bsz : base.objs.size ≤ s.heap.objs.size
  funs : s.heap.FunFrames base outer
  frf : ∀ b ∈ frs outer, H b = none
  hok : HOk P w H s.heap
  bare : AllBare s.gens
/-- a call's end -/
def CE (outer : List Env) (P : Program) (w : World) (H : Hp) (s : Shared) (Q : VK) (u : Value) (s' : Shared) : Prop :=
  ∃ v H', s'.os = s.os ∧ AllBare s'.gens ∧ Un (frs outer) [] H H' s.heap s'.heap ∧ HOk P w H' s'.heap ∧ RelV v u ∧ Q v H'
def CR (CX : CXT) (outer : List Env) (P : Program) (w : World) (H : Hp) (s : Shared) (Q : VK) (E : XK) (r : Result) (s' : Shared) : Prop :=
  match r with
  | .ok (.ret u) => CE outer P w H s Q u s'
  | .ok _ => False
  | .error e => CX outer H s E e s'
structure FnOk (P : Program) (w : World) (K : PySem.W.Frag) (mg : Str → Option Value) (base : Heap) (CX : CXT) (k : Nat) (f : Addr) (fd : FuncData) (ps : List Str) (sp : Sp) : Prop where
  len : ∀ vs H Q E, sp vs H Q E → vs.length = ps.length
  run : ∀ (A : Around) (outer : List Env) (s : Shared) (H : Hp) (args : Args) (us : List Value) (vs : List V) (Q : VK) (E : XK), Room k A → Env0 P w K mg base A outer s H → BindsTo s fd args (ps.zip us) → Vals vs us → sp vs H Q E →
    codeAny (model P w) A (.call (.ref f) args) (CR CX outer P w H s Q E) s
theorem FnOk.mono {P : Program} {w : World} {K : PySem.W.Frag} {mg : Str → Option Value} {base : Heap} {CX : CXT} {j k : Nat} {f : Addr} {fd : FuncData} {ps : List Str} {sp : Sp} (F : FnOk P w K mg base CX j f fd ps sp) (h : j ≤ k) :
    FnOk P w K mg base CX k f fd ps sp := ⟨F.len, fun A outer s H args us vs Q E hr => F.run A outer s H args us vs Q E (hr.mono h)⟩
theorem Env0.make {P : Program} {w : World} {K : PySem.W.Frag} {mg : Str → Option Value} {base : Heap} {A : Around} {outer : List Env} {s : Shared} {H : Hp} (e : Env0 P w K mg base A outer s H) (C : Addr) (us : List Value) (kw : List (Str × Value)) :
    Env0 P w K mg base (A.under (.builtin "type.__call__" ⟨.ref C :: us, kw⟩)) outer s H := ⟨by first | exact e.frames | (simpa [Around.under, Code.envs, Code.isFrame, pushEnvs] using e.frames), e.mod, e.bs, e.bsz, e.funs, e.frf, e.hok, e.bare⟩
theorem Env0.in1 {P : Program} {w : World} {K : PySem.W.Frag} {mg : Str → Option Value} {base : Heap} {A : Around} {outer : List Env} {s : Shared} {H : Hp} (e : Env0 P w K mg base A outer s H) :
    Env0 P w K mg base A.in1 outer s H := ⟨e.frames, e.mod, e.bs, e.bsz, e.funs, e.frf, e.hok, e.bare⟩

section
variable {X : Cx} {pins : List (Addr × Obj)} {σ : St} {H : Hp} {s s' : Shared}
/-- from a body: what a callee wants -/
theorem Inv.env0 (I : Inv X pins σ H s) : Env0 X.prog X.w X.K X.mg X.base X.A X.stack s H :=
  ⟨I.ok.frames, I.ok.mod, I.bs, Nat.le_trans I.ok.bsz I.sz, I.stack, I.stkFree, I.hok, I.bare⟩
/-- behind a call -/
theorem Inv.after {Q : VK} {u : Value} (I : Inv X pins σ H s) (h : CE X.stack X.prog X.w H s Q u s') : EP X pins σ Q u s' := by
  obtain ⟨v, H', os, bare, un, hok, r, q⟩ := h
  obtain ⟨hh, g, d, t, os'⟩ := s'
  obtain rfl : os' = s.os := os
  exact ⟨v, H', I.call (h' := hh) (g' := g) (d' := d) (t' := t) (ch := []) un hok bare (fun b z => absurd z (by simp)), r, q⟩
end

/-! ### calls -/
/-- f(..): the written arguments, then the defaults dvs; E: what is wanted of an exception -/
def tCall (sp : Sp) (dvs : List V) (E : XK) (t : TA) : TE := fun σ H Q => t σ H fun vs H1 => sp (vs ++ dvs) H1 Q E
/-- how the parameters are bound: us the positional arguments, kw the keywords' values by name, ds the defaults that fill up -/
def Binds (K : PySem.W.Frag) (fd : FuncData) (ps : List Str) (ds : List Value) : Prop :=
  ∀ (s : Shared) (us : List Value), K.In s.heap → (us ++ ds).length = ps.length → BindsTo s fd ⟨us, []⟩ (ps.zip (us ++ ds))
/-- every parameter is given -/
theorem Binds.all {K : PySem.W.Frag} {fd : FuncData} {ps : List Str} (h : ∀ us : List Value, us.length = ps.length → bindArgs fd ⟨us, []⟩ = pure (ps.zip us)) : Binds K fd ps [] := fun s us _ hl => by
  rw [List.append_nil] at hl ⊢
  exact .of_eq (h us hl)

/-- an exception of a callee reaches what this body wants of exceptions -/
def Passes (CX : CXT) (X : Cx) (E : XK) : Prop := ∀ (pins : List (Addr × Obj)) (σ : St) (H : Hp) (s : Shared) (e : Value) (s' : Shared), Inv X pins σ H s → CX X.stack H s E e s' → X.xe e s'

section
variable {X : Cx} {CX : CXT} {k : Nat} {f C : Addr} {fd : FuncData} {ps : List Str} {sp : Sp} {dvs : List V} {ds : List Value} {E : XK} {x m : Str} {p pos apos : Pos} {e o : Expr} {es : List Expr} {ta : TE} {t : TA}

/-- the callee runs -/
theorem run_fn {pins : List (Addr × Obj)} {σ : St} {H : Hp} {s : Shared} {Q : VK} {us : List Value} {vs : List V} (F : FnOk X.prog X.w X.K X.mg X.base CX k f fd ps sp) (hr : Room k X.A) (hb : Binds X.K fd ps ds) (hd : Vals dvs ds) (hx : Passes CX X E)
    (I : Inv X pins σ H s) (r : Vals vs us) (h : sp (vs ++ dvs) H Q E) : wpAny (model X.prog X.w) X.A (call (.ref f) us) (EP X pins σ Q) X.xe s := by
  have r2 : Vals (vs ++ dvs) (us ++ ds) := r.append hd
  have hl : (us ++ ds).length = ps.length := by rw [← r2.length]; exact F.len _ _ _ _ h
  refine wpAny_call (codeAny_mono (F.run X.A X.stack s H ⟨us, []⟩ (us ++ ds) (vs ++ dvs) Q E hr I.env0 (hb s us I.kIn hl) r2 h) fun r s' hq => ?_)
  cases r with
  | error e => exact hx pins σ H s e s' I hq
  | ok fl =>
    cases fl with
    | ret u => exact I.after hq
    | next => exact False.elim hq
    | brk => exact False.elim hq
    | cont => exact False.elim hq

theorem pe_call (F : FnOk X.prog X.w X.K X.mg X.base CX k f fd ps sp) (hr : Room k X.A) (hg : Gl X x) (hm : X.mg x = some (.ref f)) (hk : PySem.W.keepIn X.K (.ref f) = true) (hb : Binds X.K fd ps ds) (hd : Vals dvs ds) (hx : Passes CX X E)
    (ha : PA X (e :: es) t) (hdb : (x == ("__debug__" : Str)) = false := by decide) (he : starEach (e :: es) X.env = (false, eval e X.env) :: starEach es X.env := by rfl) (hpl : (backTo pos (starEach es X.env)).any (·.1) = false := by rfl) :
    PE X (.Call (.Name x p) (e :: es) [] pos) (tCall sp dvs E t) := by
  intro pins s σ H Q I h
  refine wpAny_Call_Name_kw (ld_glob I hg hm ?_ hdb)
  refine PySem.W.callWith_K (h₀ := X.base) I.ok.mod.kin hk (thn (ha pos pins s σ H _ I h) fun us s1 ⟨vs, H1, I1, r, q⟩ => ⟨I1.kIn, ?_⟩) he hpl
  exact run_fn F hr hb hd hx I1 r q
theorem pe_call0 (F : FnOk X.prog X.w X.K X.mg X.base CX k f fd ps sp) (hr : Room k X.A) (hg : Gl X x) (hm : X.mg x = some (.ref f)) (hk : PySem.W.keepIn X.K (.ref f) = true) (hb : Binds X.K fd ps ds) (hd : Vals dvs ds) (hx : Passes CX X E)
    (hdb : (x == ("__debug__" : Str)) = false := by decide) : PE X (.Call (.Name x p) [] [] pos) (tCall sp dvs E tNil) := by
  intro pins s σ H Q I h
  refine wpAny_Call_Name_kw (ld_glob I hg hm ?_ hdb)
  exact PySem.W.callWith_K0 I.kIn hk (run_fn (us := []) F hr hb hd hx I .nil h)

/-- what a class must have to be made -/
structure Mk (K : PySem.W.Frag) (C f : Addr) : Prop where
  makes : PySem.W.makesIn K C = true
  init : PySem.W.findIn K (.ref C) "__init__" = some (some (.ref f))
  fn : PySem.W.isFn K (.ref f) = true
  kp : PySem.W.keepIn K (.ref C) = true

end

/-! ### keywords -/
section
variable {X : Cx} {CX : CXT} {k : Nat} {f C : Addr} {fd : FuncData} {ps ks : List Str} {sp : Sp} {E : XK} {x m : Str} {p pos apos kpos : Pos} {e o : Expr} {es : List Expr} {kws : List Keyword} {te ta : TE} {t tk : TA} {nm : Option Str}
/-- how a call with keywords binds: g puts the positional values us and the keywords' values ws (names ks) in the parameters' order, defaults among them -/
structure KBinds (K : PySem.W.Frag) (fd : FuncData) (ps ks : List Str) (g : List Value → List Value → List Value) (gV : List V → List V → List V) : Prop where
  to : ∀ (s : Shared) (us ws : List Value), K.In s.heap → (g us ws).length = ps.length → BindsTo s fd ⟨us, ks.zip ws⟩ (ps.zip (g us ws))
  rel : ∀ {vs : List V} {us : List Value} {zs : List V} {ws : List Value}, Vals vs us → Vals zs ws → Vals (gV vs zs) (g us ws)
variable {g : List Value → List Value → List Value} {gV : List V → List V → List V}
end

/-! ### a def's body keeps its promise -/
/-- names: the parameters first -/
structure FnScope (N P : List Str) (sc : Scope) : Prop where
  kind : sc.kind = .function
  co : sc.isCoroutine = false
  gen : sc.isGenerator = false
  nd : N.Nodup
  pre : N.take P.length = P
  par : ∀ x ∈ P, sc.names.lookup x = some .local ∨ sc.names.lookup x = some .cell
  nofree : ∀ y ∈ sc.names, y.2 ≠ .free

theorem bindL_out {kindOf : Str → Option NameKind} {x : Str} : ∀ {binds : List (Str × Value)} {m : Str → Option Value}, (∀ v, (x, v) ∉ binds) → bindL kindOf binds m x = m x
  | [], _, _ => rfl
  | (n, v) :: r, m, h => by
    unfold bindL
    rw [bindL_out fun w hw => h w (List.mem_cons_of_mem _ hw)]
    split
    · have : x ≠ n := by rintro rfl; exact h v List.mem_cons_self
      simp [this]
    · rfl
theorem bindC_out {kindOf : Str → Option NameKind} {x : Str} : ∀ {binds : List (Str × Value)} {m : Str → Option Value}, (∀ v, (x, v) ∉ binds) → bindC kindOf binds m x = m x
  | [], _, _ => rfl
  | (n, v) :: r, m, h => by
    unfold bindC
    rw [bindC_out fun w hw => h w (List.mem_cons_of_mem _ hw)]
    split
    · rfl
    · have : x ≠ n := by rintro rfl; exact h v List.mem_cons_self
      simp [this]
theorem bindL_get {kindOf : Str → Option NameKind} {x : Str} {v : Value} : ∀ {P : List Str} {vs : List Value} {i : Nat} {m : Str → Option Value}, P.Nodup → P[i]? = some x → vs[i]? = some v → kindOf x = some .local →
    bindL kindOf (P.zip vs) m x = some v
  | [], _, _, _, _, h, _, _ => by simp at h
  | _ :: _, [], _, _, _, _, h, _ => by simp at h
  | p :: P, w :: vs, 0, m, nd, h1, h2, hk => by
    simp at h1 h2; subst h1; subst h2
    show bindL kindOf ((p, w) :: P.zip vs) m p = _
    unfold bindL
    rw [bindL_out fun v hv => (List.nodup_cons.mp nd).1 (List.of_mem_zip hv).1, if_pos hk]
    simp
  | p :: P, w :: vs, i + 1, m, nd, h1, h2, hk => by
    show bindL kindOf ((p, w) :: P.zip vs) m x = _
    unfold bindL
    exact bindL_get (i := i) (List.nodup_cons.mp nd).2 (by simpa using h1) (by simpa using h2) hk
theorem bindC_get {kindOf : Str → Option NameKind} {x : Str} {v : Value} : ∀ {P : List Str} {vs : List Value} {i : Nat} {m : Str → Option Value}, P.Nodup → P[i]? = some x → vs[i]? = some v → kindOf x ≠ some .local →
    bindC kindOf (P.zip vs) m x = some v
  | [], _, _, _, _, h, _, _ => by simp at h
  | _ :: _, [], _, _, _, _, h, _ => by simp at h
  | p :: P, w :: vs, 0, m, nd, h1, h2, hk => by
    simp at h1 h2; subst h1; subst h2
    show bindC kindOf ((p, w) :: P.zip vs) m p = _
    unfold bindC
    rw [bindC_out fun v hv => (List.nodup_cons.mp nd).1 (List.of_mem_zip hv).1, if_neg hk]
    simp
  | p :: P, w :: vs, i + 1, m, nd, h1, h2, hk => by
    show bindC kindOf ((p, w) :: P.zip vs) m x = _
    unfold bindC
    exact bindC_get (i := i) (List.nodup_cons.mp nd).2 (by simpa using h1) (by simpa using h2) hk

/-- the names' values at the entry -/
def start (N : List Str) (vs : List V) : St := vs.map some ++ List.replicate (N.length - vs.length) none

/-- the context of a def's body, at its entry; an exception leaves the frame, then lies as CX says -/
def cxOf (CX : CXT) (P : Program) (w : World) (K : PySem.W.Frag) (mg : Str → Option Value) (base : Heap) (N : List Str) (qual : Str) (scope : Scope) (f : Addr) (cd : Value) (A : Around) (outer : List Env) (s : Shared) (H : Hp) (E : XK) : Cx where
  prog := P
  w := w
  K := K
  mg := mg
  base := base
  A := A.deeper (envOfC qual scope s.heap.objs.size f cd)
  N := N
  s_0 := s
  H_0 := H
  env := envOfC qual scope s.heap.objs.size f cd
  outer := outer
  stack := envOfC qual scope s.heap.objs.size f cd :: outer
  ex := []
  calm := true
  fn := fun _ => true
  pn := []
  xe := fun e s' => wpAny (model P w) (A.deeper (envOfC qual scope s.heap.objs.size f cd)) (leaving (envOfC qual scope s.heap.objs.size f cd) e) (fun _ s'' => CX outer H s E e s'') (fun e' s'' => CX outer H s E e' s'') s'

theorem cell_has {sc : Scope} {n : Nat} {x : Str} (h : sc.names.lookup x = some .cell) : ∃ c, (cellsFrom n sc.names []).lookup x = some c := by
  have q := PySem.W.cellsFrom_some sc.names n [] (.inl h)
  exact Option.isSome_iff_exists.mp q

theorem inv_start {CX : CXT} {P : Program} {w : World} {K : PySem.W.Frag} {mg : Str → Option Value} {base : Heap} {N ps : List Str} {qual : Str} {scope : Scope} {f : Addr} {cd : Value} {A : Around} {outer : List Env} {s s1 : Shared} {H : Hp} {E : XK} {us : List Value} {vs : List V}
    (S : FnScope N ps scope) (hd : A.handled = none) (e0 : Env0 P w K mg base A outer s H) (hl : vs.length = ps.length) (r : Vals vs us)
    (x : InCallC s s.heap.objs.size (bindL (envOfC qual scope s.heap.objs.size f cd).kindOf (ps.zip us) fun _ => none) (cellsFrom (s.heap.objs.size + 1) scope.names []) (bindC (envOfC qual scope s.heap.objs.size f cd).kindOf (ps.zip us) fun _ => none) s1) :
    Inv (cxOf CX P w K mg base N qual scope f cd A outer s H E) [] (start N vs) H s1 := by
  have hpl : ps.length ≤ N.length := by have := congrArg List.length S.pre; rw [List.length_take] at this; omega
  obtain ⟨h1, tk, rfl, hk⟩ := x.done
  have noA : ∀ b : Addr, b ∉ (cxOf CX P w K mg base N qual scope f cd A outer s H E).ex := fun b z => absurd (show b ∈ ([] : List Addr) from z) (by simp)
  refine ⟨⟨e0.mod, S.kind, rfl, rfl, Nat.le_refl _, fun y z c h1 h2 => ?_, fun y hy => ?_, fun y c _ h => ?_, fun _ => hd, Around.frames_deeper e0.frames, .inr ⟨rfl, rfl⟩, fun b z => absurd z (noA b), e0.bs, e0.bsz, fun b _ _ => noA b, fun b z => absurd z (noA b), e0.funs, e0.frf⟩,
    rfl, e0.bare, Un.kept hk, ⟨_, x.toInCall.ns, fun i y v h1 h2 h3 => ?_⟩, fun y c h => ⟨_, x.cell y c h⟩, e0.hok.fresh (Nat.le_refl _), fun y c h => ?_, fun p hp => absurd (show p ∈ ([] : List (Addr × Obj)) from hp) (by simp), e0.hok.kept hk, ?_⟩
  · exact name_of_addr x.apart (PySem.mem_of_lookup h1) (PySem.mem_of_lookup h2)
  · have hy : scope.names.lookup y = some .cell ∨ scope.names.lookup y = some .free := hy
    rcases hy with hy | hy
    · exact cell_has hy
    · exact absurd rfl (S.nofree _ (PySem.mem_of_lookup hy))
  · exact Nat.le_of_lt (x.above y c (PySem.mem_of_lookup h))
  · have hi : i < vs.length := by
      unfold start at h2
      by_cases hi : i < vs.length
      · exact hi
      · rw [List.getElem?_append_right (by simpa using hi)] at h2
        rw [List.getElem?_replicate] at h2
        split at h2 <;> cases h2
    have ha : vs[i]? = some v := by
      unfold start at h2
      rw [List.getElem?_append_left (by simpa using hi), List.getElem?_map] at h2
      cases e : vs[i]? with
      | none => rw [e] at h2; cases h2
      | some a => rw [e] at h2; cases h2; rfl
    obtain ⟨u, hu, rv⟩ := r.get ha
    have hp : ps[i]? = some y := by
      rw [← S.pre, List.getElem?_take_of_lt (by omega)]; exact h1
    have ndP : ps.Nodup := by rw [← S.pre]; exact S.nd.sublist (List.take_sublist _ _)
    refine ⟨u, rv, ?_⟩
    rcases S.par y (List.mem_of_getElem? hp) with k | k
    · exact .inl ⟨k, bindL_get ndP hp hu k⟩
    · obtain ⟨c, e⟩ := cell_has (n := s.heap.objs.size + 1) k
      refine .inr ⟨.inl k, c, e, ?_⟩
      have q := x.cell y c e
      rw [bindC_get ndP hp hu (by show scope.names.lookup y ≠ _; rw [k]; decide)] at q
      exact q
  · exact e0.hok.fresh (Nat.le_of_lt (x.above y c (PySem.mem_of_lookup h)))
  · unfold start
    show _ = N.length
    rw [List.length_append, List.length_map, List.length_replicate]
    omega

/-- THE RULE: a def (or a method) of the text, by its body. The body's reading t is chosen for each entry; it is run at the parameters' values -/
theorem fn_of {CX : CXT} {P : Program} {w : World} {K : PySem.W.Frag} {mg : Str → Option Value} {base : Heap} {k : Nat} {f : Addr} {name qual : Str} {params : Arguments} {body : List Stmt} {scope : Scope} {dV kV doc pm cdv ct oc : Value} {an od : Option Addr}
    {osl : Array (Option Value)} {N ps : List Str} {sp : Sp} (lk : K.lookup f = some ⟨oc, od, .func (PySem.W.fnOf name qual params body scope dV kV doc pm an cdv ct), osl⟩) (hcd : PySem.W.codeIn K cdv qual = true) (S : FnScope N ps scope)
    (len : ∀ vs H Q E, sp vs H Q E → vs.length = ps.length)
    (hbody : ∀ (A : Around) (outer : List Env) (s : Shared) (H : Hp) (vs : List V) (Q : VK) (E : XK), Room k (A.deeper (envOfC qual scope s.heap.objs.size f cdv)) → sp vs H Q E →
      ∃ t, PSs (cxOf CX P w K mg base N qual scope f cdv A outer s H E) body t ∧ t { nx := fun _ H' => Q .non H', rt := Q } (start N vs) H) :
    FnOk P w K mg base CX (k + 1) f (PySem.W.fnOf name qual params body scope dV kV doc pm an cdv ct) ps sp := by
  refine ⟨len, fun A outer s H args us vs Q E hr e0 hb r hsp => ?_⟩
  have hl := len _ _ _ _ hsp
  have KX : K.In s.heap := e0.mod.kin.keeps fun b o e => (e0.bs b o e).1
  have lim : s.heap.NoLimit := e0.mod.nolimit.keeps fun b o e => (e0.bs b o e).1
  have hkind : ∀ y ∈ ps.zip us, scope.names.lookup y.1 = some .local ∨ (scope.names.lookup y.1 = some .cell ∧ ((cellsFrom (s.heap.objs.size + 1) scope.names []).lookup y.1).isSome = true) := fun ⟨n, v⟩ hy => by
    rcases S.par n (List.of_mem_zip hy).1 with q | q
    · exact .inl q
    · exact .inr ⟨q, PySem.W.cellsFrom_some _ _ _ (.inl q)⟩
  refine codeAny_call_function hr.depth (KX _ _ lk) rfl S.co S.gen rfl (PySem.W.codeRec_of KX hcd) (hb _ _ _ _ ?_)
  refine wpAny_newFunctionEnv_cells S.kind hkind fun env he s1 x => ?_
  subst he
  refine ⟨lim.keeps x.toInCall.keep, codeAny_func ?_⟩
  obtain ⟨t, ht, hq⟩ := hbody A outer s H vs Q E (hr.deeper _) hsp
  have I : Inv (cxOf CX P w K mg base N qual scope f cdv A outer s H E) [] (start N vs) H s1 := inv_start S hr.hd e0 hl r x
  refine wpAny_mono (ht [] s1 (start N vs) H _ I hq) (fun fl s' hs => ?_) fun e s' hs => hs
  have fin : ∀ {σ' : St} {H' : Hp} {v : V} {u : Value}, Inv (cxOf CX P w K mg base N qual scope f cdv A outer s H E) [] σ' H' s' → RelV v u → Q v H' → CE outer P w H s Q u s' :=
    fun {σ' H' v u} J rv q => ⟨v, H', J.os, J.bare, J.base, J.hok, rv, q⟩
  cases fl with
  | ret u =>
    obtain ⟨v, σ', H', J, rv, q⟩ := hs
    exact fin J rv q
  | next =>
    obtain ⟨σ', H', J, q⟩ := hs
    exact fin (v := V.non) (u := Value.none) J rfl q
  | brk =>
    obtain ⟨_, _, _, q⟩ := hs
    exact False.elim q
  | cont =>
    obtain ⟨_, _, _, q⟩ := hs
    exact False.elim q
end L2

namespace L2
open PySem PySem.Spec PyProof.Rows
section
variable {X : Cx} {x : Str} {p pos : Pos} {e : Expr} {es : List Expr} {t : TA} {id T : String} {r : List V → Hp → VK → Prop}

def tCB (r : List V → Hp → VK → Prop) (t : TA) : TE := fun σ H Q => t σ H fun vs H1 => r vs H1 Q
/-- f(e, ..), f a built-in function -/
theorem pe_callB (hc : CallR X (.builtin id) r) (hg : Gl X x) (hm : X.mg x = none) (hv : bootBuiltins x = some (.builtin id)) (ha : PA X (e :: es) t) (hn : x ≠ "__name__" := by decide) (hdb : (x == ("__debug__" : Str)) = false := by decide)
    (he : starEach (e :: es) X.env = (false, eval e X.env) :: starEach es X.env := by rfl) (hpl : (backTo pos (starEach es X.env)).any (·.1) = false := by rfl) : PE X (.Call (.Name x p) (e :: es) [] pos) (tCB r t) := by
  intro pins s σ H Q I h
  refine wpAny_Call_Name_kw (ld_blt I hg hm hv ?_ hn hdb)
  exact PyProof.Rows.callWith_builtin1 (thn (ha pos pins s σ H _ I h) fun us s1 ⟨vs, H1, I1, r1, q1⟩ => hc pins s1 σ H1 vs us Q I1 r1 q1) he hpl
/-- T(e, ..), T a built-in type -/
theorem pe_callTy (hc : CallR X (.type T) r) (hg : Gl X x) (hm : X.mg x = none) (hv : bootBuiltins x = some (.type T)) (ha : PA X (e :: es) t) (hn : x ≠ "__name__" := by decide) (hdb : (x == ("__debug__" : Str)) = false := by decide)
    (he : starEach (e :: es) X.env = (false, eval e X.env) :: starEach es X.env := by rfl) (hpl : (backTo pos (starEach es X.env)).any (·.1) = false := by rfl) : PE X (.Call (.Name x p) (e :: es) [] pos) (tCB r t) := by
  intro pins s σ H Q I h
  refine wpAny_Call_Name_kw (ld_blt I hg hm hv ?_ hn hdb)
  exact PyProof.Rows.callWith_type1 (thn (ha pos pins s σ H _ I h) fun us s1 ⟨vs, H1, I1, r1, q1⟩ => hc pins s1 σ H1 vs us Q I1 r1 q1) he hpl
end
end L2

namespace HT
open PySem PyProof.Rows

section
open PySem.SeqAt
open PySem.AutoSeq1 (wpAny_loadPart')
open PySem.MeetsSeq PySem.MeetsSeq2 PySem.MeetsSeq3

end

section
variable {prog : Program} {w : World} {A : Around} {E : Value → Shared → Prop} {s : Shared}

/-! ### t[a:b], not the whole -/
/-- a slice's bound as a place among n (d where it is left out) -/
def sIx (n d : Nat) : Option Int → Nat
  | none => d
  | some v => if v < 0 then (v + (n : Int)).toNat else min v.toNat n
theorem sIx_nat (n d k : Nat) : sIx n d (some (k : Int)) = min k n := by
  show (if (k : Int) < 0 then ((k : Int) + (n : Int)).toNat else min (k : Int).toNat n) = min k n
  rw [if_neg (by omega), Int.toNat_natCast]
end
end HT

namespace L2
open PySem PySem.Spec PyProof.Rows

/-! ### the parts of a slice -/
abbrev TO := St → Hp → (Option Int → Hp → Prop) → Prop
/-- a slice's part (left out, or an int) -/
def PO (X : Cx) (e : Option Expr) (t : TO) : Prop :=
  ∀ (pins : List (Addr × Obj)) (s : Shared) (σ : St) (H : Hp) (Q : Option Int → Hp → Prop), Inv X pins σ H s → t σ H Q →
    wpAny (model X.prog X.w) X.A (evalPart e X.env) (fun u s' => ∃ o H', Inv X pins σ H' s' ∧ IsPart u o ∧ Q o H') X.xe s
def tNoPart : TO := fun _ H Q => Q none H
def tPart (t : TE) : TO := fun σ H Q => t σ H fun x H1 => ∃ i, x = .int i ∧ Q (some i) H1

section
variable {X : Cx} {e : Expr} {te : TE} {lo hi : Option Expr} {tl th : TO} {pos p2 : Pos}

theorem po_none : PO X none tNoPart := by
  intro pins s σ H Q I h
  rw [evalPart_none]
  exact wpAny_pure ⟨none, H, I, .none, h⟩
theorem po_some (h : PE X e te) : PO X (some e) (tPart te) := by
  intro pins s σ H Q I hw
  rw [evalPart_some]
  refine thn (h pins s σ H _ I hw) fun u s1 ⟨x, H1, I1, r1, q1⟩ => ?_
  obtain ⟨i, rfl, q⟩ := q1
  obtain ⟨t, rfl⟩ := r1
  exact ⟨some i, H1, I1, .int i t, q⟩

/-- what a slice of a value is, by values: the slice object stands at sl -/
def SlR (X : Cx) (r : V → Option Int → Option Int → Hp → VK → Prop) : Prop :=
  ∀ (pins : List (Addr × Obj)) (s : Shared) (σ : St) (H : Hp) (x : V) (v vl vu : Value) (lo hi : Option Int) (sl : Addr) (Q : VK), Inv X pins σ H s → RelV x v → s.heap.IsSliceOf sl vl vu .none → IsPart vl lo → IsPart vu hi → r x lo hi H Q →
    ∃ T id, typeLookup (.type T) "__getitem__" = pure (some (.builtin id)) ∧ s.TypeIs v T ∧ wpAny (model X.prog X.w) X.A (getItem v (.ref sl)) (EP X pins σ Q) X.xe s
theorem SlR.or {r r' : V → Option Int → Option Int → Hp → VK → Prop} (h : SlR X r) (h' : SlR X r') : SlR X (fun x lo hi H Q => r x lo hi H Q ∨ r' x lo hi H Q) := by
  intro pins s σ H x v vl vu lo hi sl Q I rx hs pl pu q
  rcases q with q | q
  · exact h pins s σ H x v vl vu lo hi sl Q I rx hs pl pu q
  · exact h' pins s σ H x v vl vu lo hi sl Q I rx hs pl pu q
def tSl (r : V → Option Int → Option Int → Hp → VK → Prop) (te : TE) (tl th : TO) : TE := fun σ H Q => te σ H fun x H1 => tl σ H1 fun l H2 => th σ H2 fun u H3 => r x l u H3 Q
/-- a[lo:hi], any a -/
theorem pe_slice {r : V → Option Int → Option Int → Hp → VK → Prop} (hr : SlR X r) (he : PE X e te) (hl : PO X lo tl) (hu : PO X hi th) : PE X (.Subscript e (.Slice lo hi none p2) pos) (tSl r te tl th) := by
  intro pins s σ H Q I h
  refine Subscript_ (thn (he pins s σ H _ I h) fun v s1 ⟨x, H1, I1, r1, q1⟩ => ?_)
  refine wpAny_Slice (thn (hl pins s1 σ H1 _ I1 q1) fun vl s2 ⟨l, H2, I2, pl, q2⟩ => thn (hu pins s2 σ H2 _ I2 q2) fun vu s3 ⟨u, H3, I3, pu, q3⟩ => ?_)
  rw [evalPart_none]
  refine wpAny_pure ?_
  have I4 : Inv X pins σ H3 { s3 with heap := s3.heap.push { cls := .type "slice", data := .fields #[vl, vu, .none] } } := I3.kept (t' := s3.toks) fun b ob q => Heap.get?_push_of_some _ q
  obtain ⟨T, id, hT, ht, hg⟩ := hr pins { s3 with heap := s3.heap.push { cls := .type "slice", data := .fields #[vl, vu, .none] } } σ H3 x v vl vu l u s3.heap.objs.size Q I4 r1 (Heap.IsSliceOf.new ..) pl pu q3
  show wpAny (model X.prog X.w) X.A (subscriptTail e (.Slice lo hi none p2) v (.ref s3.heap.objs.size)) (EP X pins σ Q) X.xe { s3 with heap := s3.heap.push { cls := .type "slice", data := .fields #[vl, vu, .none] } }
  exact tail_any (ops := [.ref s3.heap.objs.size, v]) ht hT hg (by with_unfolding_all rfl)

/-- the items of xs[lo:hi] -/
def cutV (xs : List V) (lo hi : Option Int) : List V := (xs.drop (HT.sIx xs.length 0 lo)).take (HT.sIx xs.length xs.length hi - HT.sIx xs.length 0 lo)
theorem cutV_length (xs : List V) (lo hi : Option Int) : (cutV xs lo hi).length ≤ xs.length := by
  unfold cutV
  rw [List.length_take, List.length_drop]
  omega
/-! ### t < u, t + u -/
end
end L2

namespace L2
open PySem PySem.Spec PyProof.Rows

/-! ### places -/
/-- the place that an index of any sign means -/
def ixN (n : Nat) (i : Int) : Option Nat := if 0 ≤ i then (if i < n then some i.toNat else none) else if -(n : Int) ≤ i then some (i + n).toNat else none
def atI {α : Type} (xs : List α) (i : Int) : Option α := (ixN xs.length i).bind fun j => xs[j]?
theorem ixN_seq {n : Nat} {i : Int} {j : Nat} (h : ixN n i = some j) : seqIndex? i n = some j ∧ j < n ∧ -(n : Int) ≤ i ∧ i < n := by
  unfold ixN at h
  by_cases h0 : 0 ≤ i
  · rw [if_pos h0] at h
    by_cases h1 : i < n
    · rw [if_pos h1] at h
      have e : i.toNat = j := Option.some.inj h
      exact ⟨by rw [seqIndex_of h0 h1, e], by omega, by omega, h1⟩
    · rw [if_neg h1] at h; cases h
  · rw [if_neg h0] at h
    by_cases h1 : -(n : Int) ≤ i
    · rw [if_pos h1] at h
      have e : (i + n).toNat = j := Option.some.inj h
      exact ⟨by rw [seqIndex_neg (by omega) h1, e], by omega, h1, by omega⟩
    · rw [if_neg h1] at h; cases h
theorem atI_get {α : Type} {xs : List α} {i : Int} {v : α} (h : atI xs i = some v) : ∃ j, seqIndex? i xs.length = some j ∧ xs[j]? = some v ∧ j < xs.length ∧ -(xs.length : Int) ≤ i ∧ i < xs.length := by
  unfold atI at h
  cases e : ixN xs.length i with
  | none => rw [e] at h; cases h
  | some j =>
    rw [e] at h
    obtain ⟨h1, h2, h3, h4⟩ := ixN_seq e
    exact ⟨j, h1, h, h2, h3, h4⟩
theorem atI_nat {α : Type} {xs : List α} {j : Nat} {v : α} (h : xs[j]? = some v) : atI xs (j : Int) = some v := by
  have hj : j < xs.length := (List.getElem?_eq_some_iff.mp h).1
  have e : ixN xs.length (j : Int) = some j := by
    unfold ixN
    rw [if_pos (by omega), if_pos (by omega)]; simp
  unfold atI; rw [e]; exact h
/-! ### what may be subscripted -/
/-- what stands as an index of a plain subscript -/
def PlainIx (b : Expr) : Prop := ∀ o i, subscripted b false o i = operate [o, i] (getItem o i)
/-- a subscript by values -/
def IxR (X : Cx) (r : R2) : Prop :=
  ∀ (value slice : Expr) (pins : List (Addr × Obj)) (s : Shared) (σ : St) (H : Hp) (x y : V) (v u : Value) (Q : VK), Inv X pins σ H s → RelV x v → RelV y u → r x y H Q →
    subscripted slice false v u = operate [v, u] (getItem v u) → wpAny (model X.prog X.w) X.A (subscriptTail value slice v u) (EP X pins σ Q) X.xe s
/-- a call of a builtin's method by values: the receiver, the arguments -/
def MtR (X : Cx) (id : String) (r : V → List V → Hp → VK → Prop) : Prop :=
  ∀ (pins : List (Addr × Obj)) (s : Shared) (σ : St) (H : Hp) (x : V) (xs : List V) (v : Value) (us : List Value) (Q : VK), Inv X pins σ H s → RelV x v → Vals xs us → r x xs H Q →
    wpAny (model X.prog X.w) X.A (call (.builtin id) (v :: us)) (EP X pins σ Q) X.xe s
section
variable {X : Cx} {a b : Expr} {ta tb : TE} {pos : Pos}
theorem IxR.or {r r' : R2} (h : IxR X r) (h' : IxR X r') : IxR X (fun x y H Q => r x y H Q ∨ r' x y H Q) := by
  intro value slice pins s σ H x y v u Q I rx ry q hs
  rcases q with q | q
  · exact h value slice pins s σ H x y v u Q I rx ry q hs
  · exact h' value slice pins s σ H x y v u Q I rx ry q hs
theorem MtR.or {id : String} {r r' : V → List V → Hp → VK → Prop} (h : MtR X id r) (h' : MtR X id r') : MtR X id (fun x xs H Q => r x xs H Q ∨ r' x xs H Q) := by
  intro pins s σ H x xs v us Q I rx rs q
  rcases q with q | q
  · exact h pins s σ H x xs v us Q I rx rs q
  · exact h' pins s σ H x xs v us Q I rx rs q
/-- a[b] -/
theorem pe_ix {r : R2} (hr : IxR X r) (ha : PE X a ta) (hb : PE X b tb) (hs : PlainIx b) : PE X (.Subscript a b pos) (tOp r ta tb) := by
  intro pins s σ H Q I h
  exact Subscript_ (binT ha hb I h fun v u s2 x y H2 I2 rx ry q => hr a b pins s2 σ H2 x y v u Q I2 rx ry q (hs _ _))

def rIxL (K : PySem.W.Frag) : R2 := fun x y H Q => ∃ p xs i v, x = .ref p ∧ y = .int i ∧ SqL K H p xs ∧ atI xs i = some v ∧ Q v H
def rIxT (K : PySem.W.Frag) : R2 := fun x y H Q => ∃ p xs i v, x = .ref p ∧ y = .int i ∧ SqT K H p xs ∧ atI xs i = some v ∧ Q v H
theorem ix_list : IxR X (rIxL X.K) := by
  intro value slice pins s σ H x y v u Q I rx ry h hs
  obtain ⟨p, xs, i, z, rfl, rfl, hq, he, q⟩ := h
  cases rx
  obtain ⟨t, rfl⟩ := ry
  obtain ⟨its, r, pl, hz⟩ := I.list hq
  obtain ⟨j, h1, h2, h3, h4, h5⟩ := atI_get he
  obtain ⟨w, ew, rw'⟩ := r.get h2
  have hl := r.length
  have hn := line63
  have fin : EP X pins σ Q w s := ⟨z, H, I, rw', q⟩
  by_cases h0 : 0 ≤ i
  · have hj : i.toNat = j := by
      rw [seqIndex_of h0 h5] at h1
      exact Option.some.inj h1
    exact item_listR pl.isList h0 (by omega) (by rw [hj]; simpa using ew) fin hs
  · have hj : (i + (its.toArray.size : Int)).toNat = j := by
      rw [seqIndex_neg (by omega) h4] at h1
      rw [List.size_toArray, ← hl]
      exact Option.some.inj h1
    exact subscriptTail_builtinR (x := w) pl.isList.typeIs slot_list_getitem.lookup
      (wpAny_getItem_list_neg (Q := fun r s' => r = w ∧ EP X pins σ Q r s') pl.isList (by omega) (by rw [List.size_toArray] <;> omega) (by omega) (by rw [hj]; simpa using ew) ⟨rfl, fin⟩) hs
theorem ix_tup : IxR X (rIxT X.K) := by
  intro value slice pins s σ H x y v u Q I rx ry h hs
  obtain ⟨p, xs, i, z, rfl, rfl, hq, he, q⟩ := h
  cases rx
  obtain ⟨t, rfl⟩ := ry
  obtain ⟨its, r, pl, hz⟩ := I.tuple hq
  obtain ⟨j, h1, h2, h3, h4, h5⟩ := atI_get he
  obtain ⟨w, ew, rw'⟩ := r.get h2
  have hl := r.length
  have hn := line63
  have fin : EP X pins σ Q w s := ⟨z, H, I, rw', q⟩
  exact subscriptTail_builtinR (x := w) pl.typeIs slot_tuple_getitem.lookup
    (getItem_tuple (j := j) (Q := fun r s' => r = w ∧ EP X pins σ Q r s') pl (by omega) (by omega) (by rw [List.size_toArray, ← hl]; exact h1) (by simpa using ew) ⟨rfl, fin⟩) hs
/-! ### xs[i] = v, any sign -/
theorem Inv.lst {pins : List (Addr × Obj)} {σ : St} {H : Hp} {s : Shared} {p : Addr} {xs : List V} (I : Inv X pins σ H s) (h : H p = some (.lst xs)) :
    ∃ (its : List Value) (n : Nat), Vals xs its ∧ s.heap.get? p = some { cls := .type "list", data := .seq its.toArray n } ∧ xs.length ≤ sizeLine := by
  obtain ⟨z, its, n, r, e⟩ := I.hok p _ h
  exact ⟨its, n, r, e, z⟩
/-! ### slices -/
theorem slice_bounds (lo hi : Option Int) (n : Nat) : (sliceBounds lo hi none n).1 = ((HT.sIx n 0 lo : Nat) : Int) ∧ (sliceBounds lo hi none n).2.1 = ((HT.sIx n n hi : Nat) : Int) ∧ (sliceBounds lo hi none n).2.2 = 1 := by
  refine ⟨?_, ?_, rfl⟩
  · cases lo with
    | none => simp [sliceBounds, HT.sIx]
    | some i =>
      simp only [sliceBounds, HT.sIx, Option.getD_none, show (1 : Int) > 0 by decide, if_true]
      by_cases h : i < 0
      · simp only [h, if_true] <;> omega
      · simp only [h, if_false] <;> omega
  · cases hi with
    | none => simp [sliceBounds, HT.sIx]
    | some i =>
      simp only [sliceBounds, HT.sIx, Option.getD_none, show (1 : Int) > 0 by decide, if_true]
      by_cases h : i < 0
      · simp only [h, if_true] <;> omega
      · simp only [h, if_false] <;> omega
theorem slicePick_cut (its : List Value) (lo hi : Option Int) : slicePick its.toArray lo hi none = ((its.drop (HT.sIx its.length 0 lo)).take (HT.sIx its.length its.length hi - HT.sIx its.length 0 lo)).toArray := by
  obtain ⟨h1, h2, h3⟩ := slice_bounds lo hi its.toArray.size
  unfold slicePick
  rw [h1, h2, h3]
  simp only [sliceRange_one, pick_run, List.size_toArray] <;> rfl
/-- xs[lo:hi] of a list: a new list -/
def rSlL (K : PySem.W.Frag) : V → Option Int → Option Int → Hp → VK → Prop := fun x lo hi H Q => ∃ a xs, x = .ref a ∧ SqL K H a xs ∧ ∀ p, H p = none → Q (.ref p) (upd H p (.lst (cutV xs lo hi)))
theorem sl_list : SlR X (rSlL X.K) := by
  intro pins s σ H x v vl vu lo hi sl Q I rx hs pl pu h
  obtain ⟨a, xs, rfl, hx, q⟩ := h
  cases rx
  obtain ⟨its, r, ht, hz⟩ := I.list hx
  have hlen := r.length
  refine ⟨"list", _, slot_list_getitem.lookup, ht.isList.typeIs, ?_⟩
  refine wpAny_getItem_list_slice ht.isList hs pl pu .none (by simp) ?_ (by rw [List.size_toArray] <;> omega)
  rw [slicePick_cut, ← hlen]
  refine ⟨.ref s.heap.objs.size, _, I.laid (t' := s.toks) (o := .lst (cutV xs lo hi)) (fun b ob q => Heap.get?_push_of_some _ q) (Nat.le_refl _) ?_, rfl, q _ (I.hok.fresh (Nat.le_refl _))⟩
  exact ⟨Nat.le_trans (cutV_length xs lo hi) hz, _, 0, (r.drop (HT.sIx xs.length 0 lo)).take (HT.sIx xs.length xs.length hi - HT.sIx xs.length 0 lo), Heap.get?_push_size _ rfl⟩

/-! ### in, not in: flat items -/
def flatV : V → Bool
  | .non => true
  | .bl _ => true
  | .int _ => true
  | .str _ => true
  | _ => false
/-- == of flat values -/
def eqV : V → V → Bool
  | .non, .non => true
  | .bl a, .bl b => a == b
  | .bl a, .int b => (if a then 1 else 0) == b
  | .int a, .bl b => a == (if b then 1 else 0)
  | .int a, .int b => a == b
  | .str a, .str b => a == b
  | _, _ => false
theorem eqAt_V {A : Around} {s : Shared} {y x : V} {u v : Value} (ry : RelV y u) (rx : RelV x v) (fy : flatV y = true) (fx : flatV x = true) : SeqAt.EqAt A s u v (eqV y x) := by
  cases y with
  | non =>
    cases ry
    cases x with
    | non => cases rx; exact SeqAt.EqAt.same _
    | bl b => cases rx; exact SeqAt.EqAt.none_bool b
    | int b => obtain ⟨t, rfl⟩ := rx; exact SeqAt.EqAt.none_int b t
    | str b => obtain ⟨t, rfl⟩ := rx; exact SeqAt.EqAt.none_str b t
    | _ => exact absurd (show false = true from fx) Bool.false_ne_true
  | bl a =>
    cases ry
    cases x with
    | non => cases rx; exact SeqAt.EqAt.bool_none a
    | bl b => cases rx; exact SeqAt.EqAt.bool_bool a b
    | int b => obtain ⟨t, rfl⟩ := rx; exact SeqAt.EqAt.bool_int a b t
    | str b => obtain ⟨t, rfl⟩ := rx; exact SeqAt.EqAt.bool_str a b t
    | _ => exact absurd (show false = true from fx) Bool.false_ne_true
  | int a =>
    obtain ⟨t', rfl⟩ := ry
    cases x with
    | non => cases rx; exact SeqAt.EqAt.int_none a t'
    | bl b => cases rx; exact SeqAt.EqAt.int_bool a t' b
    | int b => obtain ⟨t, rfl⟩ := rx; exact SeqAt.EqAt.int_int a t' b t
    | str b => obtain ⟨t, rfl⟩ := rx; exact SeqAt.EqAt.int_str a t' b t
    | _ => exact absurd (show false = true from fx) Bool.false_ne_true
  | str a =>
    obtain ⟨t', rfl⟩ := ry
    cases x with
    | non => cases rx; exact SeqAt.EqAt.str_none a t'
    | bl b => cases rx; exact SeqAt.EqAt.str_bool a t' b
    | int b => obtain ⟨t, rfl⟩ := rx; exact SeqAt.EqAt.str_int a t' b t
    | str b => obtain ⟨t, rfl⟩ := rx; exact SeqAt.EqAt.str_str a t' b t
    | _ => exact absurd (show false = true from fx) Bool.false_ne_true
  | _ => exact absurd (show false = true from fy) Bool.false_ne_true
/-- the items' answers, read off the values (a value's own answer does not lean on its token) -/
def eqU (x : V) (u : Value) : Bool := match u with
  | .none => eqV .non x
  | .bool b => eqV (.bl b) x
  | .int i _ => eqV (.int i) x
  | .str z _ => eqV (.str z) x
  | _ => false
theorem eqU_of {x y : V} {u : Value} (r : RelV y u) (f : flatV y = true) : eqU x u = eqV y x := by
  cases y with
  | non => cases r; rfl
  | bl b => cases r; rfl
  | int i => obtain ⟨t, rfl⟩ := r; rfl
  | str z => obtain ⟨t, rfl⟩ := r; rfl
  | _ => exact absurd (show false = true from f) Bool.false_ne_true
theorem any_eqU {x : V} : ∀ {xs : List V} {us : List Value}, Vals xs us → xs.all flatV = true → us.any (eqU x) = xs.any fun y => eqV y x
  | _, _, .nil, _ => rfl
  | y :: xs, u :: us, .cons r t, f => by
    rw [List.all_cons, Bool.and_eq_true] at f
    rw [List.any_cons, List.any_cons, eqU_of r f.1, any_eqU t f.2]
theorem mem_eqAt {A : Around} {s : Shared} {x : V} {v : Value} (rx : RelV x v) (fx : flatV x = true) : ∀ {xs : List V} {us : List Value}, Vals xs us → xs.all flatV = true → ∀ u ∈ us, SeqAt.EqAt A s u v (eqU x u)
  | _, _, .nil, _ => fun u hu => by cases hu
  | y :: xs, u :: us, .cons r t, f => fun u' hu => by
    rw [List.all_cons, Bool.and_eq_true] at f
    rcases List.mem_cons.mp hu with rfl | hu
    · rw [eqU_of r f.1]; exact eqAt_V r rx f.1 fx
    · exact mem_eqAt rx fx t f.2 u' hu
def inV (x : V) (xs : List V) : Bool := xs.any fun y => eqV y x
/-- x in a list or tuple of flat items -/
def rIn (K : PySem.W.Frag) (neg : Bool) : R2 := fun x y H Q => ∃ p xs, y = .ref p ∧ (SqL K H p xs ∨ SqT K H p xs) ∧ flatV x = true ∧ xs.all flatV = true ∧ Q (.bl (if neg then !inV x xs else inV x xs)) H
theorem op_in_seq : OpR X (compareOp .In) (rIn X.K false) := by
  intro pins s σ H x y v u Q I rx ry h
  obtain ⟨p, xs, rfl, hq, fx, fs, q⟩ := h
  cases ry
  rcases hq with hq | hq
  · obtain ⟨its, r, pl, hz⟩ := I.list hq
    refine SeqAt.in_listAt (eqU x) pl.isList (fun w hw => mem_eqAt rx fx r fs w (by simpa using hw)) ⟨.bl _, H, I, rfl, ?_⟩
    rw [show its.toArray.any (eqU x) = its.any (eqU x) by simp, any_eqU r fs]
    exact q
  · obtain ⟨its, r, pl, hz⟩ := I.tuple hq
    refine SeqAt.in_tupleAt (eqU x) pl (fun w hw => mem_eqAt rx fx r fs w (by simpa using hw)) ⟨.bl _, H, I, rfl, ?_⟩
    rw [show its.toArray.any (eqU x) = its.any (eqU x) by simp, any_eqU r fs]
    exact q
theorem op_notIn_seq : OpR X (compareOp .NotIn) (rIn X.K true) := by
  intro pins s σ H x y v u Q I rx ry h
  obtain ⟨p, xs, rfl, hq, fx, fs, q⟩ := h
  cases ry
  rcases hq with hq | hq
  · obtain ⟨its, r, pl, hz⟩ := I.list hq
    refine SeqAt.notIn_listAt (eqU x) pl.isList (fun w hw => mem_eqAt rx fx r fs w (by simpa using hw)) ⟨.bl _, H, I, rfl, ?_⟩
    rw [show its.toArray.any (eqU x) = its.any (eqU x) by simp, any_eqU r fs]
    exact q
  · obtain ⟨its, r, pl, hz⟩ := I.tuple hq
    refine SeqAt.notIn_tupleAt (eqU x) pl (fun w hw => mem_eqAt rx fx r fs w (by simpa using hw)) ⟨.bl _, H, I, rfl, ?_⟩
    rw [show its.toArray.any (eqU x) = its.any (eqU x) by simp, any_eqU r fs]
    exact q
/-! ### len, list(x), tuple(x) of any list or tuple that is read -/
theorem call_len_seq : CallR X (.builtin "len") (fun xs H Q => ∃ p ys, xs = [.ref p] ∧ (SqL X.K H p ys ∨ SqT X.K H p ys) ∧ Q (.int ys.length) H) := by
  intro pins s σ H xs us Q I r h
  obtain ⟨p, ys, rfl, hq, q⟩ := h
  obtain ⟨u, rfl, rx⟩ := vals1 r
  cases rx
  have hn := line63
  rcases hq with hq | hq
  · obtain ⟨its, r', pl, hz⟩ := I.list hq
    have hlen := r'.length
    exact Calls.call_len_list pl.isList (by simp only [List.size_toArray] <;> omega) ⟨.int ys.length, H, I.tok _, ⟨s.toks + 1, by rw [List.size_toArray, hlen]⟩, q⟩
  · obtain ⟨its, r', pl, hz⟩ := I.tuple hq
    have hlen := r'.length
    exact len_tuple pl (by simp only [List.size_toArray] <;> omega) ⟨.int ys.length, H, I.tok _, ⟨s.toks + 1, by rw [List.size_toArray, hlen]⟩, q⟩
theorem call_len_str : CallR X (.builtin "len") (fun xs H Q => ∃ z, xs = [.str z] ∧ z.length ≤ sizeLine ∧ Q (.int z.length) H) := by
  intro pins s σ H xs us Q I r h
  obtain ⟨z, rfl, hz, q⟩ := h
  obtain ⟨u, rfl, t, rfl⟩ := vals1 r
  have hn := line63
  exact len_str (by omega) ⟨.int z.length, H, I.tok _, ⟨_, rfl⟩, q⟩
theorem CallR.or {f : Value} {r r' : List V → Hp → VK → Prop} (h : CallR X f r) (h' : CallR X f r') : CallR X f (fun xs H Q => r xs H Q ∨ r' xs H Q) := by
  intro pins s σ H xs us Q I rs q
  rcases q with q | q
  · exact h pins s σ H xs us Q I rs q
  · exact h' pins s σ H xs us Q I rs q
theorem call_tuple_of : CallR X (.type "tuple") (fun xs H Q => ∃ p ys, xs = [.ref p] ∧ ((SqL X.K H p ys ∧ ∀ l, H l = none → Q (.ref l) (upd H l (.tup ys))) ∨ (SqT X.K H p ys ∧ Q (.ref p) H))) := by
  intro pins s σ H xs us Q I r h
  obtain ⟨p, ys, rfl, h⟩ := h
  obtain ⟨u, rfl, rx⟩ := vals1 r
  cases rx
  rcases h with ⟨hq, q⟩ | ⟨hq, q⟩
  · obtain ⟨its, r', pl, hz⟩ := I.list hq
    have hlen := r'.length
    refine call_tuple_list pl.isList (fun h' kp => ?_) (by simp only [List.size_toArray] <;> omega)
    have I1 : Inv X pins σ H { s with heap := h' } := I.kept (t' := s.toks) kp
    have I2 : Inv X pins σ (upd H h'.objs.size (.tup ys)) { s with heap := h'.push { cls := .type "tuple", data := .seq its.toArray } } :=
      I1.laid (t' := s.toks) (fun b o e => Heap.get?_push_of_some _ e) (Nat.le_refl _) (show ObjOk X.prog X.w _ _ _ (.tup ys) from ⟨hz, its, r', IsTup.new _ _⟩)
    exact ⟨.ref h'.objs.size, _, I2, rfl, q _ (I1.hok.fresh (Nat.le_refl _))⟩
  · obtain ⟨its, r', pl, hz⟩ := I.tuple hq
    exact call_tuple_same pl ⟨.ref p, H, I, rfl, q⟩

/-! ### the call of a builtin's method: o.m(..) -/
/-- the value is of that builtin type -/
def tyV (K : PySem.W.Frag) (T : String) (x : V) (H : Hp) : Prop := match x with
  | .str _ => T = "str"
  | .int _ => T = "int"
  | .ref p => (T = "list" ∧ ∃ xs, SqL K H p xs) ∨ (T = "tuple" ∧ ∃ o, K.lookup p = some o ∧ o.cls = .type "tuple" ∧ o.dict = none) ∨
      (T = "dict" ∧ ((∃ kvs, H p = some (.dK kvs)) ∨ ∃ kvs, H p = some (.dT kvs))) ∨ (T = "set" ∧ ∃ S n, H p = some (.set S n))
  | _ => False
theorem tyV_is {pins : List (Addr × Obj)} {σ : St} {H : Hp} {s : Shared} {T : String} {x : V} {v : Value} (I : Inv X pins σ H s) (r : RelV x v) (ty : tyV X.K T x H) :
    s.TypeIs v T ∧ ∀ a, v = .ref a → ∃ ob, s.heap.get? a = some ob ∧ ob.dict = none := by
  cases x with
  | str z =>
    obtain ⟨t, rfl⟩ := r
    cases (show T = "str" from ty)
    exact ⟨typeIs_str s z t, fun _ e => nomatch e⟩
  | int i =>
    obtain ⟨t, rfl⟩ := r
    cases (show T = "int" from ty)
    exact ⟨typeIs_int s i t, fun _ e => nomatch e⟩
  | ref p =>
    cases r
    rcases ty with ⟨rfl, xs, hq⟩ | ⟨rfl, o, hk, hc, hd⟩ | ⟨rfl, hk⟩ | ⟨rfl, S, n, hk⟩
    · obtain ⟨its, _, pl, _⟩ := I.list hq
      refine ⟨pl.isList.typeIs, fun a e => ?_⟩
      cases e
      obtain ⟨o, n, e, c, hd, _⟩ := pl
      exact ⟨o, e, hd⟩
    · refine ⟨⟨o, I.kIn p o hk, hc⟩, fun a e => ?_⟩
      cases e
      exact ⟨o, I.kIn _ o hk, hd⟩
    · have z : ∃ o, s.heap.get? p = some o ∧ o.ExactDict := by
        rcases hk with ⟨kvs, hk⟩ | ⟨kvs, hk⟩
        · obtain ⟨_, _, _, _, o, _, _, e, ex, _⟩ := I.hok p _ hk
          exact ⟨o, e, ex⟩
        · obtain ⟨_, _, _, _, o, _, _, e, ex, _⟩ := I.hok p _ hk
          exact ⟨o, e, ex⟩
      obtain ⟨o, e, ex⟩ := z
      refine ⟨⟨o, e, ex.1⟩, fun a e2 => ?_⟩
      cases e2
      exact ⟨o, e, ex.2.1⟩
    · obtain ⟨o, _, _, _, e, ex, _⟩ := I.hok p _ hk
      refine ⟨⟨o, e, ex.1⟩, fun a e2 => ?_⟩
      cases e2
      exact ⟨o, e, ex.2.1⟩
  | _ => exact False.elim ty
def tBM (K : PySem.W.Frag) (T : String) (r : V → List V → Hp → VK → Prop) (to : TE) (t : TA) : TE := fun σ H Q => to σ H fun x H1 => tyV K T x H1 ∧ t σ H1 fun xs H2 => r x xs H2 Q
variable {o e : Expr} {es : List Expr} {to : TE} {t : TA} {name : Str} {apos cpos : Pos} {T id : String} {r : V → List V → Hp → VK → Prop}
theorem pe_bm (pa : PlainAttrs T) (slot : Slot T name id) (hty : typeOf (.builtin id) = pure (.type "method_descriptor")) (hm : MtR X id r) (ho : PE X o to) (ha : PA X (e :: es) t)
    (hbase : attributeBase o name X.env (eval o X.env) = eval o X.env := by rfl)
    (hfew : ((backTo cpos (starEach (e :: es) X.env)).all (fun x => !x.1) && (backToKw cpos (keywordEach [] X.env)).all (fun x => x.1.isSome)
      && decide ((e :: es).length + ([] : List Keyword).length + (if ([] : List Keyword).isEmpty then 0 else 1) < 30)) = true := by rfl)
    (hline : (apos.endLine == cpos.line) = true := by rfl) (hs : starEach (e :: es) X.env = (false, eval e X.env) :: starEach es X.env := by rfl) (hplain : (backTo cpos (starEach es X.env)).any (·.1) = false := by rfl) :
    PE X (.Call (.Attribute o name apos) (e :: es) [] cpos) (tBM X.K T r to t) := by
  intro pins s σ H Q I h
  refine wpAny_Call_method_late hbase hfew hline rfl (thn (ho pins s σ H _ I h) fun v s1 ⟨x, H1, I1, r1, ty, q1⟩ => ?_)
  obtain ⟨h1, h2⟩ := tyV_is I1 r1 ty
  refine ⟨T, id, pa, slot, hty, h1, h2, ?_⟩
  have hA := ha cpos pins s1 σ H1 _ I1 q1
  rw [hs] at hA ⊢
  refine Calls.callWith_builtin (by show (false || (backTo cpos (starEach es X.env)).any (·.1)) = false; rw [hplain] <;> rfl) (Calls.evalArgs_plain ?_)
  exact thn hA fun us s2 ⟨vs, H2, I2, r2, q2⟩ => hm pins s2 σ H2 x vs v us Q I2 r1 r2 q2
/- xs.append(e), list.index on a module's tuple .. are MtR facts of 06m -/
end
end L2

namespace L2
open PySem PySem.Spec PyProof.Rows

def MtM (X : Cx) (id : String) (r : V → List V → Hp → VK → Prop) : Prop :=
  ∀ (pins : List (Addr × Obj)) (s : Shared) (σ : St) (H : Hp) (x : V) (xs : List V) (v : Value) (us : List Value) (Q : VK), Inv X pins σ H s → RelV x v → Vals xs us → r x xs H Q →
    wpAny (model X.prog X.w) X.A (call (.builtin id) (v :: us)) (EP X pins σ Q) X.xe s

/-! ### lists of values -/
theorem Vals.one : ∀ {x : V} {us : List Value}, Vals [x] us → ∃ u, us = [u] ∧ RelV x u
  | _, _, .cons r .nil => ⟨_, rfl, r⟩
theorem Vals.two : ∀ {x y : V} {us : List Value}, Vals [x, y] us → ∃ u v, us = [u, v] ∧ RelV x u ∧ RelV y v
  | _, _, _, .cons r (.cons q .nil) => ⟨_, _, rfl, r, q⟩
theorem Vals.zero : ∀ {us : List Value}, Vals [] us → us = []
  | _, .nil => rfl
theorem Vals.eraseIdx : ∀ {xs : List V} {us : List Value} (i : Nat), Vals xs us → Vals (xs.eraseIdx i) (us.eraseIdx i)
  | _, _, _, .nil => .nil
  | _, _, 0, .cons _ t => t
  | _, _, i + 1, .cons r t => .cons r (Vals.eraseIdx i t)
theorem Vals.reverse {xs : List V} {us : List Value} (h : Vals xs us) : Vals xs.reverse us.reverse := by
  induction h with
  | nil => exact .nil
  | cons r t ih => rw [List.reverse_cons, List.reverse_cons]; exact Vals.append ih (.cons r .nil)
section
variable {X : Cx} {pins : List (Addr × Obj)} {σ : St} {H : Hp} {s : Shared} {l b : Addr} {xs ys zs : List V}

/-! ### the two steps: a tracked list is rewritten, a new list is laid -/
theorem Inv.lset {its its' : List Value} {n : Nat} {f : Array Value → Array Value} {t' : Nat} (I : Inv X pins σ H s) (hH : H l = some (.lst xs))
    (e : s.heap.get? l = some { cls := .type "list", data := .seq its.toArray n }) (hf : f its.toArray = its'.toArray) (hv : Vals ys its') (hz : ys.length ≤ sizeLine) :
    Inv X pins σ (upd H l (.lst ys)) { s with heap := s.heap.update l (Obj.mapSeq f), toks := t' } := by
  have q := PySem.IsL.update e f
  rw [hf] at q
  refine I.write (x := l) (e := l) (by rw [hH]; exact trivial) (.inl rfl) (fun b' u hb hu => (Heap.get?_update_other s.heap (Obj.mapSeq f) (Ne.symm hb)).trans hu) ⟨_, q⟩ ?_
  exact ⟨hz, its', _, hv, q⟩
theorem Inv.lnew {its : List Value} {t' : Nat} (I : Inv X pins σ H s) (hv : Vals ys its) (hz : ys.length ≤ sizeLine) :
    Inv X pins σ (upd H s.heap.objs.size (.lst ys)) { s with heap := s.heap.push { cls := .type "list", data := .seq its.toArray }, toks := t' } :=
  I.laid (fun _ _ q => Heap.get?_push_of_some _ q) (Nat.le_refl _) ⟨hz, its, 0, hv, Heap.get?_push_size _ rfl⟩
theorem Inv.fresh (I : Inv X pins σ H s) : H s.heap.objs.size = none := I.hok.fresh (Nat.le_refl _)
theorem Inv.lstM (I : Inv X pins σ H s) (hH : H l = some (.lst xs)) : xs.length ≤ sizeLine ∧ ∃ (its : List Value) (n : Nat), Vals xs its ∧ xs.length = its.length ∧ s.heap.get? l = some { cls := .type "list", data := .seq its.toArray n } := by
  obtain ⟨z, its, n, r, e⟩ := I.hok l _ hH
  exact ⟨z, its, n, r, r.length, e⟩

end

section
variable {X : Cx}

/-! ### methods -/
def rAppend : V → List V → Hp → VK → Prop := fun x vs H Q => ∃ l xs y, x = .ref l ∧ vs = [y] ∧ H l = some (.lst xs) ∧ xs.length < sizeLine ∧ Q .non (upd H l (.lst (xs ++ [y])))
theorem mt_append : MtM X "list.append" rAppend := by
  intro pins s σ H x vs v us Q I rx rv h
  obtain ⟨l, xs, y, rfl, rfl, hH, hz, q⟩ := h
  cases rx
  obtain ⟨u, rfl, ru⟩ := rv.one
  obtain ⟨z, its, n, r, hl, e⟩ := I.lstM hH
  refine call_meets F.slot_list_append ⟨_, e, rfl⟩ F.entry_list_append (F.args_list_append_2 _ _) (PySem.list_append l its.toArray n u (by rw [List.size_toArray]; omega)) ⟨e, ?_⟩
  refine ⟨.non, _, I.lset (its' := its ++ [u]) hH e (by simp) (r.append (.cons ru .nil)) ?_, rfl, q⟩
  rw [List.length_append, List.length_singleton]
  omega

/-! ### list + list, list += list, list * int -/
def rCat : R2 := fun x y H Q => ∃ l b xs zs, x = .ref l ∧ y = .ref b ∧ H l = some (.lst xs) ∧ H b = some (.lst zs) ∧ xs.length + zs.length ≤ sizeLine ∧ ∀ p, H p = none → Q (.ref p) (upd H p (.lst (xs ++ zs)))
theorem op_cat : OpR X (binaryOp .Add) rCat := by
  intro pins s σ H x y v u Q I rx ry h
  obtain ⟨l, b, xs, zs, rfl, rfl, hH, hB, hz, q⟩ := h
  cases rx
  cases ry
  obtain ⟨z, its, n, r, hl, e⟩ := I.lstM hH
  obtain ⟨z2, its2, n2, r2, hl2, e2⟩ := I.lstM hB
  refine PySem.P.add_list e e2 ?_ (by rw [List.size_toArray, List.size_toArray]; omega)
  have ea : its.toArray ++ its2.toArray = (its ++ its2).toArray := by simp
  rw [ea]
  exact ⟨.ref _, _, I.lnew (t' := s.toks) (r.append r2) (by rw [List.length_append]; omega), rfl, q _ I.fresh⟩
/-! ### del xs[i] -/
end

/-! ### xs[a:b] = ys -/
section
variable {prog : Program} {w : World} {A : Around} {E : Value → Shared → Prop} {s : Shared}
set_option maxRecDepth 100000 in
end

section
variable {X : Cx}
end
end L2

namespace L2
open PySem PySem.Spec PyProof.Rows

theorem Vals.ints : ∀ {ns : List Int} {us : List Value}, Vals (ns.map V.int) us → IntsAre us ns
  | [], us, h => by
    rw [List.map_nil] at h
    cases h
    exact IntsAre.nil
  | n :: ns, us, h => by
    rw [List.map_cons] at h
    cases h with
    | cons r t =>
      obtain ⟨k, rfl⟩ := r
      exact IntsAre.cons n k (Vals.ints t)
theorem Vals.strs : ∀ {xs : List Str} {us : List Value}, Vals (xs.map V.str) us → StrsAre us xs
  | [], us, h => by
    rw [List.map_nil] at h
    cases h
    exact StrsAre.nil
  | x :: xs, us, h => by
    rw [List.map_cons] at h
    cases h with
    | cons r t =>
      obtain ⟨k, rfl⟩ := r
      exact StrsAre.cons x k (Vals.strs t)
theorem vals_of_strs : ∀ {us : List Value} {xs : List Str}, StrsAre us xs → Vals (xs.map V.str) us
  | _, _, .nil => by rw [List.map_nil]; exact Paired.nil
  | _, _, .cons x t h => by rw [List.map_cons]; exact Paired.cons (show RelV (V.str x) (Value.str x t) from ⟨t, rfl⟩) (vals_of_strs h)
theorem Vals.bls : ∀ {bs : List Bool} {us : List Value}, Vals (bs.map V.bl) us → us = bs.map Value.bool
  | [], us, h => by
    rw [List.map_nil] at h
    cases h
    rfl
  | b :: bs, us, h => by
    rw [List.map_cons] at h
    cases h with
    | cons r t =>
      cases r
      rw [Vals.bls t, List.map_cons]
theorem Vals.ref1 {a : Addr} {us : List Value} (r : Vals [V.ref a] us) : us = [Value.ref a] := by
  cases r with
  | cons r t =>
    cases t
    cases r
    rfl
/-! ### the library's walks over a list of ints, kept objects alone -/
section
variable {prog : Program} {w : World} {A : Around} {E : Value → Shared → Prop} {s : Shared} {l : Addr} {its : List Value} {ns : List Int} {Q : Value → Shared → Prop}
end

/-! ### the calls, by values (CallR of 03t; MtR of 06l) -/
section
variable {X : Cx}
/-! sorted, sort (fewer than 64 items: the library's own bound) -/
theorem small64 {n : Nat} (h : n < 64) : n ≤ sizeLine := by rw [sizeLine_eq]; omega
end

/-! ### list.index, flat items -/
section
variable {X : Cx}
end

/-! ### type(x) of an own instance; is, is not of a module's class -/
section
variable {X : Cx}
end

/-! ### any(xs), all(xs) of a list of bools -/
theorem iter_any {prog : Program} {w : World} {A : Around} {E : Value → Shared → Prop} {s : Shared} {l : Addr} {items : Array Value} {Q : Value → Shared → Prop} (hl : s.heap.IsList l items)
    (h : ∀ s₂ : Shared, s₂ = { s with heap := s.heap.push { cls := .type "list_iterator", data := .fields #[.ref l, .int 0 0] } } →
      (s₂.heap.IsListIter s.heap.objs.size l 0 ∧ s₂.heap.IsList l items) → l ≠ s.heap.objs.size → Q (.ref s.heap.objs.size) s₂) : wpAny (model prog w) A (pyIter (.ref l)) Q E s := by
  have hlt : l < s.heap.objs.size := by obtain ⟨_, e, _⟩ := hl; exact Heap.lt_size e
  exact wpAny_pyIter_list hl (h _ rfl ⟨⟨_, Heap.get?_push_size _ rfl, rfl, rfl⟩, hl.push _⟩ (Nat.ne_of_lt hlt))
theorem truth_bools {prog : Program} {w : World} {A : Around} {bs : List Bool} {its : List Value} (e : its = bs.map Value.bool) :
    TruthOf prog w A (fun i v => its.toArray[i]? = some v) (fun i => bs.getD i false) := fun i v s Q E hv hq => by
  have hv' : its[i]? = some v := by simpa using hv
  rw [e, List.getElem?_map] at hv'
  obtain ⟨b, hb, rfl⟩ := Option.map_eq_some_iff.mp hv'
  have hg : bs.getD i false = b := by rw [List.getD_eq_getElem?_getD, hb] <;> rfl
  have hq' : Q (bs.getD i false) s := hq
  rw [hg] at hq'
  exact wpAny_truthy_bool hq'
theorem all_range : ∀ bs : List Bool, (List.range bs.length).all (fun i => bs.getD i false) = bs.all id
  | [] => rfl
  | b :: bs => by
    rw [List.length_cons, List.range_succ_eq_map, List.all_cons, List.all_map, List.all_cons, ← all_range bs]
    all_goals rfl
section
variable {X : Cx}
def rAll (K : PySem.W.Frag) : List V → Hp → VK → Prop := fun vs H Q => ∃ (a : Addr) (bs : List Bool), vs = [V.ref a] ∧ SqL K H a (bs.map V.bl) ∧ Q (.bl (bs.all id)) H
theorem cr_all (hc : X.calm = true) : CallR X (.builtin "all") (rAll X.K) := by
  intro pins s σ H vs us Q I r h
  obtain ⟨a, bs, rfl, hs, q⟩ := h
  obtain ⟨its, rv, hl, _⟩ := I.list hs
  rw [Vals.ref1 r]
  have hb := rv.bls
  refine call_all_walk (iter_any hl.isList fun s₂ e2 st hne => ?_)
  subst e2
  refine ⟨_, _, _, _, _, _, _, rfl, Walks.list (A := X.A.in1) (I.ok.hd hc) _ a hne its.toArray, st, truth_bools hb, fun h' tk hk => ?_⟩
  refine ⟨.bl _, H, I.kept fun b o eo => hk b o (fun hmem => ?_) (Heap.get?_push_of_some _ eo), ?_, q⟩
  · rcases List.mem_cons.mp hmem with e1 | hmem
    · exact absurd (e1 ▸ Heap.lt_size eo) (Nat.lt_irrefl _)
    · cases hmem
  · show Value.bool _ = Value.bool _
    rw [← all_range, hb, List.size_toArray, List.length_map]
end

/-! ### == and != of data at any depth: none, bools, ints, texts, lists, tuples -/
mutual
inductive Dp (K : PySem.W.Frag) (H : Hp) : V → PyData → Prop
  | non : Dp K H .non .none
  | bl (b : Bool) : Dp K H (.bl b) (.bool b)
  | int (i : Int) : Dp K H (.int i) (.int i)
  | str (x : Str) : Dp K H (.str x) (.str x)
  | lst {a : Addr} {xs : List V} {ds : List PyData} : SqL K H a xs → DpAll K H xs ds → Dp K H (.ref a) (.list ds)
  | tup {a : Addr} {xs : List V} {ds : List PyData} : SqT K H a xs → DpAll K H xs ds → Dp K H (.ref a) (.tuple ds)
inductive DpAll (K : PySem.W.Frag) (H : Hp) : List V → List PyData → Prop
  | nil : DpAll K H [] []
  | cons {v : V} {vs : List V} {d : PyData} {ds : List PyData} : Dp K H v d → DpAll K H vs ds → DpAll K H (v :: vs) (d :: ds)
end
section
variable {X : Cx} {pins : List (Addr × Obj)} {σ : St} {H : Hp} {s : Shared}
mutual
theorem Dp.reads (I : Inv X pins σ H s) : ∀ (d : PyData) (v : V) (u : Value), Dp X.K H v d → RelV v u → ∃ as, Reads s.heap u d as
  | .none, _, _, h, r => by
    cases h
    cases r
    exact ⟨_, Reads.none⟩
  | .bool b, _, _, h, r => by
    cases h
    cases r
    exact ⟨_, Reads.bool b⟩
  | .int i, _, _, h, r => by
    cases h
    obtain ⟨t, rfl⟩ := r
    exact ⟨_, Reads.int i t⟩
  | .str x, _, _, h, r => by
    cases h
    obtain ⟨t, rfl⟩ := r
    exact ⟨_, Reads.str x t⟩
  | .list ds, _, _, h, r => by
    cases h with
    | lst hs ha =>
      cases r
      obtain ⟨its, rv, ⟨o, n, ho, hc, _, hd⟩, _⟩ := I.list hs
      obtain ⟨as, hr⟩ := Dp.readsAll I ds _ its ha rv
      exact ⟨_, Reads.list ho hc hd hr⟩
  | .tuple ds, _, _, h, r => by
    cases h with
    | tup hs ha =>
      cases r
      obtain ⟨its, rv, ⟨o, ho, hc, n, hd⟩, _⟩ := I.tuple hs
      obtain ⟨as, hr⟩ := Dp.readsAll I ds _ its ha rv
      exact ⟨_, Reads.tuple ho hc hd hr⟩
  | .dict _, _, _, h, _ => by cases h
theorem Dp.readsAll (I : Inv X pins σ H s) : ∀ (ds : List PyData) (vs : List V) (us : List Value), DpAll X.K H vs ds → Vals vs us → ∃ as, ReadsAll s.heap us ds as
  | [], _, _, h, r => by
    cases h
    cases r
    exact ⟨_, ReadsAll.nil⟩
  | d :: ds, _, _, h, r => by
    cases h with
    | cons h1 h2 =>
      cases r with
      | cons r1 r2 =>
        obtain ⟨as, q1⟩ := Dp.reads I d _ _ h1 r1
        obtain ⟨bs, q2⟩ := Dp.readsAll I ds _ _ h2 r2
        exact ⟨_, ReadsAll.cons q1 q2⟩
end
end
section
variable {X : Cx}
def rEqD (K : PySem.W.Frag) : R2 := fun x y H Q => ∃ d e, Dp K H x d ∧ Dp K H y e ∧ SeqAt.shaped d = true ∧ SeqAt.shaped e = true ∧ Q (.bl (PyData.eqv d e)) H
def rNeD (K : PySem.W.Frag) : R2 := fun x y H Q => ∃ d e, Dp K H x d ∧ Dp K H y e ∧ SeqAt.shaped d = true ∧ SeqAt.shaped e = true ∧ Q (.bl (!PyData.eqv d e)) H
theorem op_eqD (hu : X.A.units + 64 < cLine) : OpR X (compareOp .Eq) (rEqD X.K) := by
  intro pins s σ H x y v u Q I rx ry h
  obtain ⟨d, e, hd, he, sd, se, q⟩ := h
  obtain ⟨as, r1⟩ := Dp.reads I d x v hd rx
  obtain ⟨bs, r2⟩ := Dp.reads I e y u he ry
  exact SeqAt.compareEq_shaped r1 r2 sd se hu ⟨.bl _, H, I, rfl, q⟩
theorem op_neD (hu : X.A.units + 64 < cLine) : OpR X (compareOp .NotEq) (rNeD X.K) := by
  intro pins s σ H x y v u Q I rx ry h
  obtain ⟨d, e, hd, he, sd, se, q⟩ := h
  obtain ⟨as, r1⟩ := Dp.reads I d x v hd rx
  obtain ⟨bs, r2⟩ := Dp.reads I e y u he ry
  exact SeqAt.compareNe_shaped r1 r2 sd se hu ⟨.bl _, H, I, rfl, q⟩
end
end L2

namespace L2
open PySem PySem.Spec PyProof.Rows
abbrev CellAt (h : Heap) (c : Addr) (v : Option Value) : Prop := h.IsCell c v
def relS (scope sc : Scope) : Scope :=
  { scope with names := scope.names.map fun (n, k) => if (k == .free && sc.kind == .function && sc.names.lookup n == some .cell) then (n, .cell) else (n, k) }

def cloFrom (cells : List (Str × Addr)) : List (Str × NameKind) → List (Str × Addr) → List (Str × Addr)
  | [], acc => acc
  | (n, k) :: r, acc => if k == .free then cloFrom cells r ((n, (cells.lookup n).getD 0) :: acc) else cloFrom cells r acc

theorem closure_loop (env : Env) (f : Str × NameKind → List (Str × Addr) → Sem (ForInStep (List (Str × Addr))))
    (hf : ∀ n k c, f (n, k) c = if k == .free then (do let a ← cellOf env n; pure (.yield ((n, a) :: c))) else pure (.yield c)) :
    ∀ (names : List (Str × NameKind)) (acc : List (Str × Addr)), (∀ y ∈ names, y.2 = .free → ∃ c, env.cells.lookup y.1 = some c) → forIn names acc f = pure (cloFrom env.cells names acc)
  | [], acc, _ => by rw [List.forIn_nil]; rfl
  | (n, k) :: r, acc, h => by
    rw [List.forIn_cons, hf]
    have ih := fun acc => closure_loop env f hf r acc fun y hy => h y (List.mem_cons_of_mem _ hy)
    unfold cloFrom
    by_cases hk : (k == NameKind.free) = true
    · rw [if_pos hk, if_pos hk]
      obtain ⟨c, hc⟩ := h (n, k) List.mem_cons_self (by simpa using hk)
      have e : cellOf env n = pure c := by unfold cellOf; rw [hc]
      rw [e]
      have e2 : (env.cells.lookup n).getD 0 = c := by rw [hc]; rfl
      rw [e2]
      exact ih _
    · rw [if_neg hk, if_neg hk]
      exact ih _
theorem closure_ok {scope : Scope} {env : Env} (h : ∀ y ∈ scope.names, y.2 = .free → ∃ c, env.cells.lookup y.1 = some c) : closureFor scope env = pure (cloFrom env.cells scope.names []) := by
  simp only [closureFor]
  rw [closure_loop env _ (fun n k c => rfl) scope.names [] h]
  rfl

theorem mem_lookup {α : Type} : ∀ {l : List (Str × α)} {n : Str} {c : α}, (n, c) ∈ l → ∃ c', l.lookup n = some c'
  | (k, v) :: r, n, c, h => by
    rw [List.lookup_cons]
    cases hb : n == k with
    | true => exact ⟨_, rfl⟩
    | false =>
      rcases List.mem_cons.mp h with e | h
      · cases e; simp at hb
      · exact mem_lookup h

theorem cloFrom_mem {cells : List (Str × Addr)} : ∀ {names : List (Str × NameKind)} {acc : List (Str × Addr)} {n : Str} {c : Addr}, (n, c) ∈ cloFrom cells names acc → (n, c) ∈ acc ∨ ((n, .free) ∈ names ∧ c = (cells.lookup n).getD 0)
  | [], _, _, _, h => .inl h
  | (m, k) :: r, acc, n, c, h => by
    unfold cloFrom at h
    split at h
    · rename_i hk
      have hk : k = .free := by simpa using hk
      rcases cloFrom_mem h with h | ⟨h1, h2⟩
      · rcases List.mem_cons.mp h with e | h
        · cases e; exact .inr ⟨hk ▸ List.mem_cons_self, rfl⟩
        · exact .inl h
      · exact .inr ⟨List.mem_cons_of_mem _ h1, h2⟩
    · rcases cloFrom_mem h with h | ⟨h1, h2⟩
      · exact .inl h
      · exact .inr ⟨List.mem_cons_of_mem _ h1, h2⟩
theorem cloFrom_acc {cells : List (Str × Addr)} : ∀ {names : List (Str × NameKind)} {acc : List (Str × Addr)} {p : Str × Addr}, p ∈ acc → p ∈ cloFrom cells names acc
  | [], _, _, h => h
  | (m, k) :: r, acc, p, h => by
    unfold cloFrom
    split
    · exact cloFrom_acc (List.mem_cons_of_mem _ h)
    · exact cloFrom_acc h
theorem cloFrom_has {cells : List (Str × Addr)} : ∀ {names : List (Str × NameKind)} {acc : List (Str × Addr)} {n : Str}, (n, .free) ∈ names → (n, (cells.lookup n).getD 0) ∈ cloFrom cells names acc
  | (m, k) :: r, acc, n, h => by
    unfold cloFrom
    rcases List.mem_cons.mp h with e | h
    · cases e
      exact cloFrom_acc List.mem_cons_self
    · split
      · exact cloFrom_has h
      · exact cloFrom_has h

theorem cells_mem : ∀ {names : List (Str × NameKind)} {h : Heap} {acc : List (Str × Addr)} {x : Str} {c : Addr}, (x, c) ∈ cellsFrom h.objs.size names acc →
    (x, c) ∈ acc ∨ ((x, .cell) ∈ names ∧ h.objs.size ≤ c ∧ CellAt (pushCells h names) c none)
  | [], _, _, _, _, h => .inl h
  | (n, k) :: r, h, acc, x, c, hm => by
    unfold cellsFrom at hm
    unfold pushCells
    split at hm
    · rename_i hk
      rw [if_pos hk]
      have hk : k = .cell := by simpa using hk
      rw [← Heap.size_push h { cls := .type "cell", data := .cell none }] at hm
      rcases cells_mem hm with hm | ⟨h1, h2, h3⟩
      · rcases List.mem_cons.mp hm with e | hm
        · cases e
          exact .inr ⟨hk ▸ List.mem_cons_self, Nat.le_refl _, _, pushCells_keeps r _ _ _ (Heap.get?_push_size _ rfl), rfl⟩
        · exact .inl hm
      · rw [Heap.size_push] at h2
        exact .inr ⟨List.mem_cons_of_mem _ h1, Nat.le_of_succ_le h2, h3⟩
    · rename_i hk
      rw [if_neg hk]
      rcases cells_mem hm with hm | ⟨h1, h2, h3⟩
      · exact .inl hm
      · exact .inr ⟨List.mem_cons_of_mem _ h1, h2, h3⟩
theorem cells_acc : ∀ {names : List (Str × NameKind)} {n : Nat} {acc : List (Str × Addr)} {p : Str × Addr}, p ∈ acc → p ∈ cellsFrom n names acc
  | [], _, _, _, h => h
  | (m, k) :: r, n, acc, p, h => by
    unfold cellsFrom
    split
    · exact cells_acc (List.mem_cons_of_mem _ h)
    · exact cells_acc h
theorem cells_has : ∀ {names : List (Str × NameKind)} {n : Nat} {acc : List (Str × Addr)} {x : Str}, (x, .cell) ∈ names → ∃ c, (x, c) ∈ cellsFrom n names acc
  | (m, k) :: r, n, acc, x, h => by
    unfold cellsFrom
    rcases List.mem_cons.mp h with e | h
    · cases e
      exact ⟨n, cells_acc List.mem_cons_self⟩
    · split
      · exact cells_has h
      · exact cells_has h
theorem cells_inj : ∀ {names : List (Str × NameKind)} {h : Heap} {acc : List (Str × Addr)} {x y : Str} {c : Addr}, (∀ p ∈ acc, p.2 < h.objs.size) → (∀ x y c, (x, c) ∈ acc → (y, c) ∈ acc → x = y) →
    (x, c) ∈ cellsFrom h.objs.size names acc → (y, c) ∈ cellsFrom h.objs.size names acc → x = y
  | [], _, _, _, _, _, _, hi, h1, h2 => hi _ _ _ h1 h2
  | (n, k) :: r, h, acc, x, y, c, hl, hi, h1, h2 => by
    unfold cellsFrom at h1 h2
    split at h1
    · rename_i hk
      rw [if_pos hk] at h2
      rw [← Heap.size_push h { cls := .type "cell", data := .cell none }] at h1 h2
      refine cells_inj (h := h.push _) (fun p hp => ?_) (fun x y c a b => ?_) h1 h2
      · rw [Heap.size_push]
        rcases List.mem_cons.mp hp with rfl | hp
        · exact Nat.lt_succ_self _
        · exact Nat.lt_succ_of_lt (hl p hp)
      · rcases List.mem_cons.mp a with e | a <;> rcases List.mem_cons.mp b with e' | b
        · cases e; cases e'; rfl
        · cases e; exact absurd (hl _ b) (Nat.lt_irrefl _)
        · cases e'; exact absurd (hl _ a) (Nat.lt_irrefl _)
        · exact hi _ _ _ a b
    · rename_i hk
      rw [if_neg hk] at h2
      exact cells_inj hl hi h1 h2

theorem newEnv_comp {M : Model} {A : Around} {E : Value → Shared → Prop} {s : Shared} {scope : Scope} {globals : Addr} {closure : List (Str × Addr)} {qual : Str} {func : Option Addr} {code : Value} {around : Env} {builtins : Addr} {Q : Env → Shared → Prop}
    (h : Q (newEnv scope s.heap.objs.size globals (cellsFrom (s.heap.objs.size + 1) scope.names closure) qual func code (some around) builtins)
      { s with heap := pushCells (s.heap.push { cls := .type "dict", data := .dict #[] }) scope.names }) :
    wpAny M A (newFunctionEnv scope globals closure [] qual func code (some around) builtins) Q E s := by
  simp only [newFunctionEnv, Option.isSome_some, if_true]
  refine wpAny_bind (wpAny_alloc ?_)
  refine wpAny_bind (wpAny_layCells _ (fun n k c => rfl) scope.names closure _ _ ?_)
  rw [show ({ s with heap := s.heap.push { cls := .type "dict", data := .dict #[] } } : Shared).heap.objs.size = s.heap.objs.size + 1 from Heap.size_push ..]
  rw [List.forIn_nil]
  exact wpAny_bind (wpAny_pure (wpAny_pure h))

/-- every name of the written scope, in the scope that runs -/
theorem lookup_relS {sc : Scope} : ∀ {names : List (Str × NameKind)} {x : Str} {k : NameKind},
    (names.map fun (n, k) => if (k == NameKind.free && sc.kind == .function && sc.names.lookup n == some .cell) then (n, NameKind.cell) else (n, k)).lookup x = some k →
    ∃ k', names.lookup x = some k' ∧ (k = k' ∨ (k' = .free ∧ k = .cell))
  | [], _, _, h => by simp at h
  | (n, k₀) :: r, x, k, h => by
    have ih := @lookup_relS sc r x k
    have h' : List.lookup x ((if (k₀ == NameKind.free && sc.kind == .function && sc.names.lookup n == some .cell) = true then (n, NameKind.cell) else (n, k₀)) :: (r.map _)) = some k := h
    cases hx : x == n with
    | true =>
      simp only [List.lookup_cons, hx]
      by_cases hc : (k₀ == NameKind.free && sc.kind == .function && sc.names.lookup n == some .cell) = true
      · rw [if_pos hc] at h'
        simp only [List.lookup_cons, hx] at h'
        cases h'
        simp only [Bool.and_eq_true, beq_iff_eq] at hc
        exact ⟨k₀, rfl, .inr ⟨hc.1.1, rfl⟩⟩
      · rw [if_neg hc] at h'
        simp only [List.lookup_cons, hx] at h'
        cases h'
        exact ⟨_, rfl, .inl rfl⟩
    | false =>
      simp only [List.lookup_cons, hx]
      by_cases hc : (k₀ == NameKind.free && sc.kind == .function && sc.names.lookup n == some .cell) = true
      · rw [if_pos hc] at h'
        simp only [List.lookup_cons, hx] at h'
        exact ih h'
      · rw [if_neg hc] at h'
        simp only [List.lookup_cons, hx] at h'
        exact ih h'
/-- the names of a comprehension's block: its own (with their places in N), or captured -/
structure BlkOk (N : List Str) (sc scope : Scope) (own : List (Str × Nat)) : Prop where
  kind : scope.kind = .function
  uniq : ∀ y ∈ scope.names, scope.names.lookup y.1 = some y.2
  ix : ∀ p ∈ own, N[p.2]? = some p.1
  free : ∀ y ∈ scope.names, y.2 = .free → sc.names.lookup y.1 = some .cell ∨ sc.names.lookup y.1 = some .free
  own : ∀ y ∈ scope.names, y.2 = .local ∨ y.2 = .cell → y.1 ∈ own.map (·.1) ∨ y.1 ∉ N
/-- the slots of the block's own names forgotten -/
def wipe (σ : St) : List Nat → St
  | [] => σ
  | v :: vs => (wipe σ vs).set v none
theorem wipe_length (σ : St) : ∀ vs : List Nat, (wipe σ vs).length = σ.length
  | [] => rfl
  | v :: vs => by unfold wipe; rw [List.length_set, wipe_length σ vs]
theorem wipe_some {σ : St} {i : Nat} {x : V} : ∀ {vs : List Nat}, (wipe σ vs)[i]? = some (some x) → σ[i]? = some (some x) ∧ i ∉ vs
  | [], h => ⟨h, by simp⟩
  | v :: vs, h => by
    unfold wipe at h
    by_cases hi : v = i
    · subst hi
      by_cases hv : v < (wipe σ vs).length
      · rw [List.getElem?_set_self hv] at h; cases h
      · rw [List.getElem?_eq_none (by simpa using hv)] at h; cases h
    · rw [List.getElem?_set_ne hi] at h
      obtain ⟨h1, h2⟩ := wipe_some h
      exact ⟨h1, by simp only [List.mem_cons, not_or]; exact ⟨fun e => hi e.symm, h2⟩⟩

/-- the context of a block that starts at s, its iterator's objects at fp -/
abbrev Cx.blk (X : Cx) (s : Shared) (H : Hp) (scope : Scope) (cenv : Env) (fp : List Addr) : Cx := { X with s_0 := s, H_0 := H, env := cenv, outer := X.stack, ex := fp, fn := fun x => scope.names.lookup x == some .cell, pn := [], xe := fun _ _ => False }
section
variable {X : Cx} {pins : List (Addr × Obj)} {σ : St} {H : Hp} {s : Shared}
theorem block_start {scope : Scope} {own : List (Str × Nat)} {fp : List Addr} (I : Inv X pins σ H s) (ok : BlkOk X.N X.env.scope scope own) (hN : X.N.Nodup) (hfp : ∀ b ∈ fp, FpOk X pins H b ∧ b < s.heap.objs.size) :
    Inv (X.blk s H scope (compEnvC scope (cellsFrom (s.heap.objs.size + 1) scope.names (cloFrom X.env.cells scope.names [])) s.heap.objs.size X.env) fp) [] (wipe σ (own.map (·.2))) H { s with heap := pushCells (s.heap.push { cls := .type "dict", data := .dict #[] }) scope.names } := by
  have hfree : ∀ y ∈ scope.names, y.2 = .free → ∃ c, X.env.cells.lookup y.1 = some c := fun y hy e => by
    rcases ok.free y hy e with k | k
    · exact I.ok.has _ (.inl k)
    · exact I.ok.has _ (.inr k)
  generalize hcenv : compEnvC scope (cellsFrom (s.heap.objs.size + 1) scope.names (cloFrom X.env.cells scope.names [])) s.heap.objs.size X.env = cenv
  have kp : ∀ b o, s.heap.get? b = some o → (pushCells (s.heap.push { cls := .type "dict", data := .dict #[] }) scope.names).get? b = some o := fun b o e => pushCells_keeps _ _ _ _ (Heap.get?_push_of_some _ e)
  have hL : cenv.locals = s.heap.objs.size := by rw [← hcenv]; rfl
  have hcl : cenv.cells = cellsFrom (s.heap.objs.size + 1) scope.names (cloFrom X.env.cells scope.names []) := by rw [← hcenv]; rfl
  have hsc : cenv.scope = relS scope X.env.scope := by rw [← hcenv]; rfl
  rw [← Heap.size_push s.heap { cls := .type "dict", data := .dict #[] }] at hcl
  have cm : ∀ {y c}, (y, c) ∈ cloFrom X.env.cells scope.names [] → X.env.cells.lookup y = some c ∧ c < s.heap.objs.size := fun {y c} hm => by
    rcases cloFrom_mem hm with hm | ⟨h1, rfl⟩
    · cases hm
    · obtain ⟨c, hc⟩ := hfree _ h1 rfl
      rw [hc]
      obtain ⟨w, z⟩ := I.cell _ _ hc
      exact ⟨rfl, z.lt⟩
  have mem : ∀ {y c}, cenv.cells.lookup y = some c → (X.env.cells.lookup y = some c ∧ c < s.heap.objs.size) ∨ (s.heap.objs.size + 1 ≤ c ∧ CellAt (pushCells (s.heap.push { cls := .type "dict", data := .dict #[] }) scope.names) c none) := fun {y c} e => by
    rw [hcl] at e
    rcases cells_mem (PySem.mem_of_lookup e) with hm | ⟨_, h2, h3⟩
    · exact .inl (cm hm)
    · rw [Heap.size_push] at h2; exact .inr ⟨h2, h3⟩
  have look : ∀ {y}, scope.names.lookup y = some .free → ∃ c, cenv.cells.lookup y = some c ∧ X.env.cells.lookup y = some c := fun {y} hl => by
    have hy : (y, NameKind.free) ∈ scope.names := PySem.mem_of_lookup hl
    obtain ⟨c', e'⟩ := mem_lookup (cells_acc (names := scope.names) (n := (s.heap.push { cls := .type "dict", data := .dict #[] }).objs.size) (cloFrom_has (cells := X.env.cells) (acc := []) hy))
    rw [← hcl] at e'
    refine ⟨c', e', ?_⟩
    rw [hcl] at e'
    rcases cells_mem (PySem.mem_of_lookup e') with hm | ⟨h1, _, _⟩
    · exact (cm hm).1
    · have := ok.uniq _ h1
      rw [hl] at this; cases this
  have okB : (X.blk s H scope cenv fp).Ok := by
    refine ⟨I.ok.mod, by show cenv.scope.kind = _; rw [hsc]; exact ok.kind, by show cenv.globals = _; rw [← hcenv]; exact I.ok.glob, by show cenv.builtins = _; rw [← hcenv]; exact I.ok.blt, by show s.heap.objs.size ≤ cenv.locals; rw [hL]; exact Nat.le_refl _,
      fun y z c e1 e2 => ?_, fun y hy => ?_, fun y c z e => ?_, I.ok.hd, I.ok.frames, .inl rfl, fun b hb => ⟨?_, fun y c e z => ?_⟩, I.bs, Nat.le_trans I.ok.bsz I.sz, fun b o e hb => ?_, fun b hb z => ?_, I.stack, I.stkFree⟩
    · have e1 : cenv.cells.lookup y = some c := e1
      have e2 : cenv.cells.lookup z = some c := e2
      rw [hcl] at e1 e2
      refine cells_inj (fun p hp => ?_) (fun y z c a b => I.ok.inj y z c (cm a).1 (cm b).1) (PySem.mem_of_lookup e1) (PySem.mem_of_lookup e2)
      rw [Heap.size_push]
      exact Nat.lt_succ_of_lt (cm (y := p.1) (c := p.2) hp).2
    · show ∃ c, cenv.cells.lookup y = some c
      have key : ∀ k, cenv.kindOf y = some k → (k = .cell ∨ k = .free) → ∃ c, cenv.cells.lookup y = some c := fun k hk hk' => by
        unfold Env.kindOf at hk
        rw [hsc] at hk
        obtain ⟨k', e, r⟩ := lookup_relS hk
        have : k' = .cell ∨ k' = .free := by
          rcases r with rfl | ⟨rfl, _⟩
          · exact hk'
          · exact .inr rfl
        rcases this with rfl | rfl
        · obtain ⟨c, hm⟩ := cells_has (n := (s.heap.push { cls := .type "dict", data := .dict #[] }).objs.size) (acc := cloFrom X.env.cells scope.names []) (PySem.mem_of_lookup e)
          obtain ⟨c', e'⟩ := mem_lookup hm
          exact ⟨c', by rw [hcl]; exact e'⟩
        · obtain ⟨c, h1, _⟩ := look e
          exact ⟨c, h1⟩
      rcases hy with hy | hy
      · exact key _ hy (.inl rfl)
      · exact key _ hy (.inr rfl)
    · have z : (scope.names.lookup y == some NameKind.cell) = true := z
      have z : scope.names.lookup y = some .cell := by simpa using z
      have e : cenv.cells.lookup y = some c := e
      rw [hcl] at e
      rcases cells_mem (PySem.mem_of_lookup e) with hm | ⟨_, h2, _⟩
      · rcases cloFrom_mem hm with hm | ⟨h1, _⟩
        · cases hm
        · have q := ok.uniq _ h1
          rw [z] at q; cases q
      · rw [Heap.size_push] at h2
        exact Nat.le_of_succ_le h2
    · show b ≠ cenv.locals
      rw [hL]; exact Nat.ne_of_lt (hfp b hb).2
    · have e : cenv.cells.lookup y = some c := e
      rcases mem e with ⟨h1, _⟩ | ⟨h1, _⟩
      · exact (hfp b hb).1.2.2.2.2.1 y c h1 z
      · have h2 : s.heap.objs.size + 1 ≤ b := by rw [← z]; exact h1
        exact absurd (Nat.lt_of_lt_of_le (hfp b hb).2 (Nat.le_of_succ_le h2)) (Nat.lt_irrefl _)
    · rcases (hfp b hb).1.2.2.2.1 with z | z
      · exact I.ok.noex b o e z
      · exact absurd (Nat.lt_of_lt_of_le (Heap.lt_size e) (Nat.le_trans I.ok.bsz z)) (Nat.lt_irrefl _)
    · rcases List.mem_cons.mp (I.stkSub b z) with z | z
      · exact (hfp b hb).1.2.1 z
      · exact (hfp b hb).1.2.2.1 z
  refine ⟨okB, rfl, I.bare, Un.kept kp, ⟨fun _ => none, ?_, fun i y av e1 e2 e3 => ?_⟩, fun y c e => ?_, ?_, fun y c e => ?_, fun p hp => ?_, I.hok.kept kp, by rw [wipe_length]; exact I.len⟩
  · show Heap.Ns _ cenv.locals _
    rw [hL]
    exact Heap.Ns.keeps (Heap.Ns.new ..) fun b o e => pushCells_keeps _ _ _ _ e
  · obtain ⟨e2, hne⟩ := wipe_some e2
    have hfr : scope.names.lookup y = some .free ∧ (cenv.kindOf y = some .cell ∨ cenv.kindOf y = some .free) := by
      have key : ∀ k, cenv.scope.names.lookup y = some k → k = .local ∨ k = .cell ∨ k = .free → scope.names.lookup y = some .free ∧ (cenv.kindOf y = some .cell ∨ cenv.kindOf y = some .free) := fun k hk hk' => by
        have hk0 := hk
        rw [hsc] at hk
        obtain ⟨k', e, r⟩ := lookup_relS hk
        have no : ¬ (k' = .local ∨ k' = .cell) := fun hh => by
          rcases ok.own _ (PySem.mem_of_lookup e) hh with e' | e'
          · obtain ⟨p, hp, hpy⟩ := List.mem_map.mp e'
            have e3 := ok.ix p hp
            have : p.1 = y := hpy
            rw [this] at e3
            exact hne (List.mem_map.mpr ⟨p, hp, nodup_ix hN e3 e1⟩)
          · exact e' (List.mem_of_getElem? e1)
        rcases r with rfl | ⟨rfl, rfl⟩
        · rcases hk' with rfl | rfl | rfl
          · exact absurd (.inl rfl) no
          · exact absurd (.inr rfl) no
          · exact ⟨e, .inr hk0⟩
        · exact ⟨e, .inl hk0⟩
      have e3 : Vis cenv.scope y := e3
      rcases e3 with e3 | e3 | e3
      · exact key _ e3 (.inl rfl)
      · exact key _ e3 (.inr (.inl rfl))
      · exact key _ e3 (.inr (.inr rfl))
    obtain ⟨m, hn, hl⟩ := I.loc
    have hvis : Vis X.env.scope y := (ok.free _ (PySem.mem_of_lookup hfr.1) rfl).elim (fun k => .inr (.inl k)) (fun k => .inr (.inr k))
    obtain ⟨w, r, q⟩ := hl i y av e1 e2 hvis
    refine ⟨w, r, .inr ⟨hfr.2, ?_⟩⟩
    obtain ⟨c, h1, h2⟩ := look hfr.1
    rcases q with ⟨k, _⟩ | ⟨_, c', e', z⟩
    · have k : X.env.scope.names.lookup y = some .local := k
      rcases ok.free _ (PySem.mem_of_lookup hfr.1) rfl with k' | k' <;> rw [show X.env.scope.names.lookup y = _ from k'] at k <;> cases k
    · rw [h2] at e'; cases e'
      exact ⟨c, h1, z.keeps kp⟩
  · have e : cenv.cells.lookup y = some c := e
    rcases mem e with ⟨h1, _⟩ | ⟨_, z⟩
    · obtain ⟨w, z⟩ := I.cell y c h1
      exact ⟨w, z.keeps kp⟩
    · exact ⟨_, z⟩
  · show H cenv.locals = none
    rw [hL]; exact I.hok.fresh (Nat.le_refl _)
  · have e : cenv.cells.lookup y = some c := e
    rcases mem e with ⟨h1, _⟩ | ⟨h1, _⟩
    · exact I.freeC y c h1
    · exact I.hok.fresh (Nat.le_of_succ_le h1)
  · exact absurd (show p ∈ ([] : List (Addr × Obj)) ++ [] from hp) (by simp)

/-- an item appended to a tracked list -/
theorem app_ok {E : Value → Shared → Prop} {D : Addr} {xs : List V} {y : V} {v : Value} {Q : Value → Shared → Prop} (I : Inv X pins σ H s) (hD : H D = some (.lst xs)) (hz : xs.length < sizeLine) (r : RelV y v)
    (h : ∀ s', Inv X pins σ (upd H D (.lst (xs ++ [y]))) s' → Q .none s') : wpAny (model X.prog X.w) X.A (call (.builtin "list.append") [.ref D, v]) Q E s := by
  obtain ⟨hz', its, n, ri, e⟩ := I.hok D _ hD
  have hl := ri.length
  refine append_at (hsz := by rw [List.size_toArray]; omega) e fun h' sb ho' => ?_
  refine h { s with heap := h' } (I.write (t' := s.toks) (by rw [hD]; trivial) (.inl rfl) (fun b u hb q => (sb.2 b hb).trans q) ⟨_, ho'⟩ ⟨by rw [List.length_append]; exact hz, its ++ [v], n + 1, ri.append (.cons r .nil), ?_⟩)
  rw [ho']
  simp

/-- a clause's tests -/
def PTs (X : Cx) (ifs : List Expr) (t : TT) : Prop :=
  ∀ (pins : List (Addr × Obj)) (s : Shared) (σ : St) (H : Hp) (Q : Bool → Hp → Prop), Inv X pins σ H s → t σ H Q →
    wpAny (model X.prog X.w) X.A (forIn ifs true fun c r => if r = true then do let ok ← isTrue c X.env (eval c X.env); pure (ForInStep.yield ok) else pure (ForInStep.yield r)) (TP X pins σ Q) X.xe s
def tYes : TT := fun _ H Q => Q true H
theorem pts_nil : PTs X [] tYes := fun _ _ _ H _ I h => wpAny_tests_nil ⟨H, I, h⟩
end

theorem thnF {α : Type} {t : Sem α} {Q Q' : α → Shared → Prop} {M : Model} {A : Around} {E : Value → Shared → Prop} {s : Shared} (h : wpAny M A t Q (fun _ _ => False) s) (hQ : ∀ a s, Q a s → Q' a s) : wpAny M A t Q' E s := wpAny_mono h hQ fun _ _ z => False.elim z

/-- the loop of a list comprehension's block, the target of any form (codeAny_compLoop_tests asks a target that no tuple goes to; statement and proof follow it, PyProof/CompMap.lean:41-61, with the step letOwnedTupleGo kept) -/
theorem compLoop_any {prog : Program} {w : World} {A : Around} {R : Result → Shared → Prop} {s : Shared} {elt target iter : Expr} {ifs : List Expr} {scope : Scope} {pos : Pos} {it acc : Value} {env : Env} (I : Nat → Shared → Prop)
    (turn : ∀ n s, I n s → wpAny (model prog w) A (pyNext it) (fun r s₁ => match r with
      | none => R (.ok .next) s₁
      | some v => wpAny (model prog w) A (letOwnedTupleGo target it v) (fun _ s₁' => wpAny (model prog w) A (assign target env v) (fun _ s₂ =>
          wpAny (model prog w) A (forIn ifs true fun c r => if r = true then do let ok ← isTrue c env (eval c env); pure (ForInStep.yield ok) else pure (ForInStep.yield r)) (fun ok s₃ =>
            if ok = true then wpAny (model prog w) A (eval elt env) (fun x s₄ =>
              wpAny (model prog w) A (call (.builtin "list.append") [acc, x]) (fun _ s₅ => ∃ m, m < n ∧ I m s₅) (notedBy (model prog w) A env fun e s' => R (.error e) s') s₄) (notedBy (model prog w) A env fun e s' => R (.error e) s') s₃
            else ∃ m, m < n ∧ I m s₃) (notedBy (model prog w) A env fun e s' => R (.error e) s') s₂) (notedBy (model prog w) A env fun e s' => R (.error e) s') s₁') (notedBy (model prog w) A env fun e s' => R (.error e) s') s₁) (notedBy (model prog w) A env fun e s' => R (.error e) s') s)
    (n : Nat) (h : I n s) :
    codeAny (model prog w) A (.compLoop (.ListComp elt [⟨target, iter, ifs, 0⟩] scope pos) 0 it acc env) R s := by
  refine codeAny_loop rfl I (fun n s hI => ?_) n h
  show wpAny _ A ((compTurn (.ListComp elt [⟨target, iter, ifs, 0⟩] scope pos) 0 it acc env).onRaise (fun x => do noteFrame x env; theTreesLotGoes x)) _ _ s
  refine wpAny_noted ?_
  rw [compTurn_list]
  refine wpAny_bind (wpAny_standAt (wpAny_bind (wpAny_mono (turn n s hI) (fun r s₁ h₁ => ?_) fun _ _ h' => h')))
  cases r with
  | none => exact wpAny_pure h₁
  | some v =>
    refine wpAny_bind (wpAny_mono h₁ (fun _ s₁' h₁' => ?_) fun _ _ h' => h')
    refine wpAny_bind (wpAny_mono h₁' (fun _ s₂ h₂ => wpAny_bind (wpAny_mono h₂ (fun ok s₃ h₃ => ?_) fun _ _ h' => h')) fun _ _ h' => h')
    cases ok with
    | false => exact wpAny_pure ⟨rfl, h₃⟩
    | true =>
      exact wpAny_bind (wpAny_bind (wpAny_mono h₃ (fun x s₄ h₄ => wpAny_bind (wpAny_mono h₄ (fun _ s₅ h₅ => wpAny_pure (wpAny_pure ⟨rfl, h₅⟩)) fun _ _ h' => h')) fun _ _ h' => h'))

section
variable {X : Cx}
/-- [elt for target in iter if ..]: D the new list; W by the turn and a measure, Nx what a turn is to reach -/
def tLc (wi : TI) (g : TG) (tt : TT) (te : TE) (vs : List Nat) : TE := fun σ H Q => wi σ H fun J H1 => ∀ D, H1 D = none → ∃ W : Nat → Nat → Hp → Prop, (∃ m, W 0 m (upd H1 D (.lst []))) ∧ ∀ i m H, W i m H →
  (J.stop i H ∧ Q (.ref D) H) ∨ (J.go i H ∧ ∃ Nx : Hp → Prop, (∀ H', Nx H' → ∃ m', m' < m ∧ W (i + 1) m' H') ∧ ∀ x H', J.yld i H x H' → g x (wipe σ vs) H' fun σ2 H2 => wipe σ2 vs = wipe σ vs ∧ tt σ2 H2 fun b H3 =>
    if b = true then te σ2 H3 fun y H4 => ∃ acc, H4 D = some (.lst acc) ∧ acc.length < sizeLine ∧ Nx (upd H4 D (.lst (acc ++ [y]))) else Nx H3)
theorem lc_core {pins : List (Addr × Obj)} {s : Shared} {σ : St} {H : Hp} {Q : VK} {elt tg iter : Expr} {ifs : List Expr} {scope : Scope} {own : List (Str × Nat)} {pos pos' : Pos} {wi : TI} {g : TG} {tt : TT} {te : TE} {use : Option (Value → Sem Unit)} {Qf : Value → Shared → Prop}
    (hc : X.calm = true) (hN : X.N.Nodup) (I : Inv X pins σ H s) (hi : PI X tg iter wi) (ok : BlkOk X.N X.env.scope scope own)
    (hg : ∀ (s : Shared) (H : Hp) (C : Addr) (cl : List (Str × Addr)) (fp : List Addr), PG (X.blk s H scope (compEnvC scope cl C X.env) fp) tg g) (ht : ∀ (s : Shared) (H : Hp) (C : Addr) (cl : List (Str × Addr)) (fp : List Addr), PTs (X.blk s H scope (compEnvC scope cl C X.env) fp) ifs tt)
    (he : ∀ (s : Shared) (H : Hp) (C : Addr) (cl : List (Str × Addr)) (fp : List Addr), PE (X.blk s H scope (compEnvC scope cl C X.env) fp) elt te) (hs : ∀ x, foldedSetIterable iter X.env x = pure x)
    (h : tLc wi g tt te (own.map (·.2)) σ H Q)
    (hRR : ∀ D C s' m H', Inv X pins σ H' s' → Q (.ref D) H' → s'.heap.Ns C m → FpOk X pins H' C → compPost (model X.prog X.w) X.A X.xe use Qf (.ref D) C (.ok .next) s') :
    wpAny (model X.prog X.w) X.A (comprehension (.ListComp elt [⟨tg, iter, ifs, 0⟩] scope pos) scope X.env pos' (newList []) false (eval iter X.env) use) Qf X.xe s := by
  have hfree : ∀ y ∈ scope.names, y.2 = .free → ∃ c, X.env.cells.lookup y.1 = some c := fun y hy e => by
    rcases ok.free y hy e with k | k
    · exact I.ok.has _ (.inl k)
    · exact I.ok.has _ (.inr k)
  refine wpAny_comprehension_free (use := use) rfl hs (closure_ok hfree) ok.kind (fun y hy e => by rw [ok.uniq y hy, e])
    (thn (hi pins s σ H _ I h) fun xv s1 hx => thn hx fun itv s2 h2 => ?_)
  obtain ⟨it, fp, tn, J, H2, e, I2, T, st2, f2, q⟩ := h2
  subst e
  refine wpAny_newObj_type (newEnv_comp ?_) (by show 0 ≤ sizeLine; decide)
  generalize hD : s2.heap.objs.size = D
  have hDn : H2 D = none := I2.hok.fresh (Nat.le_of_eq hD)
  obtain ⟨W, ⟨m0, w0⟩, turn⟩ := q D hDn
  -- the new list
  generalize hs3 : ({ s2 with heap := s2.heap.push { cls := .type "list", data := .seq ([] : List Value).toArray } } : Shared) = s3
  have I3 : Inv X pins σ (upd H2 D (.lst [])) s3 := by
    rw [← hs3]
    refine I2.laid (t' := s2.toks) (fun b o e => Heap.get?_push_of_some _ e) (Nat.le_of_eq hD) ⟨Nat.zero_le _, [], 0, .nil, ?_⟩
    rw [← hD]
    exact Heap.get?_push_size _ rfl
  have h3 : s3.heap = s2.heap.push { cls := .type "list", data := .seq ([] : List Value).toArray } := by rw [← hs3]
  have sz : ∀ b ∈ fp, b < s2.heap.objs.size := fun b hb => by
    obtain ⟨o, e, _⟩ := T.obj _ _ st2 b hb
    exact Heap.lt_size e
  have f3 : ∀ b ∈ fp, FpOk X pins (upd H2 D (.lst [])) b ∧ b < s3.heap.objs.size := fun b hb => by
    have hlt := sz b hb
    refine ⟨⟨?_, (f2 b hb).2⟩, by rw [h3, Heap.size_push]; exact Nat.lt_succ_of_lt hlt⟩
    rw [upd_ne (by rw [← hD]; exact Nat.ne_of_lt hlt)]
    exact (f2 b hb).1
  have st3 : tn 0 s3.heap := T.keep _ _ _ st2 fun b _ o e => by rw [h3]; exact Heap.get?_push_of_some _ e
  have I4 := block_start I3 ok hN f3
  have pg := hg s3 (upd H2 D (.lst [])) s3.heap.objs.size (cellsFrom (s3.heap.objs.size + 1) scope.names (cloFrom X.env.cells scope.names [])) fp
  have pt := ht s3 (upd H2 D (.lst [])) s3.heap.objs.size (cellsFrom (s3.heap.objs.size + 1) scope.names (cloFrom X.env.cells scope.names [])) fp
  have pe := he s3 (upd H2 D (.lst [])) s3.heap.objs.size (cellsFrom (s3.heap.objs.size + 1) scope.names (cloFrom X.env.cells scope.names [])) fp
  show codeAny _ _ (.compStart (.ListComp elt [⟨tg, iter, ifs, 0⟩] scope pos) 0 (.ref it) (.ref D) (compEnvC scope (cellsFrom (s3.heap.objs.size + 1) scope.names (cloFrom X.env.cells scope.names [])) s3.heap.objs.size X.env)) (compPost (model X.prog X.w) X.A X.xe use Qf (.ref D) s3.heap.objs.size) { s3 with heap := pushCells (s3.heap.push { cls := .type "dict", data := .dict #[] }) scope.names }
  have nfp : ∀ b ∈ fp, (upd H2 D (.lst [])) b = none := fun b hb => (f3 b hb).1.1
  generalize hce : compEnvC scope (cellsFrom (s3.heap.objs.size + 1) scope.names (cloFrom X.env.cells scope.names [])) s3.heap.objs.size X.env = ce at I4 pg pt pe ⊢
  have cL : ce.locals = s3.heap.objs.size := by subst hce; rfl
  generalize hH3 : upd H2 D (.lst []) = H3 at I3 I4 pg pt pe w0 nfp f3
  generalize hs4 : ({ s3 with heap := pushCells (s3.heap.push { cls := .type "dict", data := .dict #[] }) scope.names } : Shared) = s4 at I4 ⊢
  have st4 : tn 0 s4.heap := T.keep _ _ _ st3 fun b _ o e => by rw [← hs4]; exact pushCells_keeps _ _ _ _ (Heap.get?_push_of_some _ e)
  have stat : ∀ {σ' : St} {H' : Hp} {s' : Shared}, Inv (X.blk s3 H3 scope ce fp) [] σ' H' s' → (∀ b ∈ fp, H' b = none) → ∀ b ∈ fp, FpOk (X.blk s3 H3 scope ce fp) [] H' b := fun {σ' H' s'} I' hn b hb =>
    ⟨hn b hb, (I'.ok.exf b hb).1, I'.ok.exfs b hb, .inl hb, fun x c e => (I'.ok.exf b hb).2 x c e, fun p hp => absurd (show p ∈ ([] : List (Addr × Obj)) ++ [] from hp) (by simp)⟩
  have loop : codeAny (model X.prog X.w) X.A (.compLoop (.ListComp elt [⟨tg, iter, ifs, 0⟩] scope pos) 0 (.ref it) (.ref D) ce) (compPost (model X.prog X.w) X.A X.xe use Qf (.ref D) s3.heap.objs.size) s4 := by
    refine compLoop_any (fun n s' => ∃ i H', Inv (X.blk s3 H3 scope ce fp) [] (wipe σ (own.map (·.2))) H' s' ∧ tn i s'.heap ∧ (∀ b ∈ fp, H' b = none) ∧ W i n H') ?_ m0 ⟨0, H3, I4, st4, nfp, w0⟩
    rintro n s5 ⟨i, H5, I5, st5, n5, w5⟩
    rcases turn i n H5 w5 with ⟨stop, qq⟩ | ⟨go, Nx, hNx, step⟩
    · have td := T.done (X.blk s3 H3 scope ce fp) rfl rfl rfl hc i [] s5 _ H5 (fun _ _ => False) I5 (stat I5 n5) st5 stop
      refine thnF td fun r s6 ⟨hr, I6⟩ => ?_
      subst hr
      -- back in the def's context
      have I7 : Inv X pins σ H5 s6 := I3.call' (ch := fp) I6.os I6.base I6.hok I6.bare fun b hb => ⟨(f3 b hb).1.2.2.2.1, (f3 b hb).1.2.1, (f3 b hb).1.2.2.2.2.1, (f3 b hb).1.2.2.2.2.2⟩
      have nC : H5 s3.heap.objs.size = none := by
        have z : H5 ce.locals = none := I6.free
        rw [cL] at z
        exact z
      obtain ⟨m, hn, _⟩ := I6.loc
      have hn : s6.heap.Ns ce.locals m := hn
      rw [cL] at hn
      exact hRR D s3.heap.objs.size s6 m H5 I7 qq hn (I3.fpOk (Nat.le_refl _) nC)
    · have ti := T.item (X.blk s3 H3 scope ce fp) rfl rfl rfl hc i [] s5 _ H5 (fun _ _ => False) I5 (stat I5 n5) st5 go
      refine thnF ti fun r s6 ⟨u, hr, h6⟩ => ?_
      subst hr
      refine thnF h6 fun _ s7 ⟨x, H7, I7, r7, y7, st7, n7⟩ => ?_
      have I7' := I7.pinned (stat I7 n7) (T.obj _ _ st7)
      refine thnF (pg _ s7 _ H7 x u _ I7' r7 (step x H7 y7)) fun _ s8 ⟨σ8, H8, I8, hw8, q8⟩ => ?_
      refine thnF (pt _ s8 σ8 H8 _ I8 q8) fun b s9 ⟨H9, I9, q9⟩ => ?_
      -- the turn's end
      have fin : ∀ {s' : Shared} {H' : Hp}, Inv (X.blk s3 H3 scope ce fp) ([] ++ pinsAt fp s7.heap) σ8 H' s' → Nx H' → ∃ m, m < n ∧ ∃ i H', Inv (X.blk s3 H3 scope ce fp) [] (wipe σ (own.map (·.2))) H' s' ∧ tn i s'.heap ∧ (∀ b ∈ fp, H' b = none) ∧ W i m H' := fun {s' H'} I' nx => by
        obtain ⟨m', hm, w'⟩ := hNx H' nx
        have pin' : ∀ b ∈ fp, ∀ o, s7.heap.get? b = some o → s'.heap.get? b = some o ∧ H' b = none := fun b hb o e =>
          let z := I'.pin (b, o) (List.mem_append_right _ (List.mem_append_right _ (mem_pinsAt hb e)))
          ⟨z.1, z.2.1⟩
        have hl : (wipe σ (own.map (·.2))).length = σ8.length := by rw [← hw8, wipe_length]
        refine ⟨m', hm, i + 1, H', (I'.unpinned (pins := [])).weak hl (fun j v e => ?_), T.keep _ _ _ st7 fun b hb o e => (pin' b hb o e).1, fun b hb => ?_, w'⟩
        · rw [← hw8] at e
          exact (wipe_some e).1
        · obtain ⟨o, e, _⟩ := T.obj _ _ st7 b hb
          exact (pin' b hb o e).2
      cases b with
      | false =>
        simp only [Bool.false_eq_true, if_false] at q9 ⊢
        exact fin I9 q9
      | true =>
        simp only [if_true] at q9 ⊢
        refine thnF (pe _ s9 σ8 H9 _ I9 q9) fun z s10 ⟨yv, H10, I10, r10, acc, hD10, hz10, nx⟩ => ?_
        exact app_ok (X := X.blk s3 H3 scope ce fp) I10 hD10 hz10 r10 fun s11 I11 => fin I11 nx
  exact codeAny_compStart_list loop (T.self X.A 0 _ _ _ st4 loop)
/-- as a value -/
theorem pe_lc {elt tg iter : Expr} {ifs : List Expr} {scope : Scope} {own : List (Str × Nat)} {pos : Pos} {wi : TI} {g : TG} {tt : TT} {te : TE} (hc : X.calm = true) (hN : X.N.Nodup) (hi : PI X tg iter wi) (ok : BlkOk X.N X.env.scope scope own)
    (hg : ∀ (s : Shared) (H : Hp) (C : Addr) (cl : List (Str × Addr)) (fp : List Addr), PG (X.blk s H scope (compEnvC scope cl C X.env) fp) tg g) (ht : ∀ (s : Shared) (H : Hp) (C : Addr) (cl : List (Str × Addr)) (fp : List Addr), PTs (X.blk s H scope (compEnvC scope cl C X.env) fp) ifs tt)
    (he : ∀ (s : Shared) (H : Hp) (C : Addr) (cl : List (Str × Addr)) (fp : List Addr), PE (X.blk s H scope (compEnvC scope cl C X.env) fp) elt te) (hs : ∀ x, foldedSetIterable iter X.env x = pure x := by intro _; rfl) :
    PE X (.ListComp elt [⟨tg, iter, ifs, 0⟩] scope pos) (tLc wi g tt te (own.map (·.2))) := by
  intro pins s σ H Q I h
  rw [eval_ListComp]
  refine lc_core hc hN I hi ok hg ht he hs h fun D C s' m H' I' q hn f => ⟨m, hn, fun h'' sb => ?_⟩
  obtain ⟨f0, f1, f2, f3, f4, f5⟩ := f
  exact ⟨.ref D, H', I'.turned (t' := s'.toks) (fun b o hb e => (sb.2 b hb).trans e) f0 f1 f3 f4 f5, rfl, q⟩
/-- name = [..] on one line, the name a local -/
theorem ps_setLc {i : Nat} {y : Str} {py : Pos} {elt tg iter : Expr} {ifs : List Expr} {scope : Scope} {own : List (Str × Nat)} {pos spos : Pos} {wi : TI} {g : TG} {tt : TT} {te : TE} (hc : X.calm = true) (hN : X.N.Nodup) (hy : X.N[i]? = some y) (hyl : X.env.scope.names.lookup y = some .local)
    (hsw : swapsWith (.ListComp elt [⟨tg, iter, ifs, 0⟩] scope pos) (some (.Name y py)) spos.line X.env = pure true) (hi : PI X tg iter wi) (ok : BlkOk X.N X.env.scope scope own)
    (hg : ∀ (s : Shared) (H : Hp) (C : Addr) (cl : List (Str × Addr)) (fp : List Addr), PG (X.blk s H scope (compEnvC scope cl C X.env) fp) tg g) (ht : ∀ (s : Shared) (H : Hp) (C : Addr) (cl : List (Str × Addr)) (fp : List Addr), PTs (X.blk s H scope (compEnvC scope cl C X.env) fp) ifs tt)
    (he : ∀ (s : Shared) (H : Hp) (C : Addr) (cl : List (Str × Addr)) (fp : List Addr), PE (X.blk s H scope (compEnvC scope cl C X.env) fp) elt te) (hs : ∀ x, foldedSetIterable iter X.env x = pure x := by intro _; rfl) :
    PS X (.Assign [.Name y py] (.ListComp elt [⟨tg, iter, ifs, 0⟩] scope pos) spos) (tAsg (tLc wi g tt te (own.map (·.2))) (gName i)) := by
  intro pins s σ H D I h
  rw [exec_Assign_Name_used _ _ _ _ hsw]
  refine wpAny_bind (wpAny_standAt (wpAny_bind ?_))
  show wpAny _ X.A (do let _ ← comprehension (.ListComp elt [⟨tg, iter, ifs, 0⟩] scope pos) scope X.env (firstIterPos [⟨tg, iter, ifs, 0⟩] pos) (newList []) false (eval iter X.env) (some (assign (.Name y py) X.env))) _ _ s
  have h : tLc wi g tt te (own.map (·.2)) σ H (fun x H1 => gName i x σ H1 D.nx) := h
  refine wpAny_bind (thn (lc_core (Qf := fun _ s' => SP X pins D .next s') hc hN I hi ok hg ht he hs h fun L C s' m H' I' q hn f => ?_) fun _ s' hq => wpAny_pure (wpAny_pure hq))
  show wpAny _ _ (assign (.Name y py) X.env (.ref L)) _ _ _
  refine wpAny_assign_Name (store_ok2 (v := V.ref L) I' hN hy (.inl hyl) rfl (fun s2 I2 ⟨a, sb, ha⟩ => ?_) (.inr hyl))
  obtain ⟨f0, f1, f2, f3, f4, f5⟩ := f
  have haC : C ≠ a := by
    rcases ha with z | z
    · rw [z]; exact f1
    · exact fun e => f4 y a z e.symm
  refine ⟨m, hn.sameBut sb haC, fun h3 sb3 => ?_⟩
  exact ⟨_, H', I2.turned (t' := s2.toks) (fun b o hb e => (sb3.2 b hb).trans e) f0 f1 f3 f4 f5, q⟩
theorem sw_true {elt : Expr} {gs : List Comprehension} {scope : Scope} {pos py : Pos} {y : Str} {l : Nat} {env : Env} (hk : env.scope.kind = .function) (hy : env.scope.names.lookup y = some .local) (hl : (py.line == pos.line) = true)
    (ha : (scope.names.any fun (n, k) => n == y && (k == .local || k == .cell)) = false) : swapsWith (.ListComp elt gs scope pos) (some (.Name y py)) l env = pure true := by
  have ky : env.kindOf y = some .local := hy
  have hb : env.blockKind = .function := by unfold Env.blockKind; rw [hk]; rfl
  unfold swapsWith
  simp only [hb, ky, ha, Expr.pos, hl]
  rfl
end

/-! ### the forms one uses -/
/-- over a range: Pv by the turn and the heap (the new list at D within) -/
theorem lc_range {lo : Int} {n : Nat} {g : TG} {tt : TT} {te : TE} {vs : List Nat} {σ : St} {H1 : Hp} {D : Addr} {Qd : Hp → Prop} (Pv : Nat → Hp → Prop) (h0 : Pv 0 (upd H1 D (.lst [])))
    (hs : ∀ i H, i < n → Pv i H → g (.int (lo + i)) (wipe σ vs) H fun σ2 H2 => wipe σ2 vs = wipe σ vs ∧ tt σ2 H2 fun b H3 =>
      if b = true then te σ2 H3 fun y H4 => ∃ acc, H4 D = some (.lst acc) ∧ acc.length < sizeLine ∧ Pv (i + 1) (upd H4 D (.lst (acc ++ [y]))) else Pv (i + 1) H3) (hd : ∀ H, Pv n H → Qd H) :
    ∃ W : Nat → Nat → Hp → Prop, (∃ m, W 0 m (upd H1 D (.lst []))) ∧ ∀ i m H, W i m H →
      ((Itr lo n).stop i H ∧ Qd H) ∨ ((Itr lo n).go i H ∧ ∃ Nx : Hp → Prop, (∀ H', Nx H' → ∃ m', m' < m ∧ W (i + 1) m' H') ∧ ∀ x H', (Itr lo n).yld i H x H' → g x (wipe σ vs) H' fun σ2 H2 => wipe σ2 vs = wipe σ vs ∧ tt σ2 H2 fun b H3 =>
        if b = true then te σ2 H3 fun y H4 => ∃ acc, H4 D = some (.lst acc) ∧ acc.length < sizeLine ∧ Nx (upd H4 D (.lst (acc ++ [y]))) else Nx H3) := by
  refine ⟨fun i m H => m = n - i ∧ i ≤ n ∧ Pv i H, ⟨n, by simp, Nat.zero_le _, h0⟩, ?_⟩
  rintro i m H ⟨rfl, hi, p⟩
  by_cases hlt : i < n
  · refine .inr ⟨hlt, Pv (i + 1), fun H' p' => ⟨n - (i + 1), by omega, rfl, hlt, p'⟩, fun x H' y => ?_⟩
    obtain ⟨e, y⟩ := y
    subst e y
    exact hs i _ hlt p
  · have e : i = n := by omega
    subst e
    exact .inl ⟨Nat.le_refl _, hd H p⟩
/-- over a list that the block leaves as it is -/
theorem lc_list {K : PySem.W.Frag} {a : Addr} {xs : List V} {g : TG} {tt : TT} {te : TE} {vs : List Nat} {σ : St} {H1 : Hp} {D : Addr} {Qd : Hp → Prop} (Pv : Nat → Hp → Prop) (h0 : Pv 0 (upd H1 D (.lst []))) (hl : ∀ i H, i ≤ xs.length → Pv i H → SqL K H a xs)
    (hs : ∀ i x H, xs[i]? = some x → Pv i H → g x (wipe σ vs) H fun σ2 H2 => wipe σ2 vs = wipe σ vs ∧ tt σ2 H2 fun b H3 =>
      if b = true then te σ2 H3 fun y H4 => ∃ acc, H4 D = some (.lst acc) ∧ acc.length < sizeLine ∧ Pv (i + 1) (upd H4 D (.lst (acc ++ [y]))) else Pv (i + 1) H3) (hd : ∀ H, Pv xs.length H → Qd H) :
    ∃ W : Nat → Nat → Hp → Prop, (∃ m, W 0 m (upd H1 D (.lst []))) ∧ ∀ i m H, W i m H →
      ((Itl K a).stop i H ∧ Qd H) ∨ ((Itl K a).go i H ∧ ∃ Nx : Hp → Prop, (∀ H', Nx H' → ∃ m', m' < m ∧ W (i + 1) m' H') ∧ ∀ x H', (Itl K a).yld i H x H' → g x (wipe σ vs) H' fun σ2 H2 => wipe σ2 vs = wipe σ vs ∧ tt σ2 H2 fun b H3 =>
        if b = true then te σ2 H3 fun y H4 => ∃ acc, H4 D = some (.lst acc) ∧ acc.length < sizeLine ∧ Nx (upd H4 D (.lst (acc ++ [y]))) else Nx H3) := by
  refine ⟨fun i m H => m = xs.length - i ∧ i ≤ xs.length ∧ Pv i H, ⟨xs.length, by simp, Nat.zero_le _, h0⟩, ?_⟩
  rintro i m H ⟨rfl, hi, p⟩
  have q := hl i H hi p
  by_cases hlt : i < xs.length
  · refine .inr ⟨⟨xs, xs[i], q, by simp [hlt]⟩, Pv (i + 1), fun H' p' => ⟨xs.length - (i + 1), by omega, rfl, hlt, p'⟩, fun x H' y => ?_⟩
    obtain ⟨e, y⟩ := y
    subst e
    exact hs i x _ (y xs q) p
  · have e : i = xs.length := by omega
    subst e
    exact .inl ⟨⟨xs, q, Nat.le_refl _⟩, hd H p⟩
def blkC (N : List Str) (sc scope : Scope) (own : List (Str × Nat)) : Bool :=
  (match scope.kind with | .function => true | _ => false) && (scope.names.all fun y => decide (scope.names.lookup y.1 = some y.2)) && (own.all fun p => decide (N[p.2]? = some p.1)) &&
    (scope.names.all fun y => match y.2 with
      | .free => (match sc.names.lookup y.1 with | some .cell => true | some .free => true | _ => false)
      | .local => decide (y.1 ∈ own.map (·.1)) || decide (y.1 ∉ N)
      | .cell => decide (y.1 ∈ own.map (·.1)) || decide (y.1 ∉ N)
      | _ => true)
theorem blkOk_by {N : List Str} {sc scope : Scope} {own : List (Str × Nat)} (h : blkC N sc scope own = true) : BlkOk N sc scope own := by
  unfold blkC at h
  simp only [Bool.and_eq_true, List.all_eq_true, decide_eq_true_eq] at h
  obtain ⟨⟨⟨h1, h2⟩, h3⟩, h4⟩ := h
  refine ⟨?_, h2, h3, fun y hy e => ?_, fun y hy e => ?_⟩
  · split at h1
    · assumption
    · cases h1
  · have q := h4 y hy
    simp only [e] at q
    split at q <;> first | exact .inl (by assumption) | exact .inr (by assumption) | cases q
  · have q := h4 y hy
    rcases e with e | e <;> (simp only [e, Bool.or_eq_true, decide_eq_true_eq] at q; exact q)
end L2

namespace L2
open PySem PySem.Spec PyProof.Rows

section
variable {prog : Program} {w : World} {A : Around} {R : Result → Shared → Prop} {s : Shared} {elt t0 i0 t1 i1 : Expr} {ifs0 ifs1 : List Expr} {scope : Scope} {pos : Pos} {it acc : Value} {env : Env}
end

section
variable {X : Cx}
end
end L2

namespace L2
open PySem PySem.Spec PyProof.Rows

/-! ### lists of pairs as tables -/
section
variable {κ : Type} [DecidableEq κ]
def valV (kvs : List (κ × V)) (k : κ) : Option V := (kvs.find? fun kv => decide (kv.1 = k)).map (·.2)
/-- in its place, or at the end -/
def putK (kvs : List (κ × V)) (k : κ) (v : V) : List (κ × V) :=
  if (kvs.any fun kv => decide (kv.1 = k)) = true then kvs.map (fun kv => if kv.1 = k then (kv.1, v) else kv) else kvs ++ [(k, v)]
def dropK (kvs : List (κ × V)) (k : κ) : List (κ × V) := kvs.filter fun kv => decide (kv.1 ≠ k)

theorem valV_pos {p : κ × V} {r : List (κ × V)} {k : κ} (e : p.1 = k) : valV (p :: r) k = some p.2 := by simp [valV, List.find?_cons, e]
theorem valV_neg {p : κ × V} {r : List (κ × V)} {k : κ} (e : ¬ p.1 = k) : valV (p :: r) k = valV r k := by simp [valV, List.find?_cons, e]
theorem valV_any (k : κ) : ∀ kvs : List (κ × V), (kvs.any fun kv => decide (kv.1 = k)) = (valV kvs k).isSome
  | [] => rfl
  | p :: r => by
    rw [List.any_cons]
    by_cases e : p.1 = k
    · simp only [valV_pos e, decide_eq_true e, Bool.true_or, Option.isSome_some]
    · rw [valV_neg e, decide_eq_false e, Bool.false_or]; exact valV_any k r
theorem length_putK (kvs : List (κ × V)) (k : κ) (v : V) : (putK kvs k v).length ≤ kvs.length + 1 := by
  unfold putK
  split
  · rw [List.length_map]; omega
  · rw [List.length_append, List.length_cons, List.length_nil]; omega
theorem putK_new {kvs : List (κ × V)} {k : κ} (v : V) (h : valV kvs k = none) : putK kvs k v = kvs ++ [(k, v)] := by
  unfold putK
  rw [valV_any, h]
  exact if_neg (by decide)

theorem RelO.isSome_eq {o : Option V} {u : Option Value} (r : RelO o u) : o.isSome = u.isSome := by
  cases o with
  | none => cases u with
    | none => rfl
    | some _ => exact (show False from r).elim
  | some _ => cases u with
    | none => exact (show False from r).elim
    | some _ => rfl
theorem RelO.getD {o : Option V} {u : Option Value} {d : V} {d' : Value} (r : RelO o u) (rd : RelV d d') : RelV (o.getD d) (u.getD d') := by
  cases o with
  | none => cases u with
    | none => exact rd
    | some _ => exact (show False from r).elim
  | some _ => cases u with
    | none => exact (show False from r).elim
    | some _ => exact r

/-- raw tables of the same keys -/
theorem KV.val {kvs : List (κ × V)} {vs : List (κ × Value)} (r : KV kvs vs) (k : κ) : RelO (valV kvs k) (valueAt vs k) := by
  unfold KV at r
  induction r with
  | nil => exact True.intro
  | @cons p q ps qs h t ih =>
    obtain ⟨h1, h2⟩ := h
    by_cases e : p.1 = k
    · have e' : q.1 = k := h1.symm.trans e
      have b : valueAt (q :: qs) k = some q.2 := by simp [valueAt, List.find?_cons, e']
      rw [valV_pos e, b]; exact h2
    · have e' : ¬ q.1 = k := fun z => e (h1.trans z)
      have b : valueAt (q :: qs) k = valueAt qs k := by simp [valueAt, List.find?_cons, e']
      rw [valV_neg e, b]; exact ih
theorem KV.any {kvs : List (κ × V)} {vs : List (κ × Value)} (r : KV kvs vs) (k : κ) : (kvs.any fun kv => decide (kv.1 = k)) = vs.any fun kv => decide (kv.1 = k) := by
  unfold KV at r
  induction r with
  | nil => rfl
  | cons h t ih => rw [List.any_cons, List.any_cons, ih, h.1]
theorem KV.repl {kvs : List (κ × V)} {vs : List (κ × Value)} (r : KV kvs vs) (k : κ) {y : V} {u : Value} (ry : RelV y u) :
    KV (kvs.map fun kv => if kv.1 = k then (kv.1, y) else kv) (vs.map fun kv => if kv.1 = k then (kv.1, u) else kv) := by
  unfold KV at r ⊢
  induction r with
  | nil => exact .nil
  | @cons p q ps qs h t ih =>
    rw [List.map_cons, List.map_cons]
    refine .cons ?_ ih
    obtain ⟨h1, h2⟩ := h
    by_cases e : p.1 = k
    · rw [if_pos e, if_pos (h1.symm.trans e)]; exact ⟨h1, ry⟩
    · rw [if_neg e, if_neg (fun z => e (h1.trans z))]; exact ⟨h1, h2⟩
theorem KV.put {kvs : List (κ × V)} {vs : List (κ × Value)} (r : KV kvs vs) (k : κ) {y : V} {u : Value} (ry : RelV y u) : KV (putK kvs k y) (stored vs k u) := by
  unfold putK stored
  rw [r.any k]
  by_cases e : (vs.any fun kv => decide (kv.1 = k)) = true
  · rw [if_pos e, if_pos e]; exact r.repl k ry
  · rw [if_neg e, if_neg e]; exact Paired.snoc r ⟨rfl, ry⟩
theorem KV.drop {kvs : List (κ × V)} {vs : List (κ × Value)} (r : KV kvs vs) (k : κ) : KV (dropK kvs k) (without vs k) := by
  unfold KV at r ⊢
  unfold dropK without
  induction r with
  | nil => exact .nil
  | @cons p q ps qs h t ih =>
    obtain ⟨h1, h2⟩ := h
    rw [List.filter_cons, List.filter_cons]
    by_cases e : p.1 = k
    · have a : ¬ decide (p.1 ≠ k) = true := by simp [e]
      have b : ¬ decide (q.1 ≠ k) = true := by simp [h1.symm.trans e]
      rw [if_neg a, if_neg b]; exact ih
    · have e' : ¬ q.1 = k := fun z => e (h1.trans z)
      have a : decide (p.1 ≠ k) = true := by simp [e]
      have b : decide (q.1 ≠ k) = true := by simp [e']
      rw [if_pos a, if_pos b]; exact .cons ⟨h1, h2⟩ ih
theorem KV.keys {kvs : List (κ × V)} {vs : List (κ × Value)} (r : KV kvs vs) : kvs.map (·.1) = vs.map (·.1) := by
  unfold KV at r
  induction r with
  | nil => rfl
  | cons h t ih => rw [List.map_cons, List.map_cons, ih, h.1]
theorem KV.length {kvs : List (κ × V)} {vs : List (κ × Value)} (r : KV kvs vs) : kvs.length = vs.length := Paired.length r
end


/-! ### a tracked dict, its keys ints and texts or tuples of these -/
theorem kV_is {P : Program} {w : World} {k : Key} {u : Value} (r : RelV (kV k) u) : (mixKind P w).is k u = true := by
  cases k with
  | inl i => obtain ⟨t, e⟩ := (show ∃ t, u = Value.int i t from r); subst e; exact mixKind_int P w i t
  | inr x => obtain ⟨t, e⟩ := (show ∃ t, u = Value.str x t from r); subst e; exact mixKind_str P w x t
theorem items_are {P : Program} {w : World} : ∀ {ks : List Key} {us : List Value}, Vals (ks.map kV) us → ItemsAre (mixKind P w) ks us
  | [], _, r => by rw [List.map_nil] at r; cases r; exact .nil
  | k :: ks, _, r => by
    rw [List.map_cons] at r
    cases r with
    | cons h t => exact .cons (kV_is h) (items_are t)

/-- raw entries of a dict with tuple keys -/
abbrev KT (H : Hp) : List (List Key × V) → List (List Key × Addr × Value) → Prop := Paired fun p q => p.1 = q.1 ∧ H q.2.1 = some (.tup (p.1.map kV)) ∧ RelV p.2 q.2.2
theorem KT.val {H : Hp} {kvs : List (List Key × V)} {xs : List (List Key × Addr × Value)} (r : KT H kvs xs) (k : List Key) : RelO (valV kvs k) ((atKey xs k).map (·.2)) := by
  induction r with
  | nil => exact True.intro
  | @cons p q ps qs h t ih =>
    obtain ⟨h1, _, h2⟩ := h
    by_cases e : p.1 = k
    · have e' : q.1 = k := h1.symm.trans e
      have b : atKey (q :: qs) k = some q.2 := by simp [atKey, List.find?_cons, e']
      rw [valV_pos e, b]; exact h2
    · have e' : ¬ q.1 = k := fun z => e (h1.trans z)
      have b : atKey (q :: qs) k = atKey qs k := by simp [atKey, List.find?_cons, e']
      rw [valV_neg e, b]; exact ih
theorem KT.repl {H : Hp} {kvs : List (List Key × V)} {xs : List (List Key × Addr × Value)} (r : KT H kvs xs) (k : List Key) {y : V} {u : Value} (ry : RelV y u) :
    KT H (kvs.map fun kv => if kv.1 = k then (kv.1, y) else kv) (xs.map (putAt k u)) := by
  induction r with
  | nil => exact .nil
  | @cons p q ps qs h t ih =>
    rw [List.map_cons, List.map_cons]
    refine .cons ?_ ih
    obtain ⟨h1, h2, h3⟩ := h
    unfold putAt
    by_cases e : p.1 = k
    · rw [if_pos e, if_pos (h1.symm.trans e)]; exact ⟨h1, h2, ry⟩
    · rw [if_neg e, if_neg (fun z => e (h1.trans z))]; exact ⟨h1, h2, h3⟩
theorem KT.put {H : Hp} {kvs : List (List Key × V)} {xs : List (List Key × Addr × Value)} (r : KT H kvs xs) (k : List Key) {b : Addr} {y : V} {u : Value} (hb : H b = some (.tup (k.map kV))) (ry : RelV y u) :
    KT H (putK kvs k y) (storedH xs k b u) := by
  have e : (kvs.any fun kv => decide (kv.1 = k)) = (atKey xs k).isSome := by
    rw [valV_any, (r.val k).isSome_eq, Option.isSome_map]
  unfold putK storedH
  rw [e]
  by_cases q : (atKey xs k).isSome = true
  · rw [if_pos q, if_pos q]; exact r.repl k ry
  · rw [if_neg q, if_neg q]; exact Paired.snoc r ⟨rfl, hb, ry⟩
theorem KT.keeps {H H' : Hp} {kvs : List (List Key × V)} {xs : List (List Key × Addr × Value)} (r : KT H kvs xs) (ht : ∀ b ys, H b = some (.tup ys) → H' b = some (.tup ys)) : KT H' kvs xs :=
  Paired.mapP r fun _ _ z => ⟨z.1, ht _ _ z.2.1, z.2.2⟩

section
variable {P : Program} {w : World} {H : Hp} {h : Heap} {a : Addr}
theorem rd_of {u : HO} (ok : HOk P w H h) (e : Rd H a u) : ObjOk P w H h a u := e.ok ok
theorem dk_rd {kvs : List (Key × V)} (ok : HOk P w H h) (e : Rd H a (.dK kvs)) : kvs.length ≤ sizeLine ∧ (a == sysModules) = false ∧ ∃ vs, KV kvs vs ∧ h.DictOf (mixKind P w) a vs :=
  show ObjOk P w H h a (.dK kvs) from rd_of ok e
theorem dk_of {kvs : List (Key × V)} (ok : HOk P w H h) (e : H a = some (.dK kvs)) : kvs.length ≤ sizeLine ∧ (a == sysModules) = false ∧ ∃ vs, KV kvs vs ∧ h.DictOf (mixKind P w) a vs := dk_rd ok (.inl e)
/-- a tracked tuple of ints and texts is a key -/
theorem key_of {ks : List Key} (ok : HOk P w H h) (e : H a = some (.tup (ks.map kV))) : (tupleKind (mixKind P w)).is h ks a := by
  obtain ⟨_, its, r, o, h1, h2, n, h3⟩ := (show ObjOk P w H h a (.tup (ks.map kV)) from ok a _ e)
  exact ⟨o, its.toArray, n, h1, h2, h3, by simpa using items_are r⟩
theorem dt_rd {kvs : List (List Key × V)} (ok : HOk P w H h) (e : Rd H a (.dT kvs)) : kvs.length ≤ sizeLine ∧ (a == sysModules) = false ∧
    ∃ xs, KT H kvs xs ∧ h.DictOfH (tupleKind (mixKind P w)) a xs := by
  obtain ⟨z, y, xs, r, o, es, ep, h1, h2, h3, h4, h5⟩ := (show ObjOk P w H h a (.dT kvs) from rd_of ok e)
  refine ⟨z, y, xs, r, o, es, ep, h1, h2, h3, h4, fun x hx => ?_, h5⟩
  have all : ∀ {l : List (List Key × V)} {m : List (List Key × Addr × Value)}, KT H l m → ∀ x ∈ m, (tupleKind (mixKind P w)).is h x.1 x.2.1 := by
    intro l m q
    induction q with
    | nil => intro x hx; exact nomatch hx
    | @cons p q ps qs hq t ih =>
      intro x hx
      rcases List.mem_cons.mp hx with e | hx
      · subst e
        exact key_of ok (by rw [← hq.1]; exact hq.2.1)
      · exact ih x hx
  exact all r x hx
theorem dt_of {kvs : List (List Key × V)} (ok : HOk P w H h) (e : H a = some (.dT kvs)) : kvs.length ≤ sizeLine ∧ (a == sysModules) = false ∧
    ∃ xs, KT H kvs xs ∧ h.DictOfH (tupleKind (mixKind P w)) a xs := dt_rd ok (.inl e)
end

/-- what the dict at a holds at the key y -/
def DGet (H : Hp) (a : Addr) (y : V) (r : Option V) : Prop :=
  (∃ kvs k, Rd H a (.dK kvs) ∧ y = kV k ∧ r = valV kvs k) ∨ ∃ kvs k b, Rd H a (.dT kvs) ∧ y = .ref b ∧ H b = some (.tup (k.map kV)) ∧ r = valV kvs k
/-- the heap behind a[y] = v -/
def DPut (H : Hp) (a : Addr) (y v : V) (H' : Hp) : Prop :=
  (∃ kvs k, H a = some (.dK kvs) ∧ y = kV k ∧ kvs.length < sizeLine ∧ H' = upd H a (.dK (putK kvs k v))) ∨
  ∃ kvs k b, H a = some (.dT kvs) ∧ y = .ref b ∧ H b = some (.tup (k.map kV)) ∧ kvs.length < sizeLine ∧ H' = upd H a (.dT (putK kvs k v))
theorem DGet.k {H : Hp} {a : Addr} {kvs : List (Key × V)} {k : Key} (e : H a = some (.dK kvs)) : DGet H a (kV k) (valV kvs k) := .inl ⟨kvs, k, .inl e, rfl, rfl⟩
theorem DGet.t {H : Hp} {a b : Addr} {kvs : List (List Key × V)} {k : List Key} (e : H a = some (.dT kvs)) (eb : H b = some (.tup (k.map kV))) : DGet H a (.ref b) (valV kvs k) := .inr ⟨kvs, k, b, .inl e, rfl, eb, rfl⟩
theorem DPut.k {H : Hp} {a : Addr} {kvs : List (Key × V)} {k : Key} {v : V} (e : H a = some (.dK kvs)) (hl : kvs.length < sizeLine) : DPut H a (kV k) v (upd H a (.dK (putK kvs k v))) := .inl ⟨kvs, k, e, rfl, hl, rfl⟩
theorem DPut.t {H : Hp} {a b : Addr} {kvs : List (List Key × V)} {k : List Key} {v : V} (e : H a = some (.dT kvs)) (eb : H b = some (.tup (k.map kV))) (hl : kvs.length < sizeLine) :
    DPut H a (.ref b) v (upd H a (.dT (putK kvs k v))) := .inr ⟨kvs, k, b, e, rfl, eb, hl, rfl⟩


section
variable {X : Cx} {pins : List (Addr × Obj)} {σ : St} {H : Hp} {s : Shared} {a : Addr} {y v : V} {u r : Value} {o : Option V} {A : Around} {E : Value → Shared → Prop}

theorem Inv.big (I : Inv X pins σ H s) : sysModules < s.heap.objs.size := by
  have h : mainGlobals < s.heap.objs.size := (I.mod.glob.keeps I.bk).lt
  exact Nat.lt_trans (by decide) h

/-- d[y], there -/
theorem d_getItem {Q : Value → Shared → Prop} (hu : A.units + 1 < cLine) (I : Inv X pins σ H s) (g : DGet H a y (some v)) (ry : RelV y u) (h : ∀ w' s', Inv X pins σ H s' → RelV v w' → Q w' s') :
    wpAny (model X.prog X.w) A (getItem (.ref a) u) Q E s := by
  rcases g with ⟨kvs, k, e, ey, l⟩ | ⟨kvs, k, b, e, ey, eb, l⟩
  · subst ey
    obtain ⟨z, hd, vs, rel, dd⟩ := dk_rd I.hok e
    obtain ⟨w', hw, rw'⟩ := RelO.some_of (v := v) (o := valueAt vs k) (by rw [l]; exact rel.val k)
    exact wpAny_getItem_of (kV_is ry) dd.mapOf hw (h w' _ (I.tok _) rw')
  · subst ey
    cases (show u = Value.ref b from ry)
    obtain ⟨z, hd, xs, rel, dd⟩ := dt_rd I.hok e
    obtain ⟨w', hw, rw'⟩ := RelO.some_of (v := v) (o := (atKey xs k).map (·.2)) (by rw [l]; exact rel.val k)
    obtain ⟨p, hp, hp2⟩ := Option.map_eq_some_iff.mp hw
    refine wpAny_getItem_heap (tupleKind_room_in1 hu) (key_of I.hok eb) dd hp ?_
    rw [hp2]
    exact h w' _ (I.tok _) rw'
/-- y in d -/
theorem d_in {Q : Value → Shared → Prop} (hu : A.units + 1 < cLine) (I : Inv X pins σ H s) (g : DGet H a y o) (ry : RelV y u) (h : ∀ s', Inv X pins σ H s' → Q (.bool o.isSome) s') :
    wpAny (model X.prog X.w) A (compareOp .In u (.ref a)) Q E s := by
  rcases g with ⟨kvs, k, e, ey, l⟩ | ⟨kvs, k, b, e, ey, eb, l⟩
  · subst ey
    obtain ⟨z, hd, vs, rel, dd⟩ := dk_rd I.hok e
    refine wpAny_in_of (kV_is ry) hd dd.mapOf ?_
    rw [← (rel.val k).isSome_eq, ← l]
    exact h _ (I.tok _)
  · subst ey
    cases (show u = Value.ref b from ry)
    obtain ⟨z, hd, xs, rel, dd⟩ := dt_rd I.hok e
    refine wpAny_in_heap (tupleKind_room_in1 hu) (key_of I.hok eb) hd dd ?_
    have q := (rel.val k).isSome_eq
    rw [Option.isSome_map] at q
    rw [← q, ← l]
    exact h _ (I.tok _)
/-- a dict's object is replaced -/
theorem d_write {h' : Heap} {t' : Nat} {ob : HO} (I : Inv X pins σ H s) (mu : Mut (H a)) (hs : Heap.SameBut a s.heap h') (he : ∃ q, h'.get? a = some q) (new : ObjOk X.prog X.w (upd H a ob) h' a ob) :
    Inv X pins σ (upd H a ob) { s with heap := h', toks := t' } :=
  I.write (x := a) (e := a) mu (.inl rfl) (fun b q hb z => (hs.2 b hb).trans z) he new
theorem dk_new {P : Program} {w : World} {H' : Hp} {h' : Heap} {kvs : List (Key × V)} {vs : List (Key × Value)} (z : kvs.length ≤ sizeLine) (hd : (a == sysModules) = false) (rel : KV kvs vs) (dd : h'.DictOf (mixKind P w) a vs) :
    ObjOk P w H' h' a (.dK kvs) := ⟨z, hd, vs, rel, dd⟩
/-- d[y] = v -/
theorem d_setItem {H' : Hp} {Q : Unit → Shared → Prop} (hu : A.units + 1 < cLine) (I : Inv X pins σ H s) (g : DPut H a y v H') (ry : RelV y u) (rv : RelV v r) (h : ∀ s', Inv X pins σ H' s' → Q () s') :
    wpAny (model X.prog X.w) A (setItem (.ref a) u r) Q E s := by
  rcases g with ⟨kvs, k, e, ey, l, eH⟩ | ⟨kvs, k, b, e, ey, eb, l, eH⟩
  · subst ey eH
    obtain ⟨z, hd, vs, rel, dd⟩ := dk_of I.hok e
    have hz : vs.length ≤ sizeLine := by rw [← rel.length]; exact z
    have hl : (putK kvs k v).length ≤ sizeLine := by have := length_putK kvs k v; omega
    refine wpAny_setItem_pairs (hsz := hz) (kV_is ry) dd fun h' dd' hs => h _ ?_
    have he : ∃ q, h'.get? a = some q := let ⟨q, _, _, hq, _⟩ := dd'; ⟨q, hq⟩
    exact d_write I (by rw [e]; exact True.intro) hs he (dk_new hl hd (rel.put k rv) dd')
  · subst ey eH
    cases (show u = Value.ref b from ry)
    obtain ⟨z, hd, xs, rel, dd⟩ := dt_of I.hok e
    have hz : xs.length ≤ sizeLine := by rw [← Paired.length rel]; exact z
    have hl : (putK kvs k v).length ≤ sizeLine := by have := length_putK kvs k v; omega
    refine wpAny_setItem_heap (hsz := hz) (tupleKind_room_in1 hu) (key_of I.hok eb) dd fun h' dd' hs => h _ ?_
    obtain ⟨q, es, ep, hq, h2, h3, h4, _, h5⟩ := dd'
    refine d_write I (by rw [e]; exact True.intro) hs ⟨q, hq⟩ ⟨hl, hd, _, (rel.put k eb rv).keeps fun c ys ec => ?_, q, es, ep, hq, h2, h3, h4, h5⟩
    rw [upd_ne (ne_of ec e (fun z => nomatch z))]
    exact ec
end

section
variable {X : Cx} {pins : List (Addr × Obj)} {σ : St} {H : Hp} {s : Shared} {a : Addr} {kvs : List (Key × V)} {k : Key} {u : Value} {A : Around} {E : Value → Shared → Prop}
end


/-! ### readings and rules -/
/-- the element of a subscription, not a slice -/
def NoSl (i : Expr) : Prop := ∀ ov iv, subscripted i false ov iv = operate [ov, iv] (getItem ov iv)
theorem subD_of {prog : Program} {w : World} {A : Around} {E : Value → Shared → Prop} {s : Shared} {env : Env} {value slice : Expr} {pos : Pos} {T id : String} {Q : Value → Shared → Prop}
    (hl : typeLookup (.type T) "__getitem__" = pure (some (.builtin id))) (hs : NoSl slice)
    (h : wpAny (model prog w) A (eval value env) (fun o s₁ => wpAny (model prog w) A (eval slice env) (fun i s₂ => s₂.TypeIs o T ∧ wpAny (model prog w) A (getItem o i) Q E s₂) E s₁) E s) :
    wpAny (model prog w) A (eval (.Subscript value slice pos) env) Q E s := by
  refine Subscript_ (wpAny_mono h (fun o s₁ h₁ => wpAny_mono h₁ (fun i s₂ h₂ => ?_) fun _ _ x => x) fun _ _ x => x)
  obtain ⟨hT, h₂⟩ := h₂
  unfold subscriptTail
  refine wpAny_bind ?_
  rw [getitemInPython_of_ne hT.not_modules]
  refine wpAny_bind (wpAny_specialOf hT hl ?_)
  have fin : wpAny (model prog w) A (subscripted slice false o i) (fun r s₃ => wpAny (model prog w) A (letTemporaryGo value o r >>= fun _ => pure r) Q E s₃) E s₂ := by
    rw [hs o i]
    exact wpAny_operating (wpAny_mono h₂ (fun r s₃ h₃ => wpAny_bind (wpAny_letTemporaryGo (wpAny_pure h₃))) fun _ _ x => x)
  first
    | exact wpAny_pure (wpAny_bind fin)
    | exact wpAny_bind (wpAny_pure (wpAny_bind fin))
    | exact wpAny_bind fin

theorem dict_typeIs {X : Cx} {pins : List (Addr × Obj)} {σ : St} {H : Hp} {s : Shared} {a : Addr} {y : V} {o : Option V} (I : Inv X pins σ H s) (g : DGet H a y o) : s.TypeIs (.ref a) "dict" := by
  rcases g with ⟨kvs, k, e, _, _⟩ | ⟨kvs, k, b, e, _, _, _⟩
  · obtain ⟨_, _, vs, _, dd⟩ := dk_rd I.hok e
    exact dd.typeIs
  · obtain ⟨_, _, xs, _, dd⟩ := dt_rd I.hok e
    exact dd.typeIs
/-- d[y] -/
def tDGet (td ty : TE) : TE := fun σ H Q => td σ H fun x H1 => ty σ H1 fun y H2 => ∃ a v, x = .ref a ∧ DGet H2 a y (some v) ∧ Q v H2
/-- y in d, y not in d -/
def tDIn (ty td : TE) : TE := fun σ H Q => ty σ H fun y H1 => td σ H1 fun x H2 => ∃ a o, x = .ref a ∧ DGet H2 a y o ∧ Q (.bl o.isSome) H2
/-- d[y] = v -/
def sDPut (td ty tv : TE) : TS := fun D σ H => tv σ H fun v H1 => td σ H1 fun x H2 => ty σ H2 fun y H3 => ∃ a H4, x = .ref a ∧ DPut H3 a y v H4 ∧ D.nx σ H4
section
variable {X : Cx} {o i e value : Expr} {pos pos' tpos : Pos} {td ty tv : TE}
theorem pe_dget (hu : X.A.units + 1 < cLine) (ho : PE X o td) (hi : PE X i ty) (hs : NoSl i) : PE X (.Subscript o i pos) (tDGet td ty) := by
  intro pins s σ H Q I h
  refine subD_of PySem.F.slot_dict_getitem.lookup hs (thn (ho pins s σ H _ I h) fun u s1 ⟨x, H1, I1, rx, q1⟩ => thn (hi pins s1 σ H1 _ I1 q1) fun iv s2 ⟨y, H2, I2, ry, a, v, ex, g, q2⟩ => ?_)
  subst ex
  obtain rfl : u = Value.ref a := rx
  exact ⟨dict_typeIs I2 g, d_getItem hu I2 g ry fun w' s3 I3 rw' => ⟨v, H2, I3, rw', q2⟩⟩
theorem pc_din (hu : X.A.units + 1 < cLine) (hi : PE X i ty) (ho : PE X o td) : PC X .In i o (tDIn ty td) := by
  intro pins s σ H Q I h
  refine thn (hi pins s σ H _ I h) fun iv s1 ⟨y, H1, I1, ry, q1⟩ => thn (ho pins s1 σ H1 _ I1 q1) fun u s2 ⟨x, H2, I2, rx, a, ov, ex, g, q2⟩ => ?_
  subst ex
  obtain rfl : u = Value.ref a := rx
  exact d_in hu I2 g ry fun s3 I3 => ⟨.bl ov.isSome, H2, I3, rfl, q2⟩
theorem ps_dput (hu : X.A.units + 1 < cLine) (ho : PE X o td) (hi : PE X i ty) (hv : PE X value tv) (hs : swapsWith value (some (.Subscript o i pos')) pos.line X.env = pure false) :
    PS X (.Assign [.Subscript o i pos'] value pos) (sDPut td ty tv) := by
  intro pins s σ H D I h
  refine wpAny_Assign_Subscript (thn (hv pins s σ H _ I h) fun r s1 ⟨v, H1, I1, rv, q1⟩ => thn (ho pins s1 σ H1 _ I1 q1) fun u s2 ⟨x, H2, I2, rx, q2⟩ => thn (hi pins s2 σ H2 _ I2 q2) fun iv s3 ⟨y, H3, I3, ry, a, H4, ex, g, q3⟩ => ?_) hs
  subst ex
  obtain rfl : u = Value.ref a := rx
  exact d_setItem hu I3 g ry rv fun s4 I4 => ⟨σ, H4, I4, q3⟩
end


/-! ### displays -/
theorem dk_empty {P : Program} {w : World} {H : Hp} (h : Heap) (hb : sysModules < h.objs.size) : ObjOk P w H (h.push { cls := .type "dict", data := .dict #[] }) h.objs.size (.dK []) :=
  ⟨Nat.zero_le _, beq_eq_false_iff_ne.mpr (Ne.symm (Nat.ne_of_lt hb)), [], .nil, Heap.DictOf.new h⟩
/-- {}, to be a dict of the kind that is wanted -/
def tDNewK : TE := fun _ H Q => ∀ p, H p = none → Q (.ref p) (upd H p (.dK []))
section
variable {X : Cx} {pos : Pos}
theorem pe_dnewK : PE X (.Dict [] [] pos) tDNewK := fun pins s σ H Q I h =>
  wpAny_Dict_empty ⟨.ref s.heap.objs.size, _, I.laid (a := s.heap.objs.size) (o := .dK []) (t' := s.toks) (fun _ _ q => Heap.get?_push_of_some _ q) (Nat.le_refl _) (dk_empty s.heap I.big), rfl, h _ (I.hok.fresh (Nat.le_refl _))⟩
end

/-! ### methods -/
/-- a method call o.m(e) of a built-in, with one argument: what must be seen of the text -/
structure M1 (X : Cx) (o : Expr) (m : Str) (apos : Pos) (e : Expr) (cpos : Pos) : Prop where
  base : attributeBase o m X.env (eval o X.env) = eval o X.env
  few : ((backTo cpos (starEach [e] X.env)).all (fun x => !x.1) && (backToKw cpos (keywordEach [] X.env)).all (fun x => x.1.isSome)
    && decide (([e] : List Expr).length + ([] : List Keyword).length + (if ([] : List Keyword).isEmpty then 0 else 1) < 30)) = true
  line : (apos.endLine == cpos.line) = true
  trees : backTo cpos (starEach [e] X.env) = [(false, eval e X.env)]
structure M2 (X : Cx) (o : Expr) (m : Str) (apos : Pos) (e f : Expr) (cpos : Pos) : Prop where
  base : attributeBase o m X.env (eval o X.env) = eval o X.env
  few : ((backTo cpos (starEach [e, f] X.env)).all (fun x => !x.1) && (backToKw cpos (keywordEach [] X.env)).all (fun x => x.1.isSome)
    && decide (([e, f] : List Expr).length + ([] : List Keyword).length + (if ([] : List Keyword).isEmpty then 0 else 1) < 30)) = true
  line : (apos.endLine == cpos.line) = true
  trees : backTo cpos (starEach [e, f] X.env) = [(false, eval e X.env), (false, eval f X.env)]

section
variable {X : Cx} {pins : List (Addr × Obj)} {σ : St} {H : Hp} {s : Shared} {a : Addr} {y d : V} {u r : Value} {o : Option V} {A : Around} {E : Value → Shared → Prop}
end

section
variable {X : Cx} {o e f : Expr} {apos cpos : Pos} {td ty tx : TE}
end

/-! ### dict(d): a copy -/
section
variable {X : Cx} {pins : List (Addr × Obj)} {σ : St} {H : Hp} {s : Shared} {a : Addr} {kvs : List (Key × V)} {A : Around} {E : Value → Shared → Prop}
end


section
variable {X : Cx} {pins : List (Addr × Obj)} {σ : St} {H : Hp} {s : Shared} {a : Addr} {y : V} {u : Value} {A : Around} {E : Value → Shared → Prop}
end
end L2

namespace L2
open PySem PySem.Spec PyProof.Rows

section
variable {prog : Program} {w : World} {A : Around} {E : Value → Shared → Prop}
end

section
variable {X : Cx}
end
end L2

namespace L2
open PySem PySem.Spec PyProof.Rows

section
variable {X : Cx} {pins : List (Addr × Obj)} {σ : St} {H : Hp} {s : Shared} {h' : Heap}
/-- several records of ours have turned -/
theorem Inv.turnedL {t' : Nat} {ch : List Addr} (I : Inv X pins σ H s) (k : ∀ b o, b ∉ ch → s.heap.get? b = some o → h'.get? b = some o) (hf : ∀ b ∈ ch, FpOk X pins H b) : Inv X pins σ H { s with heap := h', toks := t' } := by
  have nit : ∀ b u, H b = some u → b ∉ ch := fun b u e z => by
    have q := (hf b z).1
    rw [q] at e; cases e
  refine I.step (g' := s.gens) (d' := s.drawn) (ch := ch) (fun b hb => ⟨(hf b hb).2.2.2.1, (hf b hb).2.1, (hf b hb).2.2.2.2.1, (hf b hb).2.2.2.2.2⟩) (fun b o _ _ hc e _ => k b o hc e) (fun b o _ _ hc e _ => ⟨o.slots, k b o hc e⟩)
    (fun _ _ _ _ n => n) (fun b o hc e => ⟨o, k b o hc e⟩) (fun _ _ e => e) (fun _ _ _ e => e) (fun b ps e => ⟨#[], by rw [e]; simp⟩) (fun m hm => ?_) (fun b u e => ?_) I.bare
  · obtain ⟨o, es, ep, ho, r⟩ := hm
    exact ⟨o, es, ep, k _ o (fun z => (hf _ z).2.1 rfl) ho, r⟩
  · refine (I.hok b u e).stay (fun c v hc q => k c v ?_ q) (fun _ q => q) fun _ _ q => q
    rcases hc with z | z
    · rw [z]; exact nit b u e
    · exact nit c _ z
/-- .. and one new object is laid -/
theorem Inv.turnedNew {t' : Nat} {ch : List Addr} {T : Addr} {ob : HO} (I : Inv X pins σ H s) (k : ∀ b o, b ∉ ch → s.heap.get? b = some o → h'.get? b = some o) (hf : ∀ b ∈ ch, FpOk X pins H b) (hT : s.heap.objs.size ≤ T)
    (new : ObjOk X.prog X.w (upd H T ob) h' T ob) : Inv X pins σ (upd H T ob) { s with heap := h', toks := t' } := by
  have hn : H T = none := I.hok.fresh hT
  have nit : ∀ b u, H b = some u → b ∉ ch := fun b u e z => by
    have q := (hf b z).1
    rw [q] at e; cases e
  refine I.step (g' := s.gens) (d' := s.drawn) (ch := ch) (fun b hb => ⟨(hf b hb).2.2.2.1, (hf b hb).2.1, (hf b hb).2.2.2.2.1, (hf b hb).2.2.2.2.2⟩) (fun b o _ _ hc e _ => k b o hc e) (fun b o _ _ hc e _ => ⟨o.slots, k b o hc e⟩)
    (fun b o _ e n => ?_) (fun b o hc e => ⟨o, k b o hc e⟩) (fun b xs e => ?_) (fun b o u e => ?_) (fun b ps e => ⟨#[], ?_⟩) (fun m hm => ?_) (fun b u e => ?_) I.bare
  · rw [upd_ne (Nat.ne_of_lt (Nat.lt_of_lt_of_le (Heap.lt_size e) hT))]; exact n
  · rw [upd_ne (ne_of_none e hn)]; exact e
  · rw [upd_ne (ne_of_none e hn)]; exact e
  · rw [upd_ne (ne_of_none e hn), e]; simp
  · obtain ⟨o, es, ep, ho, r⟩ := hm
    exact ⟨o, es, ep, k _ o (fun z => (hf _ z).2.1 rfl) ho, r⟩
  · by_cases hb : b = T
    · subst hb
      rw [upd_same] at e
      cases e
      exact new
    · rw [upd_ne hb] at e
      refine (I.hok b u e).stay (fun c v hc q => k c v ?_ q) (fun c q => by rw [upd_ne (ne_of_none q hn)]; exact q) fun c xs q => by rw [upd_ne (ne_of_none q hn)]; exact q
      rcases hc with z | z
      · rw [z]; exact nit b u e
      · exact nit c _ z

/-! ### locking a thing while a statement runs -/
end
section
variable {X : Cx}
/-! ### one iterator just laid -/
theorem pi_one {tg : Expr} {pins : List (Addr × Obj)} {σ : St} {H : Hp} {s : Shared} {R : It → Hp → Prop} {J : It} {tn : Nat → Heap → Prop} {tk : Nat} (I : Inv X pins σ H s) (o : Obj)
    (T : Turn X.prog X.w X.K tg J [s.heap.objs.size] s.heap.objs.size tn) (st : tn 0 (s.heap.push o)) (q : R J H) : PIE X pins σ tg R (.ref s.heap.objs.size) { s with heap := s.heap.push o, toks := tk } := by
  refine ⟨s.heap.objs.size, [s.heap.objs.size], tn, J, H, rfl, I.kept fun b ob e => Heap.get?_push_of_some _ e, T, st, fun b hb => ?_, q⟩
  have e : b = s.heap.objs.size := by simpa using hb
  subst e
  exact I.fpOk (Nat.le_refl _) (I.hok.fresh (Nat.le_refl _))
end

/-! ### range with a step -/
/-- range(i, j, c): small bounds, n items -/
def RgC (i j c : Int) (n : Nat) : Prop := c ≠ 0 ∧ c.natAbs < 1073741824 ∧ Builtin.Range.small i j c = true ∧ Builtin.Range.rangeSize i j c = n
theorem RgC.neg {i j : Int} (ha : -(2 ^ 62) ≤ i) (ha' : i < 2 ^ 62) (hb : -(2 ^ 62) ≤ j) (hb' : j < 2 ^ 62) : RgC i j (-1) (i - j).toNat :=
  ⟨by decide, by decide, PySem.W.small_down ha ha' hb hb', PySem.W.rangeSize_downNat i j⟩
section
variable {X : Cx} {tg : Expr}
end
/-! ### reversed(list) -/
section
variable {X : Cx} {tg : Expr}
end

/-! ### a str -/
def Its (x : Str) : It := ⟨fun i _ => i < x.cps.size, fun i H v H' => H' = H ∧ ∃ c, x.cps[i]? = some c ∧ v = .str ⟨#[c]⟩, fun i _ => x.cps.size ≤ i⟩
theorem turn_str {P : Program} {w : World} {K : PySem.W.Frag} {tg : Expr} (it : Addr) (x : Str) (t : Tok) (ty : String) (hty : ty = "str_ascii_iterator" ∨ ty = "str_iterator") :
    Turn P w K tg (Its x) [it] it (fun i h => h.IsStrIter it ty x t i) where
  mem := by simp
  obj := fun i h st b hb => by
    have e : b = it := by simpa using hb
    subst e
    obtain ⟨o, e, c, d⟩ := st
    exact ⟨o, e, fun v z => by rw [d] at z; cases z⟩
  keep := fun i h h' st k => let ⟨o, ho, r⟩ := st; ⟨o, k it (by simp) o ho, r⟩
  item := by
    intro X hP hw hK hc i pins s σ H E I hf st hg
    subst hP hw hK
    obtain ⟨f0, f1, f2, f3, f4, f5⟩ := hf it (by simp)
    have W : Walks X.prog X.w X.A it [it] [it] x.cps.size (SignAt x) (fun i h => h.IsStrIter it ty x t i) := by
      rcases hty with e | e
      · rw [e]; exact Walks.strAscii (I.ok.hd hc) it x t
      · rw [e]; exact Walks.strWide (I.ok.hd hc) it x t
    have hno : ["enumerate", "zip", "dict_itemiterator", "dict_reverseitemiterator", "odict_iterator", "itertools.zip_longest", "itertools.pairwise"].contains ty = false := by
      rcases hty with e | e
      · rw [e]; decide
      · rw [e]; decide
    refine W.item i s _ _ hg st fun v h' tk hv st' kk => ?_
    obtain ⟨c, u, hcx, rfl⟩ := hv
    have I1 : Inv X pins σ H { s with heap := h', toks := tk } := I.turned (fun b o hb e => kk b o (by simpa using hb) e) f0 f1 f3 f4 f5
    obtain ⟨oi, e, cc, dd⟩ := id st'
    exact ⟨_, rfl, go_of (s := { s with heap := h', toks := tk }) e cc dd hno ⟨.str ⟨#[c]⟩, H, I1, ⟨u, rfl⟩, ⟨rfl, c, hcx, rfl⟩, st', fun b hb => (hf b hb).1⟩⟩
  done := by
    intro X hP hw hK hc i pins s σ H E I hf st hg
    subst hP hw hK
    obtain ⟨f0, f1, f2, f3, f4, f5⟩ := hf it (by simp)
    have hx : x.cps[i]? = none := Array.getElem?_eq_none hg
    rcases hty with e | e
    · rw [e] at st
      exact wpAny_pyNext_ascii_end (I.ok.hd hc) st hx fun h' eb => ⟨rfl, I.turned (t' := s.toks) (fun b o hb e => eb b o hb e) f0 f1 f3 f4 f5⟩
    · rw [e] at st
      exact wpAny_pyNext_wide_end (I.ok.hd hc) st hx fun h' eb => ⟨rfl, I.turned (t' := s.toks) (fun b o hb e => eb b o hb e) f0 f1 f3 f4 f5⟩
  self := fun A i s Q E st h => by
    rcases hty with e | e
    · rw [e] at st; exact wpAny_pyIter_striter_ascii st h
    · rw [e] at st; exact wpAny_pyIter_striter_wide st h
def iStr (te : TE) : TI := fun σ H R => te σ H fun v H1 => ∃ x, v = .str x ∧ R (Its x) H1
theorem pi_str {X : Cx} {tg e : Expr} {te : TE} (he : PE X e te) : PI X tg e (iStr te) := by
  intro pins s σ H R I h
  refine thn (he pins s σ H _ I h) fun v s1 ⟨y, H1, I1, r1, x, ex, q⟩ => ?_
  subst ex
  obtain ⟨t, rfl⟩ := r1
  cases ha : x.cps.all (· < 128)
  · exact wpAny_pyIter_wide ha (pi_one (tk := s1.toks) I1 _ (turn_str _ x t "str_iterator" (.inr rfl)) ⟨_, Heap.get?_push_size _ rfl, rfl, rfl⟩ q)
  · exact wpAny_pyIter_ascii ha (pi_one (tk := s1.toks) I1 _ (turn_str _ x t "str_ascii_iterator" (.inl rfl)) ⟨_, Heap.get?_push_size _ rfl, rfl, rfl⟩ q)

/-! ### a dict's keys: any dict's entries -/
section
variable {prog : Program} {w : World} {A : Around} {E : Value → Shared → Prop} {s : Shared}
end

/-! ### a locked dict -/
section
variable {X : Cx} {pins : List (Addr × Obj)} {σ : St} {H : Hp} {s : Shared} {d : Addr} {o : Obj}
end

section
variable {P : Program} {w : World} {K : PySem.W.Frag} {tg : Expr} {d : Addr} {o : Obj} {es : Array DictEntry} {ep : Nat}
end

/-! ### for k in d, d.keys(), d.values(), d.items() -/
section
variable {X : Cx} {tg e : Expr} {td : TE} {apos cpos : Pos}
end

/-! ### enumerate(list) -/
/-- the list at a as it stands at each turn, each item in a new pair -/
def Ite (K : PySem.W.Frag) (a : Addr) : It :=
  ⟨fun i H => ∃ (xs : List V) (x : V), SqL K H a xs ∧ xs[i]? = some x, fun i H v H' => ∃ T x, v = .ref T ∧ H T = none ∧ H' = upd H T (.tup [.int (i : Nat), x]) ∧ ∀ xs, SqL K H a xs → xs[i]? = some x, fun i H => ∃ xs : List V, SqL K H a xs ∧ xs.length ≤ i⟩
theorem turn_enum {P : Program} {w : World} {K : PySem.W.Frag} {elts : List Expr} {kk : Nat} {tpos : Pos} (a e it : Addr) :
    Turn P w K (.Tuple elts kk tpos) (Ite K a) [e, it] e (fun i h => (∃ old, IsEnum h e it ((i : Nat) : Int) old) ∧ h.IsListIter it a i ∧ e ≠ it) where
  mem := by simp
  obj := fun i h st b hb => by
    obtain ⟨⟨old, he⟩, ⟨o, ho, hc, hd⟩, _⟩ := st
    have e' : b = e ∨ b = it := by simpa using hb
    rcases e' with z | z
    · rw [z]; exact ⟨_, he, fun v q => nomatch q⟩
    · rw [z]; exact ⟨o, ho, fun v q => by rw [hd] at q; cases q⟩
  keep := fun i h h' st k => let ⟨⟨old, he⟩, hi, hne⟩ := st; ⟨⟨old, k e (by simp) _ he⟩, hi.at fun o q => k it (by simp) o q, hne⟩
  item := by
    intro X hP hw hK hc i pins s σ H E I hf st hg
    subst hP hw hK
    obtain ⟨⟨old, he⟩, hit, hne⟩ := st
    obtain ⟨xs, x, hq, hx⟩ := hg
    obtain ⟨its, rv, p, hz⟩ := I.list hq
    obtain ⟨u, hu, ru⟩ := rv.get hx
    have hel : e < s.heap.objs.size := Heap.lt_size he
    have hil : it < s.heap.objs.size := by obtain ⟨_, q, _⟩ := hit; exact Heap.lt_size q
    refine wpAny_pyNext_enum_item he hit p.isList (x := u) (by simpa using hu) hne fun h' ho hit' hT hsz hk => ?_
    refine ⟨_, rfl, wpAny_letOwnedTupleGo_enum (s := { s with heap := h', toks := s.toks + 1 }) ho fun h'' he' sb => ?_⟩
    have hT2 : h''.get? s.heap.objs.size = some { cls := .type "tuple", data := .seq #[.int i s.toks, u] } := (sb.2 _ (Nat.ne_of_gt hel)).trans hT
    have new : ObjOk X.prog X.w (upd H s.heap.objs.size (.tup [.int (i : Nat), x])) h'' s.heap.objs.size (.tup [.int (i : Nat), x]) :=
      ⟨by show 2 ≤ sizeLine; decide, [.int i s.toks, u], .cons ⟨_, rfl⟩ (.cons ru .nil), ⟨_, hT2, rfl, _, rfl⟩⟩
    have I1 : Inv X pins σ (upd H s.heap.objs.size (.tup [.int (i : Nat), x])) { s with heap := h'', toks := s.toks + 1 } :=
      I.turnedNew (ch := [e, it]) (fun b ob hb q => (sb.2 b (fun z => hb (by simp [z]))).trans (hk b ob (fun z => hb (by simp [z])) (fun z => hb (by simp [z])) q)) hf (Nat.le_refl _) new
    refine ⟨.ref s.heap.objs.size, _, I1, rfl, ⟨_, x, rfl, I.hok.fresh (Nat.le_refl _), rfl, fun ys hy => by rw [I.list_inj hy hq]; exact hx⟩, ⟨⟨u, ?_⟩, hit'.at fun o q => (sb.2 it (Ne.symm hne)).trans q, hne⟩, fun b hb => ?_⟩
    · have e1 : ((i + 1 : Nat) : Int) = (i : Int) + 1 := by omega
      rw [e1]; exact he'
    · have hb' : b < s.heap.objs.size := by
        have e' : b = e ∨ b = it := by simpa using hb
        rcases e' with z | z
        · rw [z]; exact hel
        · rw [z]; exact hil
      rw [upd_ne (Nat.ne_of_lt hb')]
      exact (hf b hb).1
  done := by
    intro X hP hw hK hc i pins s σ H E I hf st hg
    subst hP hw hK
    obtain ⟨⟨old, he⟩, hit, hne⟩ := st
    obtain ⟨xs, hq, hx⟩ := hg
    obtain ⟨its, rv, p, hz⟩ := I.list hq
    obtain ⟨f0, f1, f2, f3, f4, f5⟩ := hf it (by simp)
    have hl := rv.length
    exact wpAny_pyNext_enum_end (I.ok.hd hc) he hit p.isList (by simp; omega) fun h' eb => ⟨rfl, I.turned (t' := s.toks) (fun b o hb q => eb b o hb q) f0 f1 f3 f4 f5⟩
  self := fun A i s Q E st h => let ⟨⟨_, he⟩, _⟩ := st; wpAny_pyIter_enum he h
def iEnum (K : PySem.W.Frag) (ta : TA) : TI := fun σ H R => ta σ H fun vs H1 => ∃ a xs, vs = [.ref a] ∧ SqL K H1 a xs ∧ R (Ite K a) H1
theorem pi_enum {X : Cx} {e : Expr} {ta : TA} {p pos tpos : Pos} {elts : List Expr} {kk : Nat} (hg : Gl X "enumerate") (hm : X.mg "enumerate" = none) (ha : PA X [e] ta) (hs : starEach [e] X.env = [(false, eval e X.env)] := by rfl) :
    PI X (.Tuple elts kk tpos) (.Call (.Name "enumerate" p) [e] [] pos) (iEnum X.K ta) := by
  intro pins s σ H R I h
  refine Call_ (ld_blt I hg hm boot_enumerate (PyProof.Rows.callWith_type1 (thn (ha pos pins s σ H _ I h) fun us s1 ⟨vs, H1, I1, r1, q1⟩ => ?_) hs rfl))
  obtain ⟨a, xs, ex, hq, q⟩ := q1
  subst ex
  cases r1 with
  | cons r rr =>
    cases rr
    cases r
    obtain ⟨its, rv, p', hz⟩ := I1.list hq
    refine call_enumerate_list p'.isList fun h' he hit hsz hk => wpAny_pyIter_enum he ?_
    have I2 : Inv X pins σ H1 { s1 with heap := h' } := I1.kept (t' := s1.toks) hk
    refine ⟨s1.heap.objs.size + 1, [s1.heap.objs.size + 1, s1.heap.objs.size], _, _, H1, rfl, I2, turn_enum a (s1.heap.objs.size + 1) s1.heap.objs.size, ⟨⟨.none, he⟩, hit, Nat.succ_ne_self _⟩, fun b hb => ?_, q⟩
    have e' : b = s1.heap.objs.size + 1 ∨ b = s1.heap.objs.size := by simpa using hb
    have hle : s1.heap.objs.size ≤ b := by
      rcases e' with z | z
      · rw [z]; exact Nat.le_add_right _ _
      · rw [z]; exact Nat.le_refl _
    exact I1.fpOk hle (I1.hok.fresh hle)
/-! ### zip(list, list) -/
theorem boot_zip5 : bootBuiltins "zip" = some (.type "zip") := by decide +kernel
/-- the lists at a and b as they stand at each turn, the items in new pairs -/
def Itz (K : PySem.W.Frag) (a b : Addr) : It :=
  ⟨fun i H => ∃ (xs ys : List V) (x y : V), SqL K H a xs ∧ SqL K H b ys ∧ xs[i]? = some x ∧ ys[i]? = some y,
    fun i H v H' => ∃ T x y, v = .ref T ∧ H T = none ∧ H' = upd H T (.tup [x, y]) ∧ (∀ xs, SqL K H a xs → xs[i]? = some x) ∧ ∀ ys, SqL K H b ys → ys[i]? = some y,
    fun i H => ∃ xs ys : List V, SqL K H a xs ∧ SqL K H b ys ∧ (xs.length ≤ i ∨ ys.length ≤ i)⟩
theorem turn_zip {P : Program} {w : World} {K : PySem.W.Frag} {elts : List Expr} {kk : Nat} {tpos : Pos} {a b z TI TO i1 i2 : Addr} (D : ZipApart z TI TO i1 i2 a b) :
    Turn P w K (.Tuple elts kk tpos) (Itz K a b) [z, TI, TO, i1, i2] z (fun i h => IsZip h z TI TO .none ∧ IsPair h TI (.ref i1) (.ref i2) ∧ (∃ x y, IsPair h TO x y) ∧ h.IsListIter i1 a i ∧ h.IsListIter i2 b i) where
  mem := by simp
  obj := fun i h st c hc => by
    obtain ⟨hz, hTI, ⟨x, y, hTO⟩, ⟨o1, e1, _, d1⟩, ⟨o2, e2, _, d2⟩⟩ := st
    have e' : c = z ∨ c = TI ∨ c = TO ∨ c = i1 ∨ c = i2 := by simpa using hc
    rcases e' with q | q | q | q | q
    · rw [q]; exact ⟨_, hz, fun v q => nomatch q⟩
    · rw [q]; exact ⟨_, hTI, fun v q => nomatch q⟩
    · rw [q]; exact ⟨_, hTO, fun v q => nomatch q⟩
    · rw [q]; exact ⟨o1, e1, fun v q => by rw [d1] at q; cases q⟩
    · rw [q]; exact ⟨o2, e2, fun v q => by rw [d2] at q; cases q⟩
  keep := fun i h h' st k => by
    obtain ⟨hz, hTI, ⟨x, y, hTO⟩, h1, h2⟩ := st
    exact ⟨k z (by simp) _ hz, k TI (by simp) _ hTI, ⟨x, y, k TO (by simp) _ hTO⟩, h1.at fun o q => k i1 (by simp) o q, h2.at fun o q => k i2 (by simp) o q⟩
  item := by
    intro X hP hw hK hc i pins s σ H E I hf st hg
    subst hP hw hK
    obtain ⟨hz, hTI, ⟨x0, y0, hTO⟩, h1, h2⟩ := st
    obtain ⟨xs, ys, x, y, hqx, hqy, hx, hy⟩ := hg
    obtain ⟨its, rv, p, _⟩ := I.list hqx
    obtain ⟨its2, rv2, p2, _⟩ := I.list hqy
    obtain ⟨u, hu, ru⟩ := rv.get hx
    obtain ⟨u2, hu2, ru2⟩ := rv2.get hy
    have hzl : z < s.heap.objs.size := Heap.lt_size hz
    refine wpAny_pyNext_zip_item D hz hTI hTO h1 h2 p.isList p2.isList (x := u) (y := u2) (by simpa using hu) (by simpa using hu2) fun h' z' TO' h1' h2' hT hsz hk => ?_
    refine ⟨_, rfl, wpAny_letOwnedTupleGo_zip (s := { s with heap := h' }) z' fun h'' z'' sb => ?_⟩
    have hT2 : h''.get? s.heap.objs.size = some { cls := .type "tuple", data := .seq #[u, u2] } := (sb.2 _ (Nat.ne_of_gt hzl)).trans hT
    have new : ObjOk X.prog X.w (upd H s.heap.objs.size (.tup [x, y])) h'' s.heap.objs.size (.tup [x, y]) :=
      ⟨by show 2 ≤ sizeLine; decide, [u, u2], .cons ru (.cons ru2 .nil), ⟨_, hT2, rfl, _, rfl⟩⟩
    have I1 : Inv X pins σ (upd H s.heap.objs.size (.tup [x, y])) { s with heap := h'' } :=
      I.turnedNew (t' := s.toks) (ch := [z, TI, TO, i1, i2]) (fun c o hb q => (sb.2 c (fun q' => hb (by simp [q']))).trans (hk c o (fun q' => hb (by simp [q'])) (fun q' => hb (by simp [q'])) (fun q' => hb (by simp [q'])) (fun q' => hb (by simp [q'])) q)) hf (Nat.le_refl _) new
    refine ⟨.ref s.heap.objs.size, _, I1, rfl, ⟨_, x, y, rfl, I.hok.fresh (Nat.le_refl _), rfl, fun l hl => by rw [I.list_inj hl hqx]; exact hx, fun l hl => by rw [I.list_inj hl hqy]; exact hy⟩, ⟨z'', ?_, ⟨u, u2, ?_⟩, ?_, ?_⟩, fun c hcm => ?_⟩
    · exact (sb.2 _ D.TIz).trans (hk _ _ D.TIz D.TITO D.TIi1 D.TIi2 hTI)
    · exact (sb.2 _ D.TOz).trans TO'
    · exact h1'.at fun o q => (sb.2 _ D.i1z).trans q
    · exact h2'.at fun o q => (sb.2 _ D.i2z).trans q
    · have hlt : c < s.heap.objs.size := by
        have e' : c = z ∨ c = TI ∨ c = TO ∨ c = i1 ∨ c = i2 := by simpa using hcm
        rcases e' with q | q | q | q | q
        · rw [q]; exact hzl
        · rw [q]; exact Heap.lt_size hTI
        · rw [q]; exact Heap.lt_size hTO
        · rw [q]; obtain ⟨_, e1, _⟩ := h1; exact Heap.lt_size e1
        · rw [q]; obtain ⟨_, e2, _⟩ := h2; exact Heap.lt_size e2
      rw [upd_ne (Nat.ne_of_lt hlt)]
      exact (hf c hcm).1
  done := by
    intro X hP hw hK hc i pins s σ H E I hf st hg
    subst hP hw hK
    obtain ⟨hz, hTI, ⟨x0, y0, hTO⟩, h1, h2⟩ := st
    obtain ⟨xs, ys, hqx, hqy, hend⟩ := hg
    obtain ⟨its, rv, p, _⟩ := I.list hqx
    obtain ⟨its2, rv2, p2, _⟩ := I.list hqy
    have l1 := rv.length
    have l2 := rv2.length
    have he : its.toArray[i]? = none ∨ its2.toArray[i]? = none := by
      rcases hend with q | q
      · exact .inl (by simp; omega)
      · exact .inr (by simp; omega)
    exact wpAny_pyNext_zip_end (I.ok.hd hc) D hz hTI hTO h1 h2 p.isList p2.isList he fun h' hk => ⟨rfl, I.turnedL (t' := s.toks) (ch := [z, TI, TO, i1, i2]) (fun c o hb q =>
      hk c o (fun q' => hb (by simp [q'])) (fun q' => hb (by simp [q'])) (fun q' => hb (by simp [q'])) (fun q' => hb (by simp [q'])) q) hf⟩
  self := fun A i s Q E st h => wpAny_pyIter_zip st.1 h
end L2

section 
namespace Bits
open PySem PyProof.Rows

end Bits
end 

section 
namespace TL
open PySem PySem.Builtin PySem.Builtin.Str PySem.StrLaws

abbrev tl (x : Str) : List Nat := x.cps.toList
theorem len_tl (x : Str) : x.length = (tl x).length := by simp [tl, Str.length]
theorem ext_tl {x y : Str} (h : tl x = tl y) : x = y := Str.ext' (Array.toList_inj.mp h)
theorem tl_append (x y : Str) : tl (x ++ y) = tl x ++ tl y := by
  show (x ++ y).cps.toList = _
  rw [Str.cps_append, Array.toList_append]
theorem map_tl_inj : ∀ {l m : List Str}, l.map tl = m.map tl → l = m
  | [], [], _ => rfl
  | [], _ :: _, h => by simp at h
  | _ :: _, [], h => by simp at h
  | x :: l, y :: m, h => by
    rw [List.map_cons, List.map_cons] at h
    injection h with h1 h2
    rw [ext_tl h1, map_tl_inj h2]
/-! ### the list functions -/
/-- S stands at the head of l -/
def pre (S l : List Nat) : Bool := l.take S.length == S
/-- l cut at each S from the left; k signs are still to be passed over -/
def spl (S : List Nat) : Nat → List Nat → List Nat → List (List Nat)
  | _, acc, [] => [acc]
  | 0, acc, c :: r => if pre S (c :: r) = true then acc :: spl S (S.length - 1) [] r else spl S 0 (acc ++ [c]) r
  | k + 1, acc, _ :: r => spl S k acc r
/-- what stands before the first S, and behind it -/
def par (S : List Nat) : List Nat → List Nat → Option (List Nat × List Nat)
  | _, [] => none
  | acc, c :: r => if pre S (c :: r) = true then some (acc, (c :: r).drop S.length) else par S (acc ++ [c]) r

theorem spl_nil (S : List Nat) (k : Nat) (acc : List Nat) : spl S k acc [] = [acc] := by cases k <;> rfl
theorem spl_hit {S acc r : List Nat} {c : Nat} (h : pre S (c :: r) = true) : spl S 0 acc (c :: r) = acc :: spl S (S.length - 1) [] r := by
  show (if pre S (c :: r) = true then acc :: spl S (S.length - 1) [] r else spl S 0 (acc ++ [c]) r) = _
  rw [if_pos h]
theorem spl_miss {S acc r : List Nat} {c : Nat} (h : pre S (c :: r) = false) : spl S 0 acc (c :: r) = spl S 0 (acc ++ [c]) r := by
  show (if pre S (c :: r) = true then acc :: spl S (S.length - 1) [] r else spl S 0 (acc ++ [c]) r) = _
  rw [if_neg (by rw [h]; exact Bool.false_ne_true)]
theorem spl_pass (S : List Nat) : ∀ (k : Nat) (acc l : List Nat), spl S k acc l = spl S 0 acc (l.drop k)
  | 0, _, _ => by rw [List.drop_zero]
  | k + 1, acc, [] => by rw [List.drop_nil, spl_nil, spl_nil]
  | k + 1, acc, c :: r => by
    show spl S k acc r = spl S 0 acc (r.drop k)
    exact spl_pass S k acc r
theorem pre_nil {S : List Nat} (hS : S ≠ []) : pre S [] = false := by
  cases S with
  | nil => exact absurd rfl hS
  | cons s S => rfl
theorem pre_of_head {s c : Nat} (S r : List Nat) (h : c ≠ s) : pre (s :: S) (c :: r) = false := by
  cases hp : pre (s :: S) (c :: r) with
  | false => rfl
  | true =>
    have e : (c :: r).take (s :: S).length = s :: S := eq_of_beq hp
    rw [List.length_cons, List.take_succ_cons] at e
    injection e with e1 e2
    exact absurd e1 h
theorem pre_self (S r : List Nat) : pre S (S ++ r) = true := by
  show ((S ++ r).take S.length == S) = true
  have e : (S ++ r).take S.length = S := List.take_left
  rw [e] <;> exact beq_self_eq_true S

theorem getElem_drop_cons {L : List Nat} {a : Nat} (h : a < L.length) : ∃ c, L.drop a = c :: L.drop (a + 1) := ⟨L[a], List.drop_eq_getElem_cons h⟩
theorem spl_run (S L : List Nat) : ∀ (m a : Nat) (acc : List Nat), a + m ≤ L.length → (∀ k, a ≤ k → k < a + m → pre S (L.drop k) = false) →
    spl S 0 acc (L.drop a) = spl S 0 (acc ++ (L.drop a).take m) (L.drop (a + m))
  | 0, a, acc, _, _ => by rw [List.take_zero, List.append_nil, Nat.add_zero]
  | m + 1, a, acc, h, hn => by
    have hlt : a < L.length := by omega
    obtain ⟨c, e⟩ := getElem_drop_cons hlt
    have h0 := hn a (Nat.le_refl _) (by omega)
    have ih := spl_run S L m (a + 1) (acc ++ [c]) (by omega) (fun k h1 h2 => hn k (by omega) (by omega))
    have e2 : a + 1 + m = a + (m + 1) := by omega
    rw [e2] at ih
    rw [e] at h0
    rw [e, spl_miss h0, ih, List.take_succ_cons, List.append_assoc] <;> rfl
theorem drop_two (L : List Nat) (a b : Nat) : (L.drop a).drop b = L.drop (a + b) := by
  first
    | rw [List.drop_drop]
    | rw [List.drop_drop, Nat.add_comm]
theorem spl_at {S L : List Nat} (hS : S ≠ []) {c : Nat} {acc : List Nat} (h : pre S (L.drop c) = true) : spl S 0 acc (L.drop c) = acc :: spl S 0 [] (L.drop (c + S.length)) := by
  rw [← drop_two]
  cases e : L.drop c with
  | nil => rw [e, pre_nil hS] at h; cases h
  | cons d r =>
    rw [e] at h
    rw [spl_hit h, spl_pass]
    cases S with
    | nil => exact absurd rfl hS
    | cons s S => rfl
/-! ### the model's split and partition are these -/
theorem at_iff {x y : Str} (hy : tl y ≠ []) (i : Nat) : At x y x.length i ↔ pre (tl y) ((tl x).drop i) = true := by
  have hx := len_tl x
  have hl := len_tl y
  constructor
  · intro h
    have h2 := h.2
    rw [subAt_eq, hl] at h2
    exact h2
  · intro h
    have e : ((tl x).drop i).take (tl y).length = tl y := eq_of_beq h
    have e1 := congrArg List.length e
    rw [List.length_take, List.length_drop] at e1
    have e2 : 0 < (tl y).length := List.length_pos_iff.mpr hy
    refine ⟨by omega, ?_⟩
    rw [subAt_eq, hl]
    exact h
theorem no_at {x y : Str} (hy : tl y ≠ []) {i : Nat} (h : ¬ At x y x.length i) : pre (tl y) ((tl x).drop i) = false := by
  cases hp : pre (tl y) ((tl x).drop i) with
  | false => rfl
  | true => exact absurd ((at_iff hy i).mpr hp) h
theorem len1 {y : Str} (hy : tl y ≠ []) : 1 ≤ y.length := by
  have e2 : 0 < (tl y).length := List.length_pos_iff.mpr hy
  rw [len_tl y]
  exact e2
theorem tl_strSub (x : Str) (i j : Nat) : tl (strSub x i j) = ((tl x).drop i).take (j - i) := strSub_toList x i j
theorem tl_strSub_end (x : Str) (i : Nat) : tl (strSub x i x.length) = (tl x).drop i := by
  rw [tl_strSub, len_tl x]
  exact List.take_of_length_le (by rw [List.length_drop] <;> omega)

theorem parts_spl {x y : Str} (hy : tl y ≠ []) : ∀ (cuts : List Nat) (a f : Nat), a ≤ (tl x).length → ChainG x y x.length a cuts f → (∀ k, f ≤ k → ¬ At x y x.length k) →
    (partsFrom x y.length a cuts).map tl = spl (tl y) 0 [] ((tl x).drop a)
  | [], a, f, ha, h, hn => by
    have e : f = a := h
    subst e
    show [tl (strSub x f x.length)] = _
    have run := spl_run (tl y) (tl x) ((tl x).length - f) f [] (by omega) (fun k h1 _ => no_at hy (hn k h1))
    have e2 : f + ((tl x).length - f) = (tl x).length := by omega
    rw [e2, List.drop_length, spl_nil, List.nil_append, List.take_of_length_le (by rw [List.length_drop] <;> omega)] at run
    rw [run, tl_strSub_end]
  | c :: r, a, f, ha, h, hn => by
    obtain ⟨h1, h2, h3, h4⟩ := h
    have hc : c + y.length ≤ x.length := h2.1
    have hx := len_tl x
    have hl := len_tl y
    have ih := parts_spl hy r (c + y.length) f (by omega) h4 hn
    show tl (strSub x a c) :: (partsFrom x y.length (c + y.length) r).map tl = _
    have run := spl_run (tl y) (tl x) (c - a) a [] (by omega) (fun k k1 k2 => no_at hy (h3 k k1 (by omega)))
    have e2 : a + (c - a) = c := by omega
    rw [e2, List.nil_append, spl_at hy ((at_iff hy c).mp h2)] at run
    rw [run, ih, tl_strSub, hl]

/-- hk: by kind_ok where the separator is plain -/
theorem split_spl (x y : Str) (hy : tl y ≠ []) (hk : ¬ Builtin.Str.strKind x < Builtin.Str.strKind y) : (Txt.split x y).map tl = spl (tl y) 0 [] (tl x) := by
  obtain ⟨f, g, hn⟩ := occ_tight x y (len1 hy)
  have key := parts_spl hy _ 0 f (Nat.zero_le _) g hn
  rw [List.drop_zero] at key
  have none_case : occurrences x y 0 x.length (x.length + 1) = [] → [x].map tl = spl (tl y) 0 [] (tl x) := fun ho => by
    rw [ho] at key
    rw [← key]
    show [tl x] = [tl (strSub x 0 x.length)]
    rw [sub_whole]
  unfold Txt.split
  by_cases h1 : (decide (x.length < y.length) || decide (Builtin.Str.strKind x < Builtin.Str.strKind y)) = true
  · rw [if_pos h1]
    have hlt : x.length < y.length := by
      simp only [Bool.or_eq_true, decide_eq_true_eq] at h1
      rcases h1 with h | h
      · exact h
      · exact absurd h hk
    refine none_case ?_
    cases ho : occurrences x y 0 x.length (x.length + 1) with
    | nil => rfl
    | cons c r =>
      rw [ho] at g
      have hc : c + y.length ≤ x.length := g.2.1.1
      omega
  · rw [if_neg h1]
    by_cases h2 : (occurrences x y 0 x.length (x.length + 1)).isEmpty = true
    · rw [if_pos h2]
      exact none_case (List.isEmpty_iff.mp h2)
    · rw [if_neg h2, partsBetween_eq]
      exact key
theorem kind_ok {x y : Str} (h : y.cps.all (· < 256) = true) : ¬ Builtin.Str.strKind x < Builtin.Str.strKind y := by
  have e : Builtin.Str.strKind y = 1 := by unfold PySem.Builtin.Str.strKind; rw [if_pos h]
  rw [e]
  unfold PySem.Builtin.Str.strKind
  split
  · omega
  · split <;> omega

/-! ### computing spl and par -/
/-- a part that the separator does not begin in, then the separator -/
theorem spl_part {S p rest acc : List Nat} (hS : S ≠ []) (h : ∀ i, i < p.length → pre S ((p ++ (S ++ rest)).drop i) = false) :
    spl S 0 acc (p ++ (S ++ rest)) = (acc ++ p) :: spl S 0 [] rest := by
  have run := spl_run S (p ++ (S ++ rest)) p.length 0 acc (by rw [List.length_append]; omega) (fun k _ k2 => h k (by omega))
  have ed : (p ++ (S ++ rest)).drop p.length = S ++ rest := List.drop_left
  rw [List.drop_zero, Nat.zero_add, List.take_left] at run
  rw [run, spl_at hS (by rw [ed]; exact pre_self S rest), ← drop_two, ed, List.drop_left]
theorem spl_last {S p acc : List Nat} (h : ∀ i, i < p.length → pre S (p.drop i) = false) : spl S 0 acc p = [acc ++ p] := by
  have run := spl_run S p p.length 0 acc (by omega) (fun k _ k2 => h k (by omega))
  rw [List.drop_zero, Nat.zero_add, List.drop_length, spl_nil, List.take_length] at run
  exact run
/-- the separator's first sign is not in the part -/
theorem free_of {s : Nat} {S p q : List Nat} (h : s ∉ p) : ∀ i, i < p.length → pre (s :: S) ((p ++ q).drop i) = false := fun i hi => by
  have hlt : i < (p ++ q).length := by rw [List.length_append]; omega
  have e : (p ++ q).drop i = (p ++ q)[i] :: (p ++ q).drop (i + 1) := List.drop_eq_getElem_cons hlt
  rw [e]
  refine pre_of_head _ _ fun z => h ?_
  have e1 : (p ++ q)[i] = p[i] := List.getElem_append_left hi
  rw [← z, e1]
  exact List.getElem_mem hi
theorem spl_part1 {s : Nat} {S p rest acc : List Nat} (h : s ∉ p) : spl (s :: S) 0 acc (p ++ (s :: S ++ rest)) = (acc ++ p) :: spl (s :: S) 0 [] rest :=
  spl_part (by simp) (free_of h)
theorem spl_last1 {s : Nat} {S p acc : List Nat} (h : s ∉ p) : spl (s :: S) 0 acc p = [acc ++ p] := spl_last fun i hi => by
  have z := free_of (S := S) (q := []) h i hi
  rw [List.append_nil] at z
  exact z
/-- joined lists -/
def joinL (S : List Nat) : List (List Nat) → List Nat
  | [] => []
  | [p] => p
  | p :: q :: r => p ++ (S ++ joinL S (q :: r))
theorem tl_join (y : Str) : ∀ parts : List Str, tl (Str.join y parts) = joinL (tl y) (parts.map tl)
  | [] => rfl
  | [_] => rfl
  | x :: z :: r => by
    show tl (x ++ y ++ Str.join y (z :: r)) = tl x ++ (tl y ++ joinL (tl y) ((z :: r).map tl))
    rw [tl_append, tl_append, tl_join y (z :: r), List.append_assoc]
theorem spl_join {s : Nat} {S : List Nat} : ∀ {parts : List (List Nat)}, parts ≠ [] → (∀ p ∈ parts, s ∉ p) → spl (s :: S) 0 [] (joinL (s :: S) parts) = parts
  | [], h, _ => absurd rfl h
  | [p], _, hp => by
    show spl (s :: S) 0 [] p = [p]
    rw [spl_last1 (hp p (List.mem_singleton.mpr rfl)), List.nil_append]
  | p :: q :: r, _, hp => by
    show spl (s :: S) 0 [] (p ++ (s :: S ++ joinL (s :: S) (q :: r))) = p :: q :: r
    rw [spl_part1 (hp p (List.mem_cons_self ..)), List.nil_append, spl_join (by simp) fun z hz => hp z (List.mem_cons_of_mem _ hz)]
theorem join_eq (y : Str) (parts : List Str) : Txt.join y parts = Str.join y parts := glued_eq_join y parts
/-- THE READ-BACK: a joined text, split -/
theorem split_join {y : Str} {s : Nat} {S : List Nat} (ey : tl y = s :: S) (hk : y.cps.all (· < 256) = true) {parts : List Str} (hne : parts ≠ []) (hp : ∀ p ∈ parts, s ∉ tl p) :
    Txt.split (Txt.join y parts) y = parts := by
  refine map_tl_inj ?_
  rw [split_spl _ y (by rw [ey]; simp) (kind_ok hk), join_eq, tl_join, ey]
  refine spl_join (fun e => hne (List.map_eq_nil_iff.mp e)) fun p h => ?_
  obtain ⟨z, hz, rfl⟩ := List.mem_map.mp h
  exact hp z hz
/-! ### digits -/
/-- the signs of a number -/
def numL (n : Nat) : List Nat := (Nat.toDigits 10 n).map Char.toNat
/-! ### words: x.split() -/
end TL
end 

namespace L2
open PySem PySem.Spec PyProof.Rows

theorem notLong {n : Nat} (h : n ≤ 16777216) : Builtin.Str.tooLong n = false := by
  have e : (2 : Nat) ^ 24 = 16777216 := by decide
  unfold Builtin.Str.tooLong sizeLine
  exact decide_eq_false (by omega)

/-- a list of texts, of numbered texts -/
theorem vals_strs : ∀ l : List (Str × Tok), Vals ((l.map (·.1)).map V.str) (strValues l)
  | [] => .nil
  | p :: r => .cons ⟨p.2, rfl⟩ (vals_strs r)
theorem strs_of_vals : ∀ {ys : List Str} {us : List Value}, Vals (ys.map V.str) us → StrsAre us ys
  | [], _, .nil => .nil
  | y :: ys, _, .cons r t => by
    obtain ⟨k, rfl⟩ := r
    exact .cons y k (strs_of_vals t)

/-- a new list of texts, tracked -/
def rNewStrs (ys : List Str) : Hp → VK → Prop := fun H Q => ∀ p, H p = none → Q (.ref p) (upd H p (.lst (ys.map V.str)))

section
variable {X : Cx} {pins : List (Addr × Obj)} {σ : St} {H : Hp} {s : Shared} {Q : VK}
theorem laid_strs {l : List (Str × Tok)} {ys : List Str} {k : Nat} (I : Inv X pins σ H s) (e : l.map (·.1) = ys) (hz : ys.length ≤ sizeLine) (h : rNewStrs ys H Q) :
    EP X pins σ Q (.ref s.heap.objs.size) { s with toks := k, heap := s.heap.push { cls := .type "list", data := .seq (strValues l).toArray } } := by
  have hp := I.hok.fresh (Nat.le_refl _)
  refine ⟨.ref s.heap.objs.size, upd H s.heap.objs.size (.lst (ys.map V.str)), I.laid (fun b u q => Heap.get?_push_of_some _ q) (Nat.le_refl _) ⟨by rw [List.length_map]; exact hz, strValues l, _, ?_, Heap.get?_push_size _ rfl⟩, rfl, h _ hp⟩
  rw [← e]
  exact vals_strs l
end

section
variable {X : Cx}

/-- x.split(sep) -/
theorem mt_split : MtR X "str.split" (fun x xs H Q => ∃ a b, x = .str a ∧ xs = [.str b] ∧ (b.length == 0) = false ∧ a.length + 2 ≤ sizeLine ∧ rNewStrs (Txt.split a b) H Q) := by
  intro pins s σ H x xs v us Q I rx rs h
  obtain ⟨a, b, rfl, rfl, hb, hz, h⟩ := h
  obtain ⟨t, rfl⟩ := rx
  cases rs with
  | cons r1 rs =>
    cases rs
    obtain ⟨u, rfl⟩ := r1
    have hl : (Txt.split a b).length ≤ sizeLine := Nat.le_trans (PyProof.Rows.split_le a b) hz
    have hn : (Builtin.Str.partsBetween a (Builtin.Str.occurrences a b 0 a.length (a.length + 1)) b.length).length ≤ sizeLine := by
      have e1 := StrLaws.occ_length_le a b 0 a.length (a.length + 1)
      rw [length_partsBetween]; omega
    cases h1 : (decide (a.length < b.length) || decide (Builtin.Str.strKind a < Builtin.Str.strKind b))
    · cases hf : (Builtin.Str.occurrences a b 0 a.length (a.length + 1)).isEmpty
      · refine call_meets F.slot_str_split (typeIs_str _ _ _) F.entry_str_split (F.args_str_split_2 _ _) (meets_str_split_sep a b t u h1 hb hf (by omega) hn) ?_
        show EP X pins σ Q (.ref s.heap.objs.size) { s with toks := _, heap := s.heap.push { cls := .type "list", data := .seq (strsFrom s.toks (Builtin.Str.partsBetween a (Builtin.Str.occurrences a b 0 a.length (a.length + 1)) b.length)).toArray } }
        rw [strsFrom_eq]
        exact laid_strs (ys := Txt.split a b) I ((numbered_texts _ _).trans ((if_neg (ne_true_of_eq_false h1)).trans (if_neg (ne_true_of_eq_false hf))).symm) hl h
      · refine call_meets F.slot_str_split (typeIs_str _ _ _) F.entry_str_split (F.args_str_split_2 _ _) (meets_str_split_not_found a b t u h1 hb hf) ?_
        exact laid_strs (l := [(a, t)]) (ys := Txt.split a b) (k := s.toks) I ((if_neg (ne_true_of_eq_false h1)).trans (if_pos hf)).symm hl h
    · refine call_meets F.slot_str_split (typeIs_str _ _ _) F.entry_str_split (F.args_str_split_2 _ _) (meets_str_split_cannot_occur a b t u h1) ?_
      exact laid_strs (l := [(a, t)]) (ys := Txt.split a b) (k := s.toks) I (if_pos h1).symm hl h

/-- sep.join(a list | a tuple of texts) -/
theorem mt_join : MtR X "str.join" (fun x xs H Q => ∃ a p, ∃ ys : List Str, x = .str a ∧ xs = [.ref p] ∧ (SqL X.K H p (ys.map V.str) ∨ SqT X.K H p (ys.map V.str)) ∧
    (ys.map (·.length)).sum + ys.length * a.length ≤ 16777216 ∧ Q (.str (Txt.join a ys)) H) := by
  intro pins s σ H x xs v us Q I rx rs h
  obtain ⟨a, p, ys, rfl, rfl, hp, hz, h⟩ := h
  obtain ⟨t, rfl⟩ := rx
  cases rs with
  | cons r1 rs =>
    cases rs
    cases r1
    rcases hp with hp | hp
    · obtain ⟨its, r, ⟨o, n, ho, hc, _, hd⟩, _⟩ := I.list hp
      exact PyProof.Rows.join_list (items := its.toArray) ⟨o, ho, hc, n, hd⟩ (by rw [List.toList_toArray]; exact strs_of_vals r) hz fun t' k => ⟨.str _, H, I.tok k, ⟨t', rfl⟩, h⟩
    · obtain ⟨its, r, ht, _⟩ := I.tuple hp
      exact PyProof.Rows.join_tuple (items := its.toArray) ht (by rw [List.toList_toArray]; exact strs_of_vals r) hz fun t' k => ⟨.str _, H, I.tok k, ⟨t', rfl⟩, h⟩

/-! ### of a text alone -/
/-! ### of a text and a text -/
theorem mt1 {id : String} {g : Str → Str → V} (rule : ∀ (a b : Str) (t u : Tok) (s : Shared) (Q : Value → Shared → Prop), (∀ (v : Value) (k : Nat), RelV (g a b) v → Q v { s with toks := k }) →
    wpAny (model X.prog X.w) X.A (call (.builtin id) [.str a t, .str b u]) Q X.xe s) : MtR X id (fun x xs H Q => ∃ a b, x = .str a ∧ xs = [.str b] ∧ Q (g a b) H) := by
  intro pins s σ H x xs v us Q I rx rs h
  obtain ⟨a, b, rfl, rfl, h⟩ := h
  obtain ⟨t, rfl⟩ := rx
  cases rs with
  | cons r1 rs =>
    cases rs
    obtain ⟨u, rfl⟩ := r1
    exact rule a b t u s _ fun v k r => ⟨g a b, H, I.tok k, r, h⟩
theorem mt_startswith : MtR X "str.startswith" (fun x xs H Q => ∃ a b, x = .str a ∧ xs = [.str b] ∧ Q (.bl (Txt.startswith a b)) H) :=
  mt1 (g := fun a b => .bl (Txt.startswith a b)) fun _ _ _ _ s _ h => PySem.SC.startswith (h _ s.toks rfl)
/-- int(text) -/
theorem call_int_str : CallR X (.type "int") (fun xs H Q => ∃ a n, xs = [.str a] ∧ PySem.intText? a = some n ∧ a.length ≤ 640 ∧ Q (.int n) H) := by
  intro pins s σ H xs us Q I rs h
  obtain ⟨a, n, rfl, hn, hl, h⟩ := h
  cases rs with
  | cons r1 rs =>
    cases rs
    obtain ⟨t, rfl⟩ := r1
    exact PySem.W.KIN.call_text hn hl ⟨.int n, H, I.tok _, ⟨_, rfl⟩, h⟩
end

section
variable {X : Cx} {o e : Expr} {to te : TE}
def tM1 (r : V → List V → Hp → VK → Prop) (to te : TE) : TE := fun σ H Q => to σ H fun x H1 => (∃ a, x = .str a) ∧ te σ H1 fun y H2 => r x [y] H2 Q
theorem pe_m1 {id : String} {name : Str} {apos pos : Pos} {r : V → List V → Hp → VK → Prop} (slot : Slot "str" name id) (ty : typeOf (.builtin id) = pure (.type "method_descriptor")) (rule : MtR X id r) (ho : PE X o to) (he : PE X e te)
    (hs : starEach [e] X.env = [(false, eval e X.env)] := by rfl) (hbase : attributeBase o name X.env (eval o X.env) = eval o X.env := by rfl) (hline : (apos.endLine == pos.line) = true := by rfl) :
    PE X (.Call (.Attribute o name apos) [e] [] pos) (tM1 r to te) := by
  intro pins s σ H Q I h
  refine PySem.Call_method1 hbase hs hline (thn (ho pins s σ H _ I h) fun v s1 ⟨x, H1, I1, r1, q1⟩ => ?_)
  obtain ⟨⟨a, rfl⟩, q1⟩ := q1
  obtain ⟨t, rfl⟩ := _root_.id r1
  refine ⟨"str", _, F.plainAttrs_str, slot, ty, typeIs_str _ _ _, (fun _ e => nomatch e), Calls.callWith_builtin rfl (Calls.evalArgs_plain (Calls.spliced_cons ?_))⟩
  exact thn (he pins s1 σ H1 _ I1 q1) fun u s2 ⟨y, H2, I2, r2, q2⟩ => Calls.spliced_nil (rule pins s2 σ H2 _ [y] _ [u] Q I2 r1 (.cons r2 .nil) q2)

theorem pe_split {apos pos : Pos} (ho : PE X o to) (he : PE X e te) (hs : starEach [e] X.env = [(false, eval e X.env)] := by rfl) (hbase : attributeBase o "split" X.env (eval o X.env) = eval o X.env := by rfl) (hline : (apos.endLine == pos.line) = true := by rfl) :
    PE X (.Call (.Attribute o "split" apos) [e] [] pos) (tM1 (fun x xs H Q => ∃ a b, x = .str a ∧ xs = [.str b] ∧ (b.length == 0) = false ∧ a.length + 2 ≤ sizeLine ∧ rNewStrs (Txt.split a b) H Q) to te) :=
  pe_m1 F.slot_str_split F.type_str_split mt_split ho he hs hbase hline
theorem pe_join {apos pos : Pos} (ho : PE X o to) (he : PE X e te) (hs : starEach [e] X.env = [(false, eval e X.env)] := by rfl) (hbase : attributeBase o "join" X.env (eval o X.env) = eval o X.env := by rfl) (hline : (apos.endLine == pos.line) = true := by rfl) :
    PE X (.Call (.Attribute o "join" apos) [e] [] pos) (tM1 (fun x xs H Q => ∃ a p, ∃ ys : List Str, x = .str a ∧ xs = [.ref p] ∧ (SqL X.K H p (ys.map V.str) ∨ SqT X.K H p (ys.map V.str)) ∧
      (ys.map (·.length)).sum + ys.length * a.length ≤ 16777216 ∧ Q (.str (Txt.join a ys)) H) to te) :=
  pe_m1 F.slot_str_join F.type_str_join mt_join ho he hs hbase hline
end
end L2

namespace L2
open PySem PySem.Spec PyProof.Rows

section
variable {X : Cx}
theorem op_le_str : OpR X (compareOp .LtE) (fun x y H Q => ∃ i j, x = .str i ∧ y = .str j ∧ Q (.bl (!decide (j.cps.toList < i.cps.toList))) H) := by
  intro pins s σ H x y v u Q I rx ry h
  obtain ⟨i, j, rfl, rfl, q⟩ := h
  obtain ⟨t, rfl⟩ := rx
  obtain ⟨t', rfl⟩ := ry
  exact PySem.P.le_str (fin_bl I q rfl)
end

/-! ### slices of a text -/
theorem IsPart.raw {v : Value} {o : Option Int} (p : IsPart v o) : ∃ l : Option (Int × Tok), v = partValue l ∧ l.map (·.1) = o := by
  cases p with
  | none => exact ⟨none, rfl, rfl⟩
  | int i t => exact ⟨some (i, t), rfl, rfl⟩

end L2

namespace Att
open PySem PySem.W PySem.Calls PyProof.Rows

/-! ### the script -/
theorem ints_of_wellAll {P : Params} {h : Heap} : ∀ (ns : List Int) (vs : List Value), WellAll P h vs (ns.map WData.int) → IntsAre vs ns := by
  intro ns
  induction ns with
  | nil =>
    intro vs w
    rw [List.map_nil] at w
    cases w
    exact .nil
  | cons n ns ih =>
    intro vs w
    rw [List.map_cons] at w
    cases w with
    | cons a b =>
      cases a
      exact .cons _ _ (ih _ b)

theorem script_of {l : OpenLaw} {n : Nat} (hn : l.most = some n) {P : Params} {h : Heap} {args : List WData} {vals : List Value}
    (hpre : l.row.toRowW.claim.pre args = true) (hwl : WellAll P h vals args) :
    ∃ a vs ns, vals = [Value.ref a] ∧ args = [WData.list (ns.map WData.int)] ∧ h.get? a = some { cls := .type "list", data := .seq vs.toArray } ∧ IntsAre vs ns ∧ ns.length ≤ n := by
  have hsh : WShape.hasAll [] args [.list .int] = true := (pre_splitW hpre).1
  have hc : l.pre.holds [] { args := args } = true := (pre_splitW hpre).2
  obtain ⟨d, r, rfl, h1, h2⟩ := hasAllW_cons hsh
  obtain rfl := hasAllW_nil h2
  obtain ⟨xs, rfl, h3⟩ := hasW_list h1
  obtain ⟨ns, rfl⟩ := items_int h3
  have hlen : ns.length ≤ n := by
    unfold OpenLaw.pre at hc
    have h4 : (WTm.not (.lt (.lit (.int (n : Int))) (.len (.arg 0)))).holds [] { args := [.list (ns.map .int)] } = true := by
      have h4 := (holds_andW hc).1
      rw [hn] at h4
      exact h4
    have h5 := condW_of h4 (w_not (w_lt w_lit (w_len_list (w_arg rfl))))
    rw [List.length_map] at h5
    refine Nat.le_of_not_lt fun q => ?_
    have q' : (n : Int) < ((ns.length : Nat) : Int) := by omega
    first
      | (rw [decide_eq_true q'] at h5; exact absurd h5 (by decide))
      | (simp at h5; omega)
  cases hwl with
  | cons w1 w2 =>
    cases w2
    cases w1 with
    | list ho hall => exact ⟨_, _, ns, rfl, rfl, ho, ints_of_wellAll ns _ hall, hlen⟩

theorem post_true (l : OpenLaw) (args : List WData) : l.row.toRowW.claim.post args (.bool true) args = true :=
  postW_of (r := l.row.toRowW) (X := (true == true))
    (show WShape.has [] (.bool true) .bool = true by first | rfl | decide | simp [WShape.has, WShape.arms, WShape.armsAll])
    (show (WTm.eq .res (.lit (.bool true))).value [] { args := args, res := some (.bool true), after := args } = some (.bool (true == true)) from w_eq_bool (w_res rfl) w_lit) rfl

/-! ### the attachment: holds_open's last premise (the goal 'hc' behind k_head) from a wpAny of the law's body -/
/-- the same from a codeAny of the CALL (for a layer whose function contracts speak of calls) -/
theorem attach_call {l : OpenLaw} {n : Nat} {q : Program} {loose : List Str} {XP : (Str → Option Value) → Heap → Prop} {YP : World → Heap → Prop} {d : DefRec}
    (hn : l.most = some n) (hdf : d.params.defaults = [])
    (call : ∀ (w : World) (s₀ s₁ : Shared) (mg mb : Str → Option Value) (fa : Addr) (o : Obj) (pm cd doc : Value) (a : Addr) (vs : List Value) (ns : List Int),
      Ground q loose [] XP w s₀ mg mb s₁.heap → YP w s₁.heap →
      s₁.heap.get? fa = some o → o.data = .func (docDef d.name d.params d.body d.scope pm cd doc) → s₁.heap.CodeRec cd d.name → mg d.name = some (.ref fa) →
      s₁.heap.get? a = some { cls := .type "list", data := .seq vs.toArray } → IntsAre vs ns → ns.length ≤ n → s₁.gens = #[] →
      codeAny (model l.prog w) callerA (.call (.ref fa) ⟨[.ref a], []⟩) (fun r s' => r = .ok (.ret (.bool true)) ∧ OldK s₁.heap s'.heap ∧ s'.os = s₁.os ∧ AllBare s'.gens) s₁) :
    WalkO q loose XP YP l.row.toRowW d [] (fun f vs => PySem.call f vs) := by
  intro w s₀ s₁ mg mb G Y fa o pm cd doc dV kV ho hd hcd hD hmg hg args vals as hpre hlay hrd hwl hlo
  obtain rfl : dV = .none := Dflts.none hD hdf
  obtain rfl : kV = .none := Dflts.noKw hD
  obtain ⟨a, vs, ns, rfl, rfl, hobj, hints, hlen⟩ := script_of hn hpre hwl
  refine enter_call (codeAny_mono (call w s₀ s₁ mg mb fa o pm cd doc a vs ns G Y ho (fd_plain hd) hcd hmg hobj hints hlen hg) fun r s' hq => ?_)
  obtain ⟨rfl, h2, h3, h4⟩ := hq
  exact ⟨.inl ⟨.bool true, .bool true, [], rfl, fun _ => rfl, .bool true, post_true l _, fun _ => ⟨List.Pairwise.nil, fun _ hm => (nomatch hm)⟩⟩, h2, h3, h4⟩

/-! ### rules over ANY heap (no ledger) from facts about the written part K: the library's own take a ledger (News) for what they write -/
section
variable {prog : Program} {w : World} {A : Around} {E : Value → Shared → Prop} {s : Shared} {K : Frag}

/-! the whole heap as the ledger: makes every rule that writes through a ledger a rule over any heap -/
def ledger (h : Heap) (L d : Addr) : List (Addr × Obj) := (List.range h.objs.size).filterMap fun a => if a = L ∨ a = d then none else (h.get? a).map fun o => (a, o)
end
end Att

namespace L2
open PySem PySem.Spec PyProof.Rows

theorem vals_ints : ∀ {vs : List Value} {ns : List Int}, IntsAre vs ns → Vals (ns.map V.int) vs
  | _, _, .nil => .nil
  | _, _, .cons n t h => .cons ⟨t, rfl⟩ (vals_ints h)

end L2

namespace L2
open PySem PySem.Spec PyProof.Rows

end L2

/-! SHORT WORDS over the layer: a def of the text, its body, what a loop and a test want. -/
namespace L2
open PySem PySem.Spec PyProof.Rows

/-! ### the text by places -/
def defArgs (s : Stmt) : Arguments := match s with
  | .FunctionDef _ a _ _ _ _ _ _ _ _ => a
  | _ => { posonlyargs := [], args := [], vararg := none, kwonlyargs := [], kw_defaults := [], kwarg := none, defaults := [] }
def defBody (s : Stmt) : List Stmt := match s with
  | .FunctionDef _ _ b _ _ _ _ _ _ _ => b
  | _ => []
def defScope (s : Stmt) : Scope := match s with
  | .FunctionDef _ _ _ _ _ _ sc _ _ _ => sc
  | _ => { kind := .function, names := [], isGenerator := false, isCoroutine := false }

/-! ### no exception leaves a def -/
abbrev CX0 : CXT := fun _ _ _ _ _ _ => False
abbrev E0 : XK := fun _ _ _ => False
theorem pass0 {X : Cx} : Passes CX0 X E0 := fun _ _ _ _ _ _ _ h => h.elim

/-! ### a def (or method) of the text as it stands behind the top -/
structure Fun (K : PySem.W.Frag) (x qual : Str) (st : Stmt) (f : Addr) (fd : FuncData) : Prop where
  ex : ∃ (oc : Value) (od : Option Addr) (kV doc pm : Value) (an : Option Addr) (cdv ct : Value) (osl : Array (Option Value)),
    fd = PySem.W.fnOf x qual (defArgs st) (defBody st) (defScope st) .none kV doc pm an cdv ct ∧ K.lookup f = some ⟨oc, od, .func fd, osl⟩ ∧ PySem.W.codeIn K cdv qual = true
  kp : PySem.W.keepIn K (.ref f) = true
section
variable {P : Program} {w : World} {K : PySem.W.Frag} {mg : Str → Option Value} {base : Heap}
/-- THE RULE for a def: its body as a term of rules, and the reading of that term -/
theorem Fun.ok {x qual : Str} {st : Stmt} {f : Addr} {fd : FuncData} {N ps : List Str} {k : Nat} {sp : Sp} (F : Fun K x qual st f fd) (S : FnScope N ps (defScope st)) (len : ∀ vs H Q E, sp vs H Q E → vs.length = ps.length)
    (hbody : ∀ (cdv : Value) (A : Around) (outer : List Env) (s : Shared) (H : Hp) (vs : List V) (Q : VK) (E : XK), Room k (A.deeper (envOfC qual (defScope st) s.heap.objs.size f cdv)) → sp vs H Q E →
      ∃ t, PSs (cxOf CX0 P w K mg base N qual (defScope st) f cdv A outer s H E).nox (defBody st) t ∧ t { nx := fun _ H' => Q .non H', rt := Q } (start N vs) H) : FnOk P w K mg base CX0 (k + 1) f fd ps sp := by
  obtain ⟨oc, od, kV, doc, pm, an, cdv, ct, osl, rfl, lk, hcd⟩ := F.ex
  refine fn_of lk hcd S len fun A outer s H vs Q E hr hsp => ?_
  obtain ⟨t, h, q⟩ := hbody cdv A outer s H vs Q E hr hsp
  exact ⟨t, h.nox, q⟩
/-- how its arguments bind (no defaults): h is «fun _ _ _ _ _ _ us hl => match us, hl with | [_, _], _ => rfl», one _ a parameter -/
theorem Fun.binds {x qual : Str} {st : Stmt} {f : Addr} {fd : FuncData} {ps : List Str} (F : Fun K x qual st f fd)
    (h : ∀ (kV doc pm : Value) (an : Option Addr) (cdv ct : Value) (us : List Value), us.length = ps.length → bindArgs (PySem.W.fnOf x qual (defArgs st) (defBody st) (defScope st) .none kV doc pm an cdv ct) ⟨us, []⟩ = pure (ps.zip us)) : Binds K fd ps [] := by
  obtain ⟨oc, od, kV, doc, pm, an, cdv, ct, osl, rfl, lk, hcd⟩ := F.ex
  exact .all (h kV doc pm an cdv ct)
theorem fun_mk {x qual : Str} {st : Stmt} {f : Addr} {oc : Value} {od an : Option Addr} {osl : Array (Option Value)} {kV doc pm cdv ct : Value} (l : K.lookup f = some ⟨oc, od, .func (PySem.W.fnOf x qual (defArgs st) (defBody st) (defScope st) .none kV doc pm an cdv ct), osl⟩)
    (c : PySem.W.codeIn K cdv qual = true) (k : PySem.W.keepIn K (.ref f) = true) : Fun K x qual st f (PySem.W.fnOf x qual (defArgs st) (defBody st) (defScope st) .none kV doc pm an cdv ct) := ⟨⟨oc, od, kV, doc, pm, an, cdv, ct, osl, rfl, l, c⟩, k⟩
end
theorem hu_of {A : Around} {k : Nat} (hr : Room k A) : A.units + 1 < cLine := Nat.lt_of_le_of_lt (Nat.add_le_add_left (by decide : 1 ≤ 64) _) hr.units
/-! ### expressions in short: the name that stands in the i-th slot -/
section
variable {X : Cx}
theorem pv (i : Nat) {x : Str} {pos : Pos} (hN : X.N[i]? = some x := by rfl) (hv : Vis X.env.scope x := by first | exact Or.inl rfl | exact Or.inr (Or.inl rfl) | exact Or.inr (Or.inr rfl)) (hd : (x == ("__debug__" : Str)) = false := by decide)
    (hcd : (x == ("__classdict__" : Str)) = false := by decide) : PE X (.Name x pos) (tVar i) := pe_var hN hv hd hcd
end

/-! ### tests -/
theorem iteF {A B : Prop} (h : B) : if false = true then A else B := by
  rw [if_neg Bool.false_ne_true]
  exact h
theorem iteT {A B : Prop} (h : A) : if true = true then A else B := by
  rw [if_pos rfl]
  exact h
/-! ### heaps -/
/-- all that was tracked is as it was -/
def Same (H H' : Hp) : Prop := ∀ b o, H b = some o → H' b = some o
theorem Same.refl (H : Hp) : Same H H := fun _ _ h => h
theorem Same.trans {H H1 H2 : Hp} (a : Same H H1) (b : Same H1 H2) : Same H H2 := fun c o h => b c o (a c o h)
theorem Same.free {H H' : Hp} (e : Same H H') {l : Addr} (h : H' l = Option.none) : H l = Option.none := by
  cases q : H l with
  | none => rfl
  | some o =>
    rw [e l o q] at h
    cases h
theorem Same.seq {K : PySem.W.Frag} {H H' : Hp} {a : Addr} {xs : List V} (e : Same H H') (h : SqL K H a xs) : SqL K H' a xs := by
  rcases h with (h | ⟨o, h⟩) | h
  · exact .inl (.inl (e _ _ h))
  · exact .inl (.inr ⟨o, e _ _ h⟩)
  · exact .inr h

/-! ### a dict's pairs: keys that differ -/
section
variable {κ : Type} [DecidableEq κ]
theorem nd_snoc : ∀ {l : List κ} {k : κ}, l.Nodup → ¬ k ∈ l → (l ++ [k]).Nodup
  | [], k, _, _ => by simp
  | a :: r, k, h, hk => by
    obtain ⟨h1, h2⟩ := List.nodup_cons.mp h
    show (a :: (r ++ [k])).Nodup
    refine List.nodup_cons.mpr ⟨fun m => ?_, nd_snoc h2 fun m => hk (List.mem_cons.mpr (Or.inr m))⟩
    rcases List.mem_append.mp m with q | q
    · exact h1 q
    · exact hk (List.mem_cons.mpr (Or.inl (List.mem_singleton.mp q).symm))
end
/-! ### lists -/
theorem at_of {xs : List V} {z : Int} {j : Nat} {v : V} (e : z = (j : Int)) (h : xs[j]? = some v) : atI xs z = some v := by
  rw [e]
  exact atI_nat h
/-- a new instance and its __init__ leave all that was tracked as it was -/
theorem Same.made {H H1 : Hp} {x dx C : Addr} (nx : H x = Option.none) (nd : H dx = Option.none) (k : ∀ b o, (upd (upd H dx (.own x)) x (.ins C dx [])) b = some o → b ≠ x → H1 b = some o) : Same H H1 := fun b o e =>
  k b o (by rw [upd_ne (ne_of_none e nx), upd_ne (ne_of_none e nd)]; exact e) (ne_of_none e nx)
end L2

set_option Elab.async false
set_option linter.all false
set_option maxRecDepth 100000
/-! generator expressions within all(..): my own rules over the hand layer -/
namespace MG
open PySem PySem.Spec PyProof.Rows L2

/-! ### the generators' table never shrinks -/
theorem runs_gens {M : Model} {Γ : PySem.Ctx} {p : Pos} {t : Sem Fin} {fs : List Frame} {s s' : Shared} {e : End} (h : Runs M Γ p t fs s e s') : s.gens.size ≤ s'.gens.size := by
  induction h <;> (try simp only [Shared.setGen, Array.size_setIfInBounds, Array.size_push] at *) <;> omega
theorem wakes_gens {M : Model} {Γ : PySem.Ctx} {p : Pos} {g : Nat} {r : Resume} {s s' : Shared} {res : GenResult} (h : Wakes M Γ p g r s res s') : s.gens.size ≤ s'.gens.size := by
  have z : ∀ (u : Shared) (x : GenState), (u.setGen g x).gens.size = u.gens.size := fun u x => by simp [Shared.setGen]
  unfold Wakes at h
  split at h
  · exact h.elim
  · split at h
    · obtain ⟨e1, s1, hr, _, _, rfl⟩ := h
      have q := runs_gens hr
      rw [z] at q ⊢
      exact q
    · exact Nat.le_of_eq (by rw [h.2])
    · exact Nat.le_of_eq (by rw [h.2, z])
  · obtain ⟨e1, s1, hr, _, _, rfl⟩ := h
    have q := runs_gens hr
    rw [z] at q ⊢
    exact q
  · exact Nat.le_of_eq (by rw [h.2])
  · exact Nat.le_of_eq (by rw [h.2])
theorem wp_gens {α : Type} (M : Model) (Γ : PySem.Ctx) (n : Nat) (t : Sem α) : ∀ (Q : α → Pos → Shared → Prop) (E : Value → Pos → Shared → Prop) (p : Pos) (s : Shared), n ≤ s.gens.size → Sem.wp M Γ t Q E p s →
    Sem.wp M Γ t (fun a p' s' => n ≤ s'.gens.size ∧ Q a p' s') (fun e p' s' => n ≤ s'.gens.size ∧ E e p' s') p s := by
  induction t
  all_goals intro Q E p s hn h
  case call ih => exact h.elim fun r h => h.elim fun s' h => ⟨r, s', h.1, ih r _ _ _ s' (Nat.le_trans hn (runs_gens h.1)) h.2⟩
  case resume ih => exact h.elim fun r h => h.elim fun s' h => ⟨r, s', h.1, ih r _ _ _ s' (Nat.le_trans hn (wakes_gens h.1)) h.2⟩
  case newGen ih => exact ih _ _ _ _ _ (Nat.le_trans hn (by simp)) h
  all_goals first
    | exact h
    | exact ⟨hn, h⟩
    | (rename_i ih; exact ih _ _ _ _ _ hn h)
    | (rename_i ih; exact ⟨h.1, ih _ _ _ _ _ hn h.2⟩)
    | (rename_i ih; exact h.elim fun o h => ⟨o, h.1, ih _ _ _ _ _ hn h.2⟩)
theorem with_gens {α : Type} {M : Model} {A : Around} {s : Shared} {t : Sem α} {Q : α → Shared → Prop} {E : Value → Shared → Prop} {n : Nat} (hn : n ≤ s.gens.size)
    (h : wpAny M A t (fun a s' => n ≤ s'.gens.size → Q a s') E s) : wpAny M A t Q E s := by
  have h2 : wpAny M A t (fun a s' => n ≤ s'.gens.size ∧ (n ≤ s'.gens.size → Q a s')) (fun e s' => n ≤ s'.gens.size ∧ E e s') s := fun Γ p hΓ => wp_gens M Γ n t _ _ p s hn (h Γ p hΓ)
  exact wpAny_mono h2 (fun _ _ x => x.2 x.1) (fun _ _ x => x.2)
end MG

set_option Elab.async false
set_option linter.all false
set_option maxRecDepth 100000
namespace MG
open PySem PySem.Spec PyProof.Rows L2

/-! ### a code object's table, as a thing that the abstract heap tracks by one constant word -/
def tabH (P : Addr) : HO := .ext fun h => ∃ ps, h.get? P = some (PySem.W.tabObj ps) ∧ TriplesOk ps.toList
theorem upd_id {H : Hp} {a : Addr} {o : HO} (h : H a = some o) : upd H a o = H := by
  funext b
  by_cases e : b = a
  · subst e; rw [upd_same, h]
  · rw [upd_ne e]
theorem tab_ok {P : Program} {w : World} {H : Hp} {h : Heap} {a : Addr} {ps : Array Value} (e : h.get? a = some (PySem.W.tabObj ps)) (t : TriplesOk ps.toList) : ObjOk P w H h a (tabH a) :=
  ⟨⟨ps, e, t⟩, ⟨_, e⟩, fun _ _ ⟨ps, e, t⟩ k => ⟨ps, k _ e, t⟩⟩

section
variable {X : Cx} {pins : List (Addr × Obj)} {σ : L2.St} {H : Hp} {s : Shared}
/-- the code of a generator expression: found in the table, or laid into it -/
theorem code_ok {E : Value → Shared → Prop} {c P : Addr} {pos : Pos} {qn : Str} {scope : Scope} {Q : Value → Shared → Prop} (I : Inv X pins σ H s) (hc : X.env.code = .ref c) (hK : PySem.W.codeHdIn X.K c P = true) (hP : H P = some (tabH P))
    (hQ : ∀ code s', Inv X pins σ H s' → s'.gens = s.gens → s'.os = s.os → (∀ b o, b ≠ P → s.heap.get? b = some o → s'.heap.get? b = some o) → Q code s') : wpAny (model X.prog X.w) X.A (genexprCode X.env pos qn scope) Q E s := by
  obtain ⟨⟨ps, hps, htr⟩, _, _⟩ := I.hok P _ hP
  obtain ⟨o, vs, file, tf, flags, tg, inF, text, tt, op, ho, hd, h11, h2, h7, h9, h10, hop, hpd, _, hne⟩ := (PySem.W.codeHd_of_K I.kIn hK).code hps htr
  have eop : op = PySem.W.tabObj ps := Option.some.inj (hop.symm.trans hps)
  subst eop
  unfold genexprCode codeAt
  rw [hc, if_neg (show ¬ ((Value.ref c == Value.none) = true) from Bool.false_ne_true)]
  refine wpAny_bind (wpAny_fieldsOf ho hd ?_)
  rw [h11]
  refine wpAny_bind (wpAny_fieldsOf hop hpd ?_)
  cases q : codeAmong pos ps.toList with
  | some cv => exact wpAny_pure (hQ cv s I rfl rfl fun _ _ _ e => e)
  | none =>
    rw [h2, h7, h9, h10]
    refine wpAny_bind (wpAny_newCode fun c1 P1 g1 tk kp _ _ _ _ => ?_)
    have hop1 := kp _ _ hop
    refine wpAny_bind (wpAny_updateFieldsOfTheText hop1 hpd ?_)
    generalize ef : (fun l : Array Value => if (codeAmong pos l.toList).isSome = true then l else l ++ #[rawInt pos.line, rawInt pos.col, Value.ref c1]) = f
    have eobj : Obj.mapFields f (PySem.W.tabObj ps) = PySem.W.tabObj (ps ++ #[rawInt pos.line, rawInt pos.col, .ref c1]) := by
      have e1 : f ps = ps ++ #[rawInt pos.line, rawInt pos.col, .ref c1] := by
        rw [← ef]
        show (if (codeAmong pos ps.toList).isSome = true then _ else _) = _
        rw [q]
        all_goals rfl
      show PySem.W.tabObj (f ps) = _
      rw [e1]
    have hget : (g1.update P (Obj.mapFields f)).get? P = some (PySem.W.tabObj (ps ++ #[rawInt pos.line, rawInt pos.col, .ref c1])) := by
      have z := Heap.get?_update_self (h := g1) (Obj.mapFields f) hop1 (by rw [eobj]; rfl)
      rw [eobj] at z
      exact z
    refine wpAny_bind (wpAny_fieldsOf hget rfl ?_)
    have el : (ps ++ #[rawInt pos.line, rawInt pos.col, Value.ref c1]).toList = ps.toList ++ [rawInt pos.line, rawInt pos.col, .ref c1] := by simp
    rw [el, codeAmong_snoc _ htr q]
    have old : ∀ b u, b ≠ P → s.heap.get? b = some u → (g1.update P (Obj.mapFields f)).get? b = some u := fun b u hb e => (Heap.SameBut.update g1 P (Obj.mapFields f)).extBut b u hb (kp b u e)
    have I2 : Inv X pins σ (upd H P (tabH P)) { s with heap := g1.update P (Obj.mapFields f), toks := tk } :=
      I.write (by rw [hP]; trivial) (.inl rfl) old ⟨_, hget⟩ (tab_ok hget (by rw [el]; exact TriplesOk_snoc _ _ _ _ htr))
    rw [upd_id hP] at I2
    exact wpAny_pure (hQ _ _ I2 rfl rfl old)
end
end MG

set_option Elab.async false
set_option linter.all false
set_option maxRecDepth 100000
namespace MG
open PySem PySem.Spec PyProof.Rows L2

/-- the scope of a generator expression that captures nothing; N: its own names -/
structure GScope (N : List Str) (sc : Scope) : Prop where
  kind : sc.kind = .function
  co : sc.isCoroutine = false
  nd : N.Nodup
  dot : sc.names.lookup (".0" : Str) = some .local
  noc : ∀ y ∈ sc.names, y.2 ≠ .cell
  nof : ∀ y ∈ sc.names, y.2 ≠ .free
theorem clo_nil {cells : List (Str × Addr)} : ∀ {names : List (Str × NameKind)} {acc : List (Str × Addr)}, (∀ y ∈ names, y.2 ≠ .free) → cloFrom cells names acc = acc
  | [], _, _ => rfl
  | (n, k) :: r, acc, h => by
    unfold cloFrom
    have hk : ¬ (k == NameKind.free) = true := by simpa using h (n, k) List.mem_cons_self
    rw [if_neg hk]
    exact clo_nil fun y hy => h y (List.mem_cons_of_mem _ hy)
theorem GScope.clo {N : List Str} {sc : Scope} (G : GScope N sc) (env : Env) : closureFor sc env = pure [] := by
  rw [closure_ok fun y hy e => absurd e (G.nof y hy), clo_nil G.nof]

/-- the context of a generator's body: s, H its entry; fp the objects of the iterator that it walks -/
abbrev genCx (X : Cx) (A' : Around) (N : List Str) (s : Shared) (H : Hp) (cenv : Env) (fp : List Addr) : Cx :=
  { X with A := A', N := N, s_0 := s, H_0 := H, env := cenv, outer := X.stack, stack := cenv :: X.stack, ex := fp, fn := fun _ => true, pn := [], xe := fun _ _ => False }
abbrev noSt (N : List Str) : L2.St := List.replicate N.length none
abbrev genObj (g : Nat) (x y : Value) : Obj := { cls := .type "generator", data := .fields #[.int g 0, x, y] }

section
variable {X : Cx} {pins : List (Addr × Obj)} {σ : L2.St} {H : Hp} {s : Shared}
theorem gen_start {A' : Around} {N : List Str} {scope : Scope} {code : Value} {fp : List Addr} {it : Value} {h' : Heap} {tk : Nat} {gs : GenState} {x y : Value} (I : Inv X pins σ H s) (G : GScope N scope) (hA : A'.frames = some (genEnv scope [] s.heap.objs.size code builtinsNs X.env :: X.stack)) (hh : X.calm = true → A'.handled = none)
    (hfp : ∀ b ∈ fp, FpOk X pins H b ∧ b < s.heap.objs.size) (hns : h'.Ns s.heap.objs.size (fun z => if z = ".0" then some it else none)) (hsb : Heap.SameBut s.heap.objs.size (s.heap.push { cls := .type "frame", data := .dict #[] }) h') (hgs : gs.bare = true) :
    Inv (genCx X A' N s H (genEnv scope [] s.heap.objs.size code builtinsNs X.env) fp) [(h'.objs.size, genObj s.gens.size x y)] (noSt N) H { s with gens := s.gens.push gs, toks := tk, heap := h'.push (genObj s.gens.size x y) } := by
  have hsz : h'.objs.size = s.heap.objs.size + 1 := by rw [hsb.1, Heap.size_push]
  have kp : ∀ b o, s.heap.get? b = some o → (h'.push (genObj s.gens.size x y)).get? b = some o := fun b o e =>
    Heap.get?_push_of_some _ (hsb.extBut b o (Nat.ne_of_lt (Heap.lt_size e)) (Heap.get?_push_of_some _ e))
  have nocell : ∀ (z : Str) (c : Addr), (genEnv scope [] s.heap.objs.size code builtinsNs X.env).cells.lookup z = some c → False := fun z c e => by
    have e' : ([] : List (Str × Addr)).lookup z = some c := e
    cases e'
  have ok : (genCx X A' N s H (genEnv scope [] s.heap.objs.size code builtinsNs X.env) fp).Ok := by
    refine ⟨I.ok.mod, G.kind, I.ok.glob, rfl, Nat.le_refl _, fun y z c e1 e2 => (nocell y c e1).elim, fun y hy => ?_, fun y c _ e => (nocell y c e).elim, hh, hA, .inr ⟨rfl, rfl⟩, fun b hb => ⟨Nat.ne_of_lt (hfp b hb).2, fun y c e => (nocell y c e).elim⟩,
      I.bs, Nat.le_trans I.ok.bsz I.sz, fun b o e hb => ?_, fun b hb z => ?_, I.stack, I.stkFree⟩
    · have hy : scope.names.lookup y = some .cell ∨ scope.names.lookup y = some .free := hy
      rcases hy with e | e
      · exact absurd rfl (G.noc _ (PySem.mem_of_lookup e))
      · exact absurd rfl (G.nof _ (PySem.mem_of_lookup e))
    · rcases (hfp b hb).1.2.2.2.1 with z | z
      · exact I.ok.noex b o e z
      · exact absurd (Nat.lt_of_lt_of_le (Heap.lt_size e) (Nat.le_trans I.ok.bsz z)) (Nat.lt_irrefl _)
    · rcases List.mem_cons.mp (I.stkSub b z) with z | z
      · exact (hfp b hb).1.2.1 z
      · exact (hfp b hb).1.2.2.1 z
  refine ⟨ok, rfl, I.bare.push hgs, Un.kept kp, ⟨_, hns.push _, fun i y v e1 e2 _ => ?_⟩, fun y c e => (nocell y c e).elim, I.hok.fresh (Nat.le_refl _), fun y c e => (nocell y c e).elim, fun p hp => ?_, I.hok.kept kp, by rw [List.length_replicate]⟩
  · rw [List.getElem?_replicate] at e2
    split at e2 <;> cases e2
  · have e : p = (h'.objs.size, genObj s.gens.size x y) := by simpa using hp
    subst e
    refine ⟨Heap.get?_push_size _ rfl, I.hok.fresh (by show s.heap.objs.size ≤ h'.objs.size; omega), by show h'.objs.size ≠ s.heap.objs.size; omega, fun hb => ?_, fun v z => by cases z⟩
    have hb : h'.objs.size ∈ frs X.stack := hb
    obtain ⟨_, o, ho, _⟩ := I.stack.mem hb
    have q : h'.objs.size < s.heap.objs.size := Heap.lt_size ho
    omega
end
end MG

set_option Elab.async false
set_option linter.all false
set_option maxRecDepth 100000
namespace MG
open PySem PySem.Spec PyProof.Rows L2

/-- the same state but for the generators' table and the counters -/
theorem inv_gens {X : Cx} {pins : List (Addr × Obj)} {σ : L2.St} {H : Hp} {s s' : Shared} (I : Inv X pins σ H s) (hh : s'.heap = s.heap) (ho : s'.os = s.os) (hg : AllBare s'.gens) : Inv X pins σ H s' := by
  obtain ⟨h', g', d', t', o'⟩ := s'
  obtain rfl : h' = s.heap := hh
  obtain rfl : o' = s.os := ho
  exact ⟨I.ok, I.os, hg, I.base, I.loc, I.cell, I.free, I.freeC, I.pin, I.hok, I.len⟩
/-- the heap has grown besides -/
theorem inv_more {X : Cx} {pins : List (Addr × Obj)} {σ : L2.St} {H : Hp} {s s' : Shared} (I : Inv X pins σ H s) (hk : ∀ b o, s.heap.get? b = some o → s'.heap.get? b = some o) (ho : s'.os = s.os) (hg : AllBare s'.gens) : Inv X pins σ H s' := by
  obtain ⟨h', g', d', t', o'⟩ := s'
  obtain rfl : o' = s.os := ho
  have I2 : Inv X pins σ H { s with heap := h', toks := t' } := I.kept hk
  exact ⟨I2.ok, I2.os, hg, I2.base, I2.loc, I2.cell, I2.free, I2.freeC, I2.pin, I2.hok, I2.len⟩
theorem bare_set {s : Shared} {g : Nat} {x : GenState} (h : AllBare s.gens) (hx : x.bare = true) : AllBare (s.setGen g x).gens := fun y hy => by
  have hy : y ∈ s.gens.setIfInBounds g x := hy
  rcases Array.mem_or_eq_of_mem_setIfInBounds hy with z | z
  · exact h y z
  · rw [z]; exact hx

/-- all(elt for tg in iter), the generator's own names N, the table of its def's code at P -/
def tAllG (P : Addr) (wi : TI) (g : TG) (te : TE) (N : List Str) : TE := fun σ H Q => wi σ H fun J H1 => H1 P = some (tabH P) ∧ ∃ W : Nat → Nat → Hp → Prop, (∃ m, W 0 m H1) ∧ ∀ i m H, W i m H →
  (J.stop i H ∧ Q (.bl true) H) ∨ (J.go i H ∧ ∃ Nx : Hp → Prop, (∀ H', Nx H' → ∃ m', m' < m ∧ W (i + 1) m' H') ∧ ∀ x H', J.yld i H x H' → g x (noSt N) H' fun σ2 H2 => te σ2 H2 fun y H3 => ∃ b, y = .bl b ∧ if b = true then Nx H3 else Q (.bl false) H3)

abbrev codeG (elt tg iter : Expr) (scope : Scope) (pos : Pos) (it : Addr) (ce : Env) : Code := .compLoop (.GeneratorExp elt [⟨tg, iter, [], 0⟩] scope pos) 0 (.ref it) .none ce
def protoG (Xg : Cx) (pin : Addr × Obj) (N : List Str) (Q : VK) : Protocol := fun _ _ v s kap => ∃ b H', v = .bool b ∧ Inv Xg [pin] (noSt N) H' s ∧
  if b = true then (∀ s'' : Shared, s''.heap = s.heap → s''.os = s.os → AllBare s''.gens → kap (.send .none) s'') else Q (.bl false) H'
def endG (Xg : Cx) (pin : Addr × Obj) (N : List Str) (Q : VK) : Nat → Shared → Shared → Prop := fun _ _ s₁ => ∃ H', Inv Xg [pin] (noSt N) H' s₁ ∧ Q (.bl true) H'

theorem seg_gen {X Xg : Cx} {A2 : Around} {N : List Str} {s0 : Shared} {H0 : Hp} {ce : Env} {fp : List Addr} {it : Addr} {tn : Nat → Heap → Prop} {J : It} {elt tg iter : Expr} {scope : Scope} {pos : Pos} {g : TG} {te : TE} {pin : Addr × Obj} {Q : VK} {W : Nat → Nat → Hp → Prop}
    (hX : Xg = genCx X (A2.over (codeG elt tg iter scope pos it ce) []) N s0 H0 ce fp) (hc : X.calm = true) (T : Turn X.prog X.w X.K tg J fp it tn) (hpin : ∀ b ∈ fp, pin.1 ≠ b) (pg : PG Xg tg g) (pe : PE Xg elt te) (hco : ce.scope.isCoroutine = false)
    (turn : ∀ i m H, W i m H → (J.stop i H ∧ Q (.bl true) H) ∨ (J.go i H ∧ ∃ Nx : Hp → Prop, (∀ H', Nx H' → ∃ m', m' < m ∧ W (i + 1) m' H') ∧ ∀ x H', J.yld i H x H' → g x (noSt N) H' fun σ2 H2 => te σ2 H2 fun y H3 => ∃ b, y = .bl b ∧ if b = true then Nx H3 else Q (.bl false) H3)) :
    ∀ (m n i : Nat) (sS s : Shared) (H : Hp), m < n → W i m H → Inv Xg [pin] (noSt N) H s → tn i s.heap → (∀ b ∈ fp, H b = none) →
      Seg (model X.prog X.w) A2 (fun n s₀ r s₁ => r = .ok .next ∧ endG Xg pin N Q n s₀ s₁) (protoG Xg pin N Q) n sS (codeG elt tg iter scope pos it ce) ((model X.prog X.w).den (codeG elt tg iter scope pos it ce)) [] s := by
  have stat : ∀ {σ' : L2.St} {H' : Hp} {s' : Shared}, Inv Xg [pin] σ' H' s' → (∀ b ∈ fp, H' b = none) → ∀ b ∈ fp, FpOk Xg [pin] H' b := fun {σ' H' s'} I' hn b hb => by
    subst hX
    refine ⟨hn b hb, (I'.ok.exf b hb).1, I'.ok.exfs b hb, .inl hb, fun x c e => (I'.ok.exf b hb).2 x c e, fun p hp => ?_⟩
    have e : p = pin := by simpa using hp
    rw [e]; exact hpin b hb
  have hxe : Xg.xe = fun _ _ => False := by rw [hX]
  have hA : Xg.A = A2.over (codeG elt tg iter scope pos it ce) [] := by rw [hX]
  have hP : Xg.prog = X.prog := by rw [hX]
  have hW : Xg.w = X.w := by rw [hX]
  have hKK : Xg.K = X.K := by rw [hX]
  have hcm : Xg.calm = true := by rw [hX]; exact hc
  have hE : Xg.env = ce := by rw [hX]
  intro m
  induction m using Nat.strongRecOn with
  | ind m ih =>
    intro n i sS s H hmn w0 I0 st0 n0
    show Seg _ A2 _ _ _ sS _ ((compTurn (.GeneratorExp elt [⟨tg, iter, [], 0⟩] scope pos) 0 (.ref it) .none ce).onRaise (leaving ce)) [] s
    rw [compTurn_gen, Sem.onRaise_eq_wrap]
    refine seg_bind_wrap (wpAny_standAt ?_)
    rcases turn i m H w0 with ⟨stop, qq⟩ | ⟨go, Nx, hNx, step⟩
    · have td := T.done Xg hP hW hKK hcm i [pin] s _ H (fun _ _ => False) I0 (stat I0 n0) st0 stop
      rw [hA] at td
      refine seg_bind_wrap (thnF td fun r s1 ⟨hr, I1⟩ => ?_)
      subst hr
      exact seg_end (.ok .next) ⟨rfl, H, I1, qq⟩
    · have ti := T.item Xg hP hW hKK hcm i [pin] s _ H (fun _ _ => False) I0 (stat I0 n0) st0 go
      rw [hA] at ti
      refine seg_bind_wrap (thnF ti fun r s1 ⟨u, hr, h1⟩ => ?_)
      subst hr
      refine seg_bind_wrap (thnF h1 fun _ s2 ⟨x, H2, I2, r2, y2, st2, n2⟩ => ?_)
      have I2' := I2.pinned (stat I2 n2) (T.obj _ _ st2)
      have q2 := pg _ s2 _ H2 x u _ I2' r2 (step x H2 y2)
      rw [hA, hP, hW, hxe, hE] at q2
      refine seg_bind_wrap (thnF q2 fun _ s3 ⟨σ3, H3, I3, q3⟩ => ?_)
      refine seg_bind_wrap (wpAny_tests_nil ?_)
      simp only [if_true]
      have hy : ∀ v, yieldOut ce v = yieldValue v := fun v => by simp only [yieldOut, hco, Bool.false_eq_true, if_false]
      simp only [hy]
      rw [Sem.bind_eq_wrap', Sem.bind_eq_wrap', Sem.wrap_wrap, Sem.wrap_wrap]
      have q4 := pe _ s3 σ3 H3 _ I3 q3
      rw [hA, hP, hW, hxe, hE] at q4
      refine seg_wrap (thnF q4 fun y s4 ⟨yv, H4, I4, r4, b, hb, q5⟩ => ?_)
      subst hb
      obtain rfl : y = Value.bool b := r4
      obtain ⟨n', rfl⟩ : ∃ n', n = n' + 1 := ⟨n - 1, by omega⟩
      have I4' : Inv Xg [pin] (noSt N) H4 s4 := I4.unpinned.weak (by rw [I4.len, hX]; simp) fun j v e => by
        rw [List.getElem?_replicate] at e
        split at e <;> cases e
      refine seg_at (seg_yield rfl rfl rfl ⟨b, H4, rfl, I4', ?_⟩)
      cases b with
      | false => simpa using q5
      | true =>
        simp only [if_true] at q5 ⊢
        intro s5 e1 e2 e3
        obtain ⟨m', hm, w5⟩ := hNx H4 q5
        have pin4 : ∀ b ∈ fp, ∀ o, s2.heap.get? b = some o → s4.heap.get? b = some o ∧ H4 b = none := fun b hb o e =>
          let z := I4.pin (b, o) (List.mem_append_right _ (List.mem_append_right _ (mem_pinsAt hb e)))
          ⟨z.1, z.2.1⟩
        refine seg_again rfl (ih m' hm n' (i + 1) s5 s5 H4 (by omega) w5 (inv_gens I4' e1 e2 e3) (T.keep _ _ _ st2 fun b hb o e => by rw [e1]; exact (pin4 b hb o e).1) fun b hb => ?_)
        obtain ⟨o, e, _⟩ := T.obj _ _ st2 b hb
        exact (pin4 b hb o e).2
end MG

set_option Elab.async false
set_option linter.all false
set_option maxRecDepth 100000
namespace MG
open PySem PySem.Spec PyProof.Rows L2

/-- what holds of the generator between two turns of all's loop -/
def Ready (X : Cx) (A2 : Around) (Xg : Cx) (pin : Addr × Obj) (N : List Str) (Q : VK) (g n : Nat) (s : Shared) : Prop :=
  (∃ gs, s.gens[g]? = some gs ∧ ∀ s'' : Shared, s''.heap = s.heap → s''.os = s.os → AllBare s''.gens → gs.Goes (model X.prog X.w) A2 (fun n s₀ r s₁ => r = .ok .next ∧ endG Xg pin N Q n s₀ s₁) (protoG Xg pin N Q) n (.send .none) s'') ∧
  ∃ H', Inv Xg [pin] (noSt N) H' s

theorem all_loop {X Xg : Cx} {A : Around} {N : List Str} {a : Addr} {g : Nat} {x y : Value} {Q : VK} {R : Result → Shared → Prop} (hh : A.handled = none) (hroom : A.depth < recursionLimit)
    (hR : ∀ (b : Bool) (H' : Hp) (s : Shared), Inv Xg [(a, genObj g x y)] (noSt N) H' s → Q (.bl b) H' → R (.ok (.ret (.bool b))) s) :
    ∀ (n : Nat) (s : Shared), Ready X A.in1.in1 Xg (a, genObj g x y) N Q g n s → codeAny (model X.prog X.w) A (.builtin "all.loop" ⟨[.ref a], []⟩) R s := by
  intro n
  induction n with
  | zero =>
    intro s ⟨⟨gs, hgs, hgo⟩, H', I⟩
    refine codeAny_builtin F.entry_all_loop ?_
    rw [Around.under_plainId F.plain_all_loop _]
    show wpAny _ A.in1 (pyNext (.ref a) >>= _) _ _ s
    have hgen : s.heap.IsGen a g := ⟨genObj g x y, x, y, (I.pin (a, genObj g x y) (List.mem_append_right _ List.mem_cons_self)).1, rfl, rfl, rfl⟩
    have hlt : g < s.gens.size := by
      rcases Nat.lt_or_ge g s.gens.size with z | z
      · exact z
      · rw [Array.getElem?_eq_none z] at hgs; cases hgs
    refine wpAny_bind (with_gens (Nat.le_refl s.gens.size) ?_)
    refine wpAny_pyNext_genexpQ (A := A.in1) (P := endG Xg (a, genObj g x y) N Q) (Y := protoG Xg (a, genObj g x y) N Q) (n := 0) hh I.nolimit hroom hgen hgs (hgo _ rfl rfl (bare_set I.bare rfl)) (fun v s1 gs1 hb hv => ?_) (fun s1 hp h1 hk => ?_)
    · intro hsz
      obtain ⟨b, H1, rfl, I1, q1⟩ := hv
      refine wpAny_bind (wpAny_holding (wpAny_truthy_bool ?_))
      refine wpAny_bind (wpAny_letGo ?_)
      cases b with
      | true =>
        simp only [if_true] at q1
        exact (q1 s1 rfl rfl I1.bare).elim
      | false =>
        simp only [Bool.false_eq_true, if_false] at q1 ⊢
        exact wpAny_bind (wpAny_rule (wpAny_pure (hR false H1 _ (inv_gens I1 rfl rfl (bare_set I1.bare hb)) q1)))
    · intro hsz
      obtain ⟨H1, I1, q1⟩ := hp
      exact wpAny_bind (wpAny_rule (wpAny_pure (hR true H1 _ (inv_more I1 hk rfl (bare_set I1.bare rfl)) q1)))
  | succ n ih =>
    intro s ⟨⟨gs, hgs, hgo⟩, H', I⟩
    refine codeAny_builtin F.entry_all_loop ?_
    rw [Around.under_plainId F.plain_all_loop _]
    show wpAny _ A.in1 (pyNext (.ref a) >>= _) _ _ s
    have hgen : s.heap.IsGen a g := ⟨genObj g x y, x, y, (I.pin (a, genObj g x y) (List.mem_append_right _ List.mem_cons_self)).1, rfl, rfl, rfl⟩
    have hlt : g < s.gens.size := by
      rcases Nat.lt_or_ge g s.gens.size with z | z
      · exact z
      · rw [Array.getElem?_eq_none z] at hgs; cases hgs
    refine wpAny_bind (with_gens (Nat.le_refl s.gens.size) ?_)
    refine wpAny_pyNext_genexpQ (A := A.in1) (P := endG Xg (a, genObj g x y) N Q) (Y := protoG Xg (a, genObj g x y) N Q) (n := n + 1) hh I.nolimit hroom hgen hgs (hgo _ rfl rfl (bare_set I.bare rfl)) (fun v s1 gs1 hb hv => ?_) (fun s1 hp h1 hk => ?_)
    · intro hsz
      obtain ⟨b, H1, rfl, I1, q1⟩ := hv
      have z : (s1.setGen g gs1).gens.size = s1.gens.size := by simp [Shared.setGen]
      rw [z] at hsz
      refine wpAny_bind (wpAny_holding (wpAny_truthy_bool ?_))
      refine wpAny_bind (wpAny_letGo ?_)
      cases b with
      | true =>
        simp only [if_true] at q1 ⊢
        refine wpAny_pure ⟨plainId_quiet F.plain_all_loop _, ih _ ⟨⟨gs1, ?_, fun s'' e1 e2 e3 => q1 s'' e1 e2 e3⟩, H1, inv_gens I1 rfl rfl (bare_set I1.bare hb)⟩⟩
        have hl1 : g < s1.gens.size := Nat.lt_of_lt_of_le hlt hsz
        simp [Shared.setGen, hl1]
      | false =>
        simp only [Bool.false_eq_true, if_false] at q1 ⊢
        exact wpAny_bind (wpAny_rule (wpAny_pure (hR false H1 _ (inv_gens I1 rfl rfl (bare_set I1.bare hb)) q1)))
    · intro hsz
      obtain ⟨H1, I1, q1⟩ := hp
      exact wpAny_bind (wpAny_rule (wpAny_pure (hR true H1 _ (inv_more I1 hk rfl (bare_set I1.bare rfl)) q1)))

theorem over_frames {A : Around} {elt tg iter : Expr} {scope : Scope} {pos : Pos} {it : Addr} {ce : Env} {l : List Env} (h : A.frames = some l) : (A.over (codeG elt tg iter scope pos it ce) []).frames = some (ce :: l) := by
  show pushEnvs [ce] (pushEnvs [] A.frames) = _
  rw [h]; rfl
theorem over_room {k : Nat} {A : Around} {elt tg iter : Expr} {scope : Scope} {pos : Pos} {it : Addr} {ce : Env} (r : Room (k + 1) A) : Room k (A.in1.in1.over (codeG elt tg iter scope pos it ce) []) := by
  refine ⟨r.hd, ?_, ?_⟩
  · have := r.dp
    show A.depth + 0 + 1 + 3 * k + 5 < _
    omega
  · have := r.un
    show A.units + 1 + 1 + 0 + 3 + 16 * k + 200 < _
    omega

theorem pe_allG {X : Cx} {elt tg iter : Expr} {scope : Scope} {N : List Str} {pos p pos' : Pos} {wi : TI} {g : TG} {te : TE} {c P : Addr} {k : Nat} {bm : Addr} {ob : Obj}
    (hc : X.calm = true) (hr : Room (k + 1) X.A) (hgl : Gl X "all") (hm : X.mg "all" = none) (hcode : X.env.code = .ref c) (hK : PySem.W.codeHdIn X.K c P = true) (hB : BMod X.base mainGlobals X.mg bm ob) (G : GScope N scope) (hi : PI X tg iter wi)
    (hg : ∀ (A' : Around) (s : Shared) (H : Hp) (C : Addr) (code : Value) (fp : List Addr), PG (genCx X A' N s H (genEnv scope [] C code builtinsNs X.env) fp) tg g)
    (he : ∀ (A' : Around) (s : Shared) (H : Hp) (C : Addr) (code : Value) (fp : List Addr), Room k A' → PE (genCx X A' N s H (genEnv scope [] C code builtinsNs X.env) fp) elt te)
    (hs : ∀ x, genFold iter X.env x = pure x := by intro _; rfl) :
    PE X (.Call (.Name "all" p) [.GeneratorExp elt [⟨tg, iter, [], 0⟩] scope pos] [] pos') (tAllG P wi g te N) := by
  intro pins s σ H Q I h
  refine wpAny_Call_Name_kw (ld_blt (u := .builtin "all") I hgl hm (by decide +kernel) ?_)
  refine PyProof.Rows.callWith_builtin1 ?_ rfl rfl
  show wpAny _ _ (spliced ((false, eval (.GeneratorExp elt [⟨tg, iter, [], 0⟩] scope pos) X.env) :: backTo pos' (starEach [] X.env))) _ _ s
  refine Calls.spliced_cons (wpAny_GeneratorExp_make G.co (G.clo _) G.noc G.dot G.kind hr.depth (thn (hi pins s σ H _ I h) fun xv s1 hx => thn hx fun itv s2 h2 => ?_) hs)
  obtain ⟨it, fp, tn, J, H2, e, I2, T, st2, f2, hP, W, ⟨m0, w0⟩, turn⟩ := h2
  subst e
  refine ⟨I2.nolimit, code_ok I2 hcode hK hP fun code s3 I3 eg eo kp => ?_⟩
  rw [I.ok.glob]
  refine wpAny_builtinsFor (hB.ns.keeps I3.bk) hB.name hB.ne (I3.bk _ _ hB.obj) hB.cls hB.dict hB.data ?_
  intro h' hns hsb
  refine Calls.spliced_nil ?_
  -- the iterator's objects behind the code's laying
  have nP : ∀ b ∈ fp, b ≠ P := fun b hb z => by
    have := (f2 b hb).1
    rw [z, hP] at this; cases this
  have f3 : ∀ b ∈ fp, FpOk X pins H2 b ∧ b < s3.heap.objs.size := fun b hb => by
    obtain ⟨o, e, _⟩ := T.obj _ _ st2 b hb
    exact ⟨f2 b hb, Heap.lt_size (kp b o (nP b hb) e)⟩
  have st3 : tn 0 s3.heap := T.keep _ _ _ st2 fun b hb o e => kp b o (nP b hb) e
  have hhd : X.A.handled = none := hr.hd
  generalize hce : genEnv scope [] s3.heap.objs.size code builtinsNs X.env = ce
  have I5 := gen_start (A' := X.A.in1.in1.over (codeG elt tg iter scope pos it ce) []) (N := N) (code := code) (it := .ref it) (tk := s3.toks + 1 + 1 + 1) (gs := .fresh (.compStart (.GeneratorExp elt [⟨tg, iter, [], 0⟩] scope pos) 0 (.ref it) .none ce)) (x := .str (Str.ofString "<genexpr>") (s3.toks + 1)) (y := .str (X.env.qual ++ Str.ofString "<genexpr>") (s3.toks + 1 + 1))
    I3 G (by rw [hce]; exact over_frames I.ok.frames) (fun _ => hhd) f3 hns hsb rfl
  rw [hce] at I5
  have pg := hg (X.A.in1.in1.over (codeG elt tg iter scope pos it ce) []) s3 H2 s3.heap.objs.size code fp
  have pe := he (X.A.in1.in1.over (codeG elt tg iter scope pos it ce) []) s3 H2 s3.heap.objs.size code fp (over_room hr)
  rw [hce] at pg pe
  have hco : ce.scope.isCoroutine = false := by rw [← hce]; exact G.co
  have hsz : h'.objs.size = s3.heap.objs.size + 1 := by rw [hsb.1, Heap.size_push]
  have kp5 : ∀ b o, s3.heap.get? b = some o → (h'.push (genObj s3.gens.size (.str (Str.ofString "<genexpr>") (s3.toks + 1)) (.str (X.env.qual ++ Str.ofString "<genexpr>") (s3.toks + 1 + 1)))).get? b = some o := fun b o e =>
    Heap.get?_push_of_some _ (hsb.extBut b o (Nat.ne_of_lt (Heap.lt_size e)) (Heap.get?_push_of_some _ e))
  have st5 : tn 0 (h'.push (genObj s3.gens.size (.str (Str.ofString "<genexpr>") (s3.toks + 1)) (.str (X.env.qual ++ Str.ofString "<genexpr>") (s3.toks + 1 + 1)))) := T.keep _ _ _ st3 fun b _ o e => kp5 b o e
  have nfp : ∀ b ∈ fp, H2 b = none := fun b hb => (f2 b hb).1
  have npin : ∀ b ∈ fp, h'.objs.size ≠ b := fun b hb => Nat.ne_of_gt (by rw [hsz]; exact Nat.lt_succ_of_lt (f3 b hb).2)
  generalize hXg : genCx X (X.A.in1.in1.over (codeG elt tg iter scope pos it ce) []) N s3 H2 ce fp = Xg at I5 pg pe
  -- the whole of the generator
  have loop := seg_gen (A2 := X.A.in1.in1) (pin := (h'.objs.size, genObj s3.gens.size (.str (Str.ofString "<genexpr>") (s3.toks + 1)) (.str (X.env.qual ++ Str.ofString "<genexpr>") (s3.toks + 1 + 1)))) (Q := Q) hXg.symm hc T npin pg pe hco turn
  -- the call of all
  refine call_function_tree F.kind_all F.plain_all F.entry_all (F.args_all1 _) ?_
  unfold Builtin.«all»
  refine wpAny_bind (m := oneArg "all" _) (wpAny_pure ?_)
  refine wpAny_bind (wpAny_pyIter_gen (g := s3.gens.size) ⟨_, _, _, Heap.get?_push_size _ rfl, rfl, rfl, rfl⟩ ?_)
  refine wpAny_pure ⟨plainId_quiet F.plain_all_loop _, all_loop (X := X) (Xg := Xg) (N := N) (Q := Q) (n := m0 + 1) hhd hr.depth (fun b H' s' I' q => ?_) _ ⟨⟨_, Array.getElem?_push_size .., fun s'' e1 e2 e3 => ⟨rfl, ?_⟩⟩, H2, I5⟩⟩
  · -- back in the def's context
    have I6 : Inv X pins σ H' s' := by
      have b6 := I'.base
      have o6 := I'.os
      have k6 := I'.hok
      subst hXg
      exact I3.call' (ch := fp) o6 b6 k6 I'.bare fun b hb => ⟨(f2 b hb).2.2.2.1, (f2 b hb).2.1, (f2 b hb).2.2.2.2.1, (f2 b hb).2.2.2.2.2⟩
    exact ⟨.bl b, H', I6, rfl, q⟩
  · have I7 : Inv Xg _ (noSt N) H2 s'' := inv_gens I5 e1 e2 e3
    have st7 : tn 0 s''.heap := by rw [e1]; exact st5
    have lp := loop m0 (m0 + 1) 0 s'' s'' H2 (Nat.lt_succ_self _) w0 I7 st7 nfp
    show Seg _ X.A.in1.in1 _ _ _ s'' _ ((compStart (.GeneratorExp elt [⟨tg, iter, [], 0⟩] scope pos) 0 (.ref it) .none ce).onRaise (leaving ce)) [] s''
    unfold compStart
    rw [Sem.onRaise_eq_wrap]
    show Seg _ X.A.in1.in1 _ _ _ s'' _ ((ask >>= _).wrap _ _ _ _) [] s''
    refine seg_bind_wrap (wpAny_askSetting ?_)
    split
    · exact seg_again rfl lp
    · first
        | exact seg_bind_wrap (wpAny_rule (seg_bind_wrap (wpAny_standAt (seg_bind_wrap (T.self _ 0 s'' _ _ st7 (seg_again rfl lp))))))
        | (refine seg_bind_wrap (wpAny_rule ?_); show Seg _ X.A.in1.in1 _ _ _ s'' _ ((standAt iter.pos >>= _).wrap _ _ _ _) [] s''; exact seg_bind_wrap (wpAny_standAt (seg_bind_wrap (T.self _ 0 s'' _ _ st7 (seg_again rfl lp)))))
end MG

set_option Elab.async false
set_option linter.all false
set_option maxRecDepth 100000
namespace MG
open PySem PySem.Spec PyProof.Rows L2

/-- the tables of the codes that lay generators are tracked -/
def Tabs (ts : List Addr) (H : Hp) : Prop := ∀ P ∈ ts, H P = some (tabH P)
theorem Tabs.same {ts : List Addr} {H H' : Hp} (t : Tabs ts H) (s : Same H H') : Tabs ts H' := fun P hP => s P _ (t P hP)
/-- nothing else is tracked but the script -/
def OnlyT (ts : List Addr) (H : Hp) : Prop := ∀ b, b ∉ ts → H b = none ∨ ∃ o xs, H b = some (.frz o (.lst xs))

theorem law_callT {P : Program} {w : World} {K : PySem.W.Frag} {mg mb : Str → Option Value} {CX : CXT} {k : Nat} {fa a : Addr} {fd : FuncData} {x : Str} {sp : Sp} {s₁ : Shared} {vs : List Value} {ns : List Int} {tabs : List (Addr × Addr)} {bm : Addr} {ob : Obj}
    (KX : K.In s₁.heap) (hns : s₁.heap.Ns mainGlobals mg) (hb : s₁.heap.Ns builtinsNs mb) (hbb : ∀ x : Str, x ≠ "__name__" → mb x = bootBuiltins x) (hlim : s₁.heap.NoLimit) (hg : s₁.gens = #[]) (hB : BMod s₁.heap mainGlobals mg bm ob)
    (hT : ∀ q ∈ tabs, s₁.heap.get? q.2 = some (PySem.W.tabObj #[])) (hC : ∀ q ∈ tabs, PySem.W.codeHdIn K q.1 q.2 = true) (hKT : ∀ q ∈ tabs, K.lookup q.2 = none)
    (ha : s₁.heap.get? a = some { cls := .type "list", data := .seq vs.toArray }) (hi : IntsAre vs ns) (hl : ns.length ≤ sizeLine) (hr : Room k callerA)
    (F : ∀ base : Heap, K.In base → base.Ns mainGlobals mg → BMod base mainGlobals mg bm ob → FnOk P w K mg base CX k fa fd [x] sp) (hbind : ∀ (s : Shared) (u : Value), BindsTo s fd ⟨[u], []⟩ [(x, u)])
    (hsp : ∀ H : Hp, OnlyT (tabs.map (·.2)) H → Tabs (tabs.map (·.2)) H → SqL K H a (ns.map V.int) → sp [.ref a] H (fun v H' => v = .bl true ∧ Tabs (tabs.map (·.2)) H') fun _ _ _ => False)
    (hCX : ∀ H e s', CX [] H s₁ (fun _ _ _ => False) e s' → False) :
    codeAny (model P w) callerA (.call (.ref fa) ⟨[.ref a], []⟩) (fun r s' => r = .ok (.ret (.bool true)) ∧ OldK s₁.heap s'.heap ∧ s'.os = s₁.os ∧ AllBare s'.gens) s₁ := by
  have rv := vals_ints hi
  have lenV := hi.length
  have hT' : ∀ b ∈ tabs.map (·.2), s₁.heap.get? b = some (PySem.W.tabObj #[]) := fun b h => by
    obtain ⟨q, hq, rfl⟩ := List.mem_map.mp h
    exact hT q hq
  have hKT' : ∀ b ∈ tabs.map (·.2), K.lookup b = none := fun b h => by
    obtain ⟨q, hq, rfl⟩ := List.mem_map.mp h
    exact hKT q hq
  have hCT : ∀ b ∈ tabs.map (·.2), ∃ c, s₁.heap.TableAt c b #[] := fun b h => by
    obtain ⟨q, hq, rfl⟩ := List.mem_map.mp h
    exact ⟨q.1, (PySem.W.codeHd_of_K KX (hC q hq)).tab (hT q hq)⟩
  generalize tabs.map (·.2) = ts at hsp hT' hKT' hCT
  have aT : a ∉ ts := fun z => by
    have q := hT' a z
    rw [ha] at q
    have q' := congrArg Obj.cls (Option.some.inj q)
    cases q'
  -- from an abstract heap in which nothing but the script and the tables may be tracked
  have core : ∀ H : Hp, OnlyT ts H → Tabs ts H → SqL K H a (ns.map V.int) → HOk P w H s₁.heap → (∀ b, H b ≠ none → b = a ∨ b ∈ ts) → (H a ≠ none → K.lookup a = none) →
      codeAny (model P w) callerA (.call (.ref fa) ⟨[.ref a], []⟩) (fun r s' => r = .ok (.ret (.bool true)) ∧ OldK s₁.heap s'.heap ∧ s'.os = s₁.os ∧ AllBare s'.gens) s₁ := by
    intro H hO hTb hS hok hA hKa
    have base_of : ∀ {b : Addr} {o : Obj}, s₁.heap.get? b = some o → H b = none → (hidT s₁.heap H).get? b = some o := fun e n => hidT_get e n
    have noA : ∀ {b : Addr} {o : Obj}, s₁.heap.get? b = some o → o.cls ≠ .none → o.cls ≠ .type "list" → H b = none := fun {b o} e d1 d2 => by
      cases q : H b with
      | none => rfl
      | some u =>
        rcases hA b (by rw [q]; simp) with e' | e'
        · subst e'
          rw [ha] at e; cases e
          exact absurd rfl d2
        · rw [hT' b e'] at e; cases e
          exact absurd rfl d1
    have noD : ∀ {b : Addr} {o : Obj} {es : Array DictEntry} {ep : Nat}, s₁.heap.get? b = some o → o.data = .dict es ep → H b = none := fun {b o es ep} e d => by
      cases q : H b with
      | none => rfl
      | some u =>
        rcases hA b (by rw [q]; simp) with e' | e'
        · subst e'
          rw [ha] at e; cases e; cases d
        · rw [hT' b e'] at e; cases e; cases d
    have nsK : ∀ {b : Addr} {m : Str → Option Value}, s₁.heap.Ns b m → (hidT s₁.heap H).Ns b m := fun {b m} ⟨o, es, ep, e, d, r⟩ => ⟨o, es, ep, base_of e (noD e d), d, r⟩
    have hKb : K.In (hidT s₁.heap H) := fun b o e => base_of (KX b o e) (by
      cases q : H b with
      | none => rfl
      | some u =>
        rcases hA b (by rw [q]; simp) with e' | e'
        · subst e'
          rw [hKa (by rw [q]; simp)] at e; cases e
        · rw [hKT' b e'] at e; cases e)
    have hM : Mod K mg (hidT s₁.heap H) := ⟨hKb, nsK hns, ⟨mb, nsK hb, hbb⟩, let ⟨mc, h1, h2⟩ := hlim; ⟨mc, nsK h1, h2⟩⟩
    have hBb : BMod (hidT s₁.heap H) mainGlobals mg bm ob := ⟨nsK hB.ns, hB.name, hB.ne, base_of hB.obj (noA hB.obj (by rw [hB.cls]; simp) (by rw [hB.cls]; simp)), hB.cls, hB.dict, hB.data⟩
    have e0 : Env0 P w K mg (hidT s₁.heap H) callerA [] s₁ H := ⟨rfl, hM, fun b o e => of_hidT e, Nat.le_of_eq (hidT_size _ _), trivial, fun b hb => absurd (show b ∈ ([] : List Addr) from hb) (by simp), hok, .of_eq hg⟩
    refine codeAny_mono ((F _ hKb (nsK hns) hBb).run callerA [] s₁ H ⟨[.ref a], []⟩ [.ref a] [.ref a] _ _ hr e0 (hbind s₁ (.ref a)) (.cons rfl .nil) (hsp H hO hTb hS)) fun r s' h => ?_
    cases r with
    | error e => exact (hCX H e s' h).elim
    | ok fl =>
      cases fl with
      | next => exact False.elim h
      | brk => exact False.elim h
      | cont => exact False.elim h
      | ret u =>
        obtain ⟨v, H', os, bare, un, hok', r', q, tb'⟩ := h
        have q' : v = .bl true := q
        subst q'
        obtain rfl : u = Value.bool true := r'
        have kept : ∀ b o, b ∉ ts → s₁.heap.get? b = some o → s'.heap.get? b = some o := fun b o nb e => by
          cases q : H b with
          | none => exact un.keep b o e q (by intro z; exact absurd (show b ∈ ([] : List Addr) from z) (by simp)) (by simp)
          | some u =>
            rcases hO b nb with z | ⟨ob, xs, z⟩
            · rw [q] at z; cases z
            · have z2 := un.frzs b ob _ z
              obtain ⟨e1, _⟩ := hok b _ z
              obtain ⟨e2, _⟩ := hok' b _ z2
              rw [e] at e1; cases e1
              exact e2
        have grown : ∀ b ∈ ts, ∃ ps, s'.heap.get? b = some (PySem.W.tabObj ps) := fun b hb => by
          obtain ⟨⟨ps, e, _⟩, _⟩ := hok' b _ (tb' b hb)
          exact ⟨ps, e⟩
        refine ⟨rfl, ⟨fun b o e => ?_, fun b o e => ?_⟩, os, bare⟩
        · by_cases hb : b ∈ ts
          · obtain ⟨ps, e2⟩ := grown b hb
            obtain ⟨c, tc⟩ := hCT b hb
            have eo : o = PySem.W.tabObj #[] := Option.some.inj (e.symm.trans (hT' b hb))
            subst eo
            exact .inr (.inl ⟨tc.isCodeTable, rfl, #[], ps, rfl, by rw [e2]; simp⟩)
          · exact .inl (kept b o hb e)
        · by_cases hb : b ∈ ts
          · obtain ⟨ps, e2⟩ := grown b hb
            exact ⟨_, e2⟩
          · exact ⟨o, kept b o hb e⟩
  have tabOk : ∀ {H : Hp} (b : Addr), b ∈ ts → ObjOk P w H s₁.heap b (tabH b) := fun b hb => tab_ok (hT' b hb) trivial
  cases hk : K.lookup a with
  | some o =>
    -- the script is one of the module's own objects
    have e := KX a o hk
    rw [ha] at e
    cases e
    refine core (fun b => if b ∈ ts then some (tabH b) else none) (fun b hb => .inl (if_neg hb)) (fun b hb => if_pos hb) (.inr ⟨_, vs.toArray, _, hk, rfl, rfl, rfl, by rw [List.size_toArray, lenV]; exact hl, by simpa using rv⟩) (fun b u z => ?_) (fun b z => ?_) fun z => absurd (if_neg aT) z
    · by_cases hb : b ∈ ts
      · have z' := (if_pos hb).symm.trans z
        cases z'
        exact tabOk b hb
      · have z' := (if_neg hb).symm.trans z
        cases z'
    · by_cases hb : b ∈ ts
      · exact .inr hb
      · exact absurd (if_neg hb) z
  | none =>
    refine core (fun b => if b = a then some (.frz { cls := .type "list", data := .seq vs.toArray } (.lst (ns.map V.int))) else if b ∈ ts then some (tabH b) else none) (fun b hb => ?_) (fun b hb => ?_) (.inl (.inr ⟨{ cls := .type "list", data := .seq vs.toArray }, if_pos rfl⟩)) (fun b u z => ?_) (fun b z => ?_) fun _ => hk
    · by_cases hba : b = a
      · exact .inr ⟨_, _, if_pos hba⟩
      · exact .inl ((if_neg hba).trans (if_neg hb))
    · have hba : b ≠ a := fun z => aT (z ▸ hb)
      exact (if_neg hba).trans (if_pos hb)
    · by_cases hb : b = a
      · have z' := (if_pos hb).symm.trans z
        cases z'
        subst hb
        exact ⟨ha, by rw [List.length_map]; exact hl, vs, _, rv, ha⟩
      · have z' := (if_neg hb).symm.trans z
        by_cases hbt : b ∈ ts
        · have z2 := (if_pos hbt).symm.trans z'
          cases z2
          exact tabOk b hbt
        · have z2 := (if_neg hbt).symm.trans z'
          cases z2
    · by_cases hb : b = a
      · exact .inl hb
      · by_cases hbt : b ∈ ts
        · exact .inr hbt
        · exact absurd ((if_neg hb).trans (if_neg hbt)) z
end MG

set_option Elab.async false
set_option linter.all false
set_option maxRecDepth 100000
namespace MG
open PySem PySem.Spec PyProof.Rows L2

/-- the module __builtins__, as a generator's frame asks it -/
def BM (mg : Str → Option Value) (base : Heap) : Prop := ∃ bm ob, BMod base mainGlobals mg bm ob

theorem walk_ofT {l : PySem.W.OpenLaw} {n k : Nat} {q : Program} {loose : List Str} {XP : (Str → Option Value) → Heap → Prop} {YP : World → Heap → Prop} {d : DefRec} {K : Params → PySem.W.Frag} {sp : PySem.W.Frag → Sp} {x : Str} {tabs : List (Addr × Addr)}
    (hn : l.most = some n) (hn2 : n ≤ sizeLine) (hdf : d.params.defaults = []) (hr : Room k callerA)
    (hY : ∀ (w : World) (h : Heap), YP w h → (K w.params).In h ∧ ∀ q ∈ tabs, h.get? q.2 = some (PySem.W.tabObj #[]))
    (hC : ∀ (w : World), ∀ q ∈ tabs, PySem.W.codeHdIn (K w.params) q.1 q.2 = true ∧ (K w.params).lookup q.2 = none)
    (F : ∀ (w : World) (mg : Str → Option Value) (fa : Addr) (h : Heap), (K w.params).In h → h.Ns mainGlobals mg → mg d.name = some (.ref fa) →
      ∃ fd : FuncData, (∀ (s : Shared) (u : Value), BindsTo s fd ⟨[u], []⟩ [(x, u)]) ∧
        ∀ base : Heap, (K w.params).In base → base.Ns mainGlobals mg → BM mg base → FnOk l.prog w (K w.params) mg base CX0 k fa fd [x] (sp (K w.params)))
    (hsp : ∀ (K : PySem.W.Frag) (H : Hp) (a : Addr) (ns : List Int), ns.length ≤ n → OnlyT (tabs.map (·.2)) H → Tabs (tabs.map (·.2)) H → SqL K H a (ns.map V.int) → sp K [.ref a] H (fun v H' => v = .bl true ∧ Tabs (tabs.map (·.2)) H') fun _ _ _ => False) :
    PySem.W.WalkO q loose XP YP l.row.toRowW d [] (fun f vs => PySem.call f vs) := by
  refine Att.attach_call hn hdf fun w s₀ s₁ mg mb fa o pm cd doc a vs ns G Y ho hd hcd hmg hobj hints hlen hg => ?_
  obtain ⟨KX, TX⟩ := hY w _ Y
  obtain ⟨fd, hb, hF⟩ := F w mg fa _ KX G.T.g hmg
  obtain ⟨bm, ob, hB⟩ := PySem.W.bmod_of_top G.T
  exact law_callT (tabs := tabs) KX G.T.g G.T.b G.T.builtins G.T.nolimit hg hB TX (fun q hq => (hC w q hq).1) (fun q hq => (hC w q hq).2) hobj hints (Nat.le_trans hlen hn2) hr
    (fun base kb nb bb => hF base kb nb ⟨bm, ob, bb⟩) hb (fun H hO hT hS => hsp _ H a ns hlen hO hT hS) fun H e s' z => z
end MG

set_option Elab.async false
set_option linter.all false
set_option maxRecDepth 100000
namespace MG
open PySem PySem.Spec PyProof.Rows L2

/-! ### sets of texts: the members, the table's two marks -/
def strOf (e : Int × Value) : Str := match e.2 with
  | .str x _ => x
  | _ => Str.empty
/-- whether sets are walked by the text's own order -/
abbrev byTx (w : World) : Bool := w.params.followText "set-order"
structure SetObj (P : Program) (w : World) (o : Obj) (xs : List Str) : Prop where
  exact : o.ExactSet
  ex : ∃ es ep t, o.data = .set es ep t ∧ ElemsOf (PySem.strKind P w) es.toList ∧ (es.toList.map strOf).Perm xs ∧ xs.Nodup ∧ es.size < scanBound ∧ t.fits es.size = true ∧ t.led = !(byTx w) ∧ (0 < es.size → t.plain = false)
def SetS (P : Program) (w : World) (h : Heap) (a : Addr) (xs : List Str) : Prop := ∃ o, h.get? a = some o ∧ SetObj P w o xs
theorem SetS.keep {P : Program} {w : World} {h h' : Heap} {a : Addr} {xs : List Str} (S : SetS P w h a xs) (k : ∀ o, h.get? a = some o → h'.get? a = some o) : SetS P w h' a xs := let ⟨o, e, z⟩ := S; ⟨o, k o e, z⟩
theorem isStr_of {P : Program} {w : World} {k : Str} {v : Value} (h : (PySem.strKind P w).is k v = true) : ∃ t, v = .str k t := by
  have h : Value.isStrOf k v = true := h
  cases v with
  | str x t =>
    have e : (x == k) = true := by simpa [Value.isStrOf] using h
    rw [beq_iff_eq.mp e]; exact ⟨t, rfl⟩
  | _ => simp [Value.isStrOf] at h
theorem elems_str {P : Program} {w : World} {l : List (Int × Value)} (h : ElemsOf (PySem.strKind P w) l) : ∀ e ∈ l, ∃ t, e.2 = .str (strOf e) t ∧ e.1 = (PySem.strKind P w).hash (strOf e) := fun e he => by
  obtain ⟨⟨k, hk, hh⟩, _⟩ := h e he
  obtain ⟨t, ht⟩ := isStr_of hk
  have es : strOf e = k := by unfold strOf; rw [ht]
  rw [es]; exact ⟨t, ht, hh⟩

/-! ### the table's marks through an addition -/
theorem or_led (t : SetTable) (n : Nat) : (t.orStandIn n).led = t.led := by
  unfold SetTable.orStandIn
  split <;> rfl
theorem or_plain (t : SetTable) (n : Nat) (hp : t.plain = false) : (t.orStandIn n).plain = false := by
  unfold SetTable.orStandIn
  split
  · exact hp
  · rfl
theorem lay_led (t : SetTable) (es : Array (Int × Value)) (h : Int) (x : Value) : (layNew t es h x).2.1.led = t.led := by
  unfold layNew
  cases t.freeSlot h with
  | none => rfl
  | some p => exact or_led _ _
theorem lay_plain (t : SetTable) (es : Array (Int × Value)) (h : Int) (x : Value) (hp : t.plain = false) : (layNew t es h x).2.1.plain = false := by
  unfold layNew
  cases t.freeSlot h with
  | none => rfl
  | some p => exact or_plain _ _ hp
theorem laid_marks {mask finger moves : Nat} {led plain : Bool} {hs : Array Int} {t : SetTable} {order : Array Nat} (h : SetTable.laid mask finger moves led plain hs = some (t, order)) : t.led = led ∧ t.plain = plain := by
  unfold SetTable.laid at h
  cases e : SetTable.layClean mask hs with
  | none => rw [e] at h; cases h
  | some ow =>
    rw [e] at h
    have h' := Option.some.inj h
    have h2 := (Prod.mk.inj h').1
    subst h2
    exact ⟨rfl, rfl⟩
theorem relay_marks (t : SetTable) (es : Array (Int × Value)) (n : Nat) : (relayAll t es n).2.1.led = t.led ∧ (t.plain = false → (relayAll t es n).2.1.plain = false) := by
  unfold relayAll
  cases e : t.relaid (es.map (·.1)) n with
  | none => exact ⟨rfl, fun _ => rfl⟩
  | some p =>
    obtain ⟨t', order⟩ := p
    obtain ⟨h1, h2⟩ := laid_marks (show SetTable.laid _ _ _ _ _ _ = some (t', order) from e)
    dsimp only
    split
    · exact ⟨h1, fun hp => h2.trans hp⟩
    · exact ⟨rfl, fun _ => rfl⟩

section
variable {prog : Program} {w : World} {A : Around} {E : Value → Shared → Prop} {s : Shared} {a : Addr} {xs : List Str}
theorem set_store {o : Obj} {es es' : Array (Int × Value)} {ep : Nat} {t t' : SetTable} {ys : List Str} {h : Heap} (ho : h.get? a = some o) (hex : o.ExactSet) (hd : o.data = .set es ep t) (hel : ElemsOf (PySem.strKind prog w) es'.toList) (hp : (es'.toList.map strOf).Perm ys) (hn : ys.Nodup)
    (hb : es'.size < scanBound) (hf : t'.fits es'.size = true) (hl : t'.led = !(byTx w)) (hpl : 0 < es'.size → t'.plain = false) :
    ∃ o', (h.update a (Obj.putSet es' t')).get? a = some o' ∧ o'.ExactSet ∧ o'.data = .set es' (ep + 1) t' ∧ SetObj prog w o' ys := by
  have q := Heap.get?_update_self (Obj.putSet es' t') ho (by rw [putSet_of es' t' hd]; rfl)
  rw [putSet_of es' t' hd] at q
  exact ⟨_, q, hex, rfl, hex, es', ep + 1, t', rfl, hel, hp, hn, hb, hf, hl, hpl⟩

theorem add_str {y : Str} {tk : Tok} {Q : Bool → Shared → Prop} (S : SetS prog w s.heap a xs) (hroom : xs.length + 1 < scanBound)
    (h : ∀ h', Heap.SameBut a s.heap h' → SetS prog w h' a (if y ∈ xs then xs else xs ++ [y]) → ∀ b, Q b { s with heap := h' }) :
    wpAny (model prog w) A (setAddHashed a (.str y tk) ((PySem.strKind prog w).hash y)) Q E s := by
  obtain ⟨o, ho, hex, es, ep, t, hd, hel, hperm, hnd, hb, hf, hl, hpl⟩ := S
  have hsz : es.size = xs.length := by rw [← hperm.length_eq, List.length_map, Array.length_toList]
  have hkey : (PySem.strKind prog w).is y (.str y tk) = true := strKind_is _ _ _ _
  refine wpAny_holding (m := setAddHashedIn _ _ _ _) ?_
  unfold setAddHashedIn
  apply wpAny_bind (wpAny_setState_of ho hd hf _)
  dsimp only
  rw [byScan_of rfl hb hel]
  simp only [↓reduceIte]
  unfold setAddByScan
  refine wpAny_bind (wpAny_bind (wpAny_rule (wpAny_bind (wpAny_setScan_of hkey ho hd hf hel ?_))))
  cases hr : List.findIdx? (fun e => (PySem.strKind prog w).is y e.2) es.toList with
  | some j =>
    dsimp only
    have ⟨hj, hpj, _⟩ := List.findIdx?_eq_some_iff_getElem.mp hr
    have hin : y ∈ xs := by
      refine hperm.mem_iff.mp (List.mem_map.mpr ⟨es.toList[j], List.getElem_mem hj, ?_⟩)
      obtain ⟨t2, e2⟩ := isStr_of hpj
      unfold strOf; rw [e2]
    exact wpAny_pure (wpAny_pure (h s.heap (Heap.SameBut.refl a s.heap) (by rw [if_pos hin]; exact ⟨o, ho, hex, es, ep, t, hd, hel, hperm, hnd, hb, hf, hl, hpl⟩) false))
  | none =>
    dsimp only
    have hout : y ∉ xs := fun hin => by
      obtain ⟨e, he, hy⟩ := List.mem_map.mp (hperm.mem_iff.mpr hin)
      have q := List.findIdx?_eq_none_iff.mp hr e he
      obtain ⟨t2, e2, _⟩ := elems_str hel e he
      rw [e2, hy, strKind_is] at q
      cases q
    have hp1 := layNew_perm t es ((PySem.strKind prog w).hash y) (.str y tk)
    have hf1 := layNew_fits t es ((PySem.strKind prog w).hash y) (.str y tk)
    have hl1 := lay_led t es ((PySem.strKind prog w).hash y) (.str y tk)
    have hpl1 := lay_plain t es ((PySem.strKind prog w).hash y) (.str y tk)
    generalize hL : layNew t es ((PySem.strKind prog w).hash y) (.str y tk) = L at hp1 hf1 hl1 hpl1 ⊢
    obtain ⟨es1, t1, wasDummy, gave⟩ := L
    dsimp only at hp1 hf1 hl1 hpl1 ⊢
    rw [Array.toList_push] at hp1
    have hel1 : ElemsOf (PySem.strKind prog w) es1.toList := (hel.push hkey rfl).perm hp1
    have hperm1 : (es1.toList.map strOf).Perm (xs ++ [y]) := by
      refine (hp1.map strOf).trans ?_
      rw [List.map_append]
      exact hperm.append_right _
    have hnd1 : (xs ++ [y]).Nodup := nd_snoc hnd hout
    have hsz1 : es1.size = xs.length + 1 := by rw [← Array.length_toList, hp1.length_eq, List.length_append, Array.length_toList, hsz]; rfl
    have hb1 : es1.size < scanBound := by rw [hsz1]; exact hroom
    have g0 : ∀ (b : Bool) (s1 : Shared) (Q' : Unit → Shared → Prop), Q' () s1 → wpAny (model prog w) A (match b with | true => rule "set.scan.the-table-gave-way" | false => pure ()) Q' E s1 :=
      fun b s1 Q' hq => by cases b <;> first | exact wpAny_pure hq | exact wpAny_rule hq
    have fin : ∀ h', Heap.SameBut a s.heap h' → SetS prog w h' a (xs ++ [y]) → ∀ b, Q b { s with heap := h' } := fun h' sb S' => h h' sb (by rw [if_neg hout]; exact S')
    refine wpAny_bind (g0 _ _ _ ?_)
    have hk := hashByValue_scannable 8 (show (Value.str y tk).scannable = true from rfl)
    split
    rotate_left
    have ⟨m1, m2, m3⟩ := And.intro hf1 (And.intro (hl1.trans hl) (show t1.plain = false by rename_i hpt; simpa using hpt))
    apply wpAny_bind (wpAny_pure _)
    simp only [↓reduceIte]
    generalize t1 = t2 at m1 m2 m3 ⊢
    rotate_left
    have ⟨m1, m2, m3⟩ := And.intro (SetTable.fits_plain_off hf1) (And.intro (show ({ t1 with plain := false } : SetTable).led = !(byTx w) from hl1.trans hl) (show ({ t1 with plain := false } : SetTable).plain = false from rfl))
    apply wpAny_bind
    rw [hk]
    apply wpAny_pure
    simp only [plainKind, Bool.false_eq_true, if_false]
    generalize ({ t1 with plain := false } : SetTable) = t2 at m1 m2 m3 ⊢
    -- both ways: t2 stands with its marks; it is stored, and where it is too full it is laid anew and stored again
    all_goals
      obtain ⟨o1, ho1, hex1, hd1, hS1⟩ := set_store (prog := prog) (w := w) ho hex hd hel1 hperm1 hnd1 hb1 m1 m2 (fun _ => m3)
      have sb1 := Heap.SameBut.update s.heap a (Obj.putSet es1 t2)
      refine wpAny_bind (wpAny_storeSet_of ho hd (wpAny_ite_split (fun _ => ?_) fun _ => wpAny_pure (wpAny_pure (fin _ sb1 ⟨o1, ho1, hS1⟩ true))) (fits_of_scanBound hb1))
      have ⟨⟨p1, p2⟩, p3, p4⟩ := And.intro (And.intro (relayAll_perm t2 es1 (SetTable.grown es1.size)) (relayAll_fits t2 es1 (SetTable.grown es1.size))) (relay_marks t2 es1 (SetTable.grown es1.size))
      generalize relayAll t2 es1 (SetTable.grown es1.size) = L2 at p1 p2 p3 p4 ⊢
      have z2 : L2.1.size = es1.size := by rw [← Array.length_toList, p1.length_eq, Array.length_toList]
      obtain ⟨o2, ho2, _, _, hS2⟩ := set_store (prog := prog) (w := w) ho1 hex1 hd1 (hel1.perm p1) ((p1.map strOf).trans hperm1) hnd1 (by rw [z2]; exact hb1) p2 (p3.trans m2) (fun _ => p4 m3)
      refine wpAny_bind (g0 _ _ _ (wpAny_bind (wpAny_storeSet_of ho1 hd1 (wpAny_pure (wpAny_pure ?_)) (fits_of_scanBound (by rw [z2]; exact hb1)))))
      exact fin _ (sb1.trans (Heap.SameBut.update _ a _)) ⟨o2, ho2, hS2⟩ true

end
end MG

set_option Elab.async false
set_option linter.all false
set_option maxRecDepth 100000
namespace MG
open PySem PySem.Spec PyProof.Rows L2

/-- one more member -/
def addS (xs : List Str) (y : Str) : List Str := if y ∈ xs then xs else xs ++ [y]
def dedupS (ys : List Str) : List Str := ys.foldl addS []
theorem dedup_snoc (ys : List Str) (y : Str) : dedupS (ys ++ [y]) = addS (dedupS ys) y := by unfold dedupS; rw [List.foldl_append]; rfl
theorem addS_len (xs : List Str) (y : Str) : (addS xs y).length ≤ xs.length + 1 := by
  unfold addS
  split
  · omega
  · rw [List.length_append]; exact Nat.le_refl _
theorem fold_len : ∀ (ys xs : List Str), (ys.foldl addS xs).length ≤ xs.length + ys.length
  | [], xs => Nat.le_refl _
  | y :: r, xs => by
    have h1 := fold_len r (addS xs y)
    have h2 := addS_len xs y
    show ((r.foldl addS (addS xs y))).length ≤ xs.length + (r.length + 1)
    omega
theorem dedup_len (ys : List Str) : (dedupS ys).length ≤ ys.length := by
  have h : (dedupS ys).length ≤ 0 + ys.length := fold_len ys []
  omega
theorem strs_at {vs : List Value} {xs : List Str} (h : StrsAre vs xs) : ∀ (i : Nat) (v : Value), vs[i]? = some v → ∃ x t, xs[i]? = some x ∧ v = .str x t := by
  induction h with
  | nil => exact fun i v e => nomatch e
  | cons x t r ih => exact fun
    | 0, v, e => ⟨x, t, rfl, (Option.some.inj e).symm⟩
    | i + 1, v, e => ih i v e

/-- what a code wants, case by case -/
theorem code_want {M : Model} {A : Around} {c : Code} {N E : Value → Shared → Prop} {R : Result → Shared → Prop} {s : Shared} (h : codeAny M A c (wants N E) s) (hv : ∀ v s', N v s' → R (.ok (.ret v)) s') (he : ∀ e s', E e s' → R (.error e) s') : codeAny M A c R s :=
  codeAny_mono h fun
    | .ok (.ret v), s', q => hv v s' q
    | .error e, s', q => he e s' q
    | .ok .next, _, q => q.elim
    | .ok .brk, _, q => q.elim
    | .ok .cont, _, q => q.elim

section
variable {prog : Program} {w : World} {A : Around} {E : Value → Shared → Prop} {s : Shared}
/-- a type's call: its __new__, then its __init__, each by what its own code gives -/
theorem type_made {T newId initId : String} {args : List Value} {Q N : Value → Shared → Prop} (ft : TypeCalled T newId initId) (hct : checkTypeCall T ⟨args, []⟩ = pure ())
    (new : codeAny (model prog w) A.in1 (.call (.builtin newId) ⟨.type T :: args, []⟩) (wants N E) s)
    (ini : ∀ x s₁, N x s₁ → s₁.TypeIs x T ∧ codeAny (model prog w) A.in1 (.call (.builtin initId) ⟨x :: args, []⟩) (wants (fun r s₂ => r = .none ∧ Q x s₂) E) s₁) :
    wpAny (model prog w) A (call (.type T) args) Q E s := by
  have ⟨⟨_, _, a1⟩, a2, a3, a4, a5⟩ := And.intro ft.mro (And.intro ft.made (And.intro ft.sub (And.intro ft.notType ft.canCreate)))
  apply wpAny_call
  apply codeAny_of_tree
  refine (show wpAny _ _ (callAny (.type T) ⟨args, []⟩) _ _ s from wpAny_pure ⟨Code.quiet_builtin _ (by decide +kernel), codeAny_builtin F.entry_type_call ?_⟩)
  rw [Around.under_plain (weight_type_call_type T args []) rfl]
  repeat (any_goals (first | assumption | wp_step))
  refine code_want new (fun x s₁ hx => ?_) fun _ _ q => q
  have ⟨⟨b1, b2⟩, hT, hi⟩ := And.intro (And.intro ft.init.lookup (ft.init.bind x)) (ini x s₁ hx)
  repeat (any_goals (first | assumption | wp_step))
  refine code_want hi (fun r s₂ hr => ?_) fun _ _ q => q
  obtain ⟨rfl, q⟩ := hr
  repeat (any_goals (first | assumption | wp_step))
abbrev setO (w : World) : Obj := { cls := .type "set", dict := none, data := .set #[] 0 (.fresh 0 0 (!(byTx w))) }
theorem setO_ok : SetObj prog w (setO w) [] := ⟨⟨rfl, rfl, rfl⟩, #[], 0, _, rfl, fun e he => by simp at he, .nil, List.nodup_nil, by decide, by rfl, rfl, fun z => absurd z (by simp)⟩
/-- a new set, with the mark of its order -/
theorem newSet_mark {Q : Value → Shared → Prop} (h : Q (.ref s.heap.objs.size) { s with heap := s.heap.push (setO w) }) : wpAny (model prog w) A (newSet (.type "set")) Q E s := by
  unfold newSet setsByText
  wp_walk
  refine wpAny_askSetting (wpAny_pure ?_)
  exact wpAny_newObj_type h (by size_fits)
/-- set.__new__ with one thing behind the class -/
theorem set_new1 (a : Value) {N : Value → Shared → Prop} (h : N (.ref s.heap.objs.size) { s with heap := s.heap.push (setO w) }) :
    codeAny (model prog w) A (.call (.builtin "set.__new__") ⟨[.type "set", a], []⟩) (wants N E) s := by
  refine codeAny_call_builtin F.plain_set_new F.entry_set_new (wpAny_of_eq (F.newCall_set_1 a) ?_)
  have hs := sub_set_self
  unfold Builtin.«set.__new__» Builtin.Frozenset.newClass
  obtain ⟨hp, g, d, tk, os⟩ := s
  dsimp only
  wp_walk using newSet_mark
  exact h
/-- one turn of the walk that fills a set -/
theorem fill_turn {R : Result → Shared → Prop} {S I : Addr} (h : wpAny (model prog w) A.in1 (pyNext (.ref I)) (fun o s' => match o with
      | none => R (.ok (.ret .none)) s'
      | some v => wpAny (model prog w) A.in1 (setAdd S v) (fun _ s₂ => codeAny (model prog w) A (.builtin "set.update.loop" ⟨[.ref S, .ref I], []⟩) R s₂) (fun e s₂ => R (.error e) s₂) s') (fun e s' => R (.error e) s') s) :
    codeAny (model prog w) A (.builtin "set.update.loop" ⟨[.ref S, .ref I], []⟩) R s :=
  codeAny_builtin F.entry_set_update_loop (by
    rw [Around.under_plainId F.plain_set_update_loop _]
    refine wpAny_bind (m := pyNext (.ref I)) (wpAny_mono h (fun o s' q => ?_) fun _ _ q => q)
    cases o with
    | none => exact wpAny_pure q
    | some v => exact wpAny_bind (wpAny_holding (wpAny_mono q (fun _ _ q => wpAny_pure ⟨plainId_quiet F.plain_set_update_loop _, q⟩) fun _ _ q => q)))
/-- the walk over a list of texts, the texts ahead being in the set -/
theorem fill_strs {R : Result → Shared → Prop} {l I S : Addr} {items : Array Value} {ys : List Str} (hh : A.handled = none) (nl : l ≠ I) (nS : S ≠ I) (nlS : l ≠ S) (hi : StrsAre items.toList ys) (hb : ys.length + 1 < scanBound) :
    ∀ (rest ahead : List Str) (s : Shared), ahead ++ rest = ys → s.heap.IsListIter I l ahead.length → s.heap.IsList l items → SetS prog w s.heap S (dedupS ahead) →
      (∀ h' tk, SetS prog w h' S (dedupS ys) → (∀ b o, b ≠ S → b ≠ I → s.heap.get? b = some o → h'.get? b = some o) → R (.ok (.ret .none)) { s with heap := h', toks := tk }) →
      codeAny (model prog w) A (.builtin "set.update.loop" ⟨[.ref S, .ref I], []⟩) R s
  | [], ahead, s, e, it, hl, hS, k => by
    rw [List.append_nil] at e
    refine fill_turn (wpAny_pyNext_list_end (by simpa using hh) it hl ?_ fun h' x => ?_)
    · rw [← Array.getElem?_toList]
      exact List.getElem?_eq_none (by rw [hi.length, e]; exact Nat.le_refl _)
    · exact k h' s.toks (e ▸ hS.keep fun o z => x S o nS z) fun b o _ nb z => x b o nb z
  | y :: r, ahead, s, e, it, hl, hS, k => by
    have hy : ys[ahead.length]? = some y := by rw [← e]; simp
    have hlen : ahead.length < items.toList.length := by rw [hi.length]; exact (List.getElem?_eq_some_iff.mp hy).1
    obtain ⟨x, t, hx, hv⟩ := strs_at hi ahead.length _ (List.getElem?_eq_getElem hlen)
    have hxy : x = y := Option.some.inj (hx.symm.trans hy)
    subst hxy
    have hit : items[ahead.length]? = some (.str x t) := by rw [← Array.getElem?_toList, ← hv]; exact List.getElem?_eq_getElem hlen
    refine fill_turn (wpAny_pyNext_list_item it hl hit fun h1 it1 k1 => ?_)
    have room : (dedupS ahead).length + 1 < scanBound := by
      have h1 := dedup_len ahead
      have h2 := congrArg List.length e
      rw [List.length_append] at h2
      omega
    unfold setAdd
    refine wpAny_holding (wpAny_bind ((PySem.strKind prog w).pyHash (k := x) (strKind_is _ _ _ _) ?_))
    refine add_str (hS.keep fun o z => k1.extBut S o nS z) room fun h2 k2 hS2 _ => ?_
    refine fill_strs hh nl nS nlS hi hb r (ahead ++ [x]) _ (by rw [List.append_assoc]; exact e) ?_ ?_ (by rw [dedup_snoc]; exact hS2) fun h' tk q z => k h' tk q fun b o nb ni u => z b o nb ni ?_
    · rw [List.length_append]
      exact it1.extBut k2.extBut (Ne.symm nS)
    · exact (hl.extBut k1.extBut nl).extBut k2.extBut nlS
    · exact k2.extBut b o nb (k1.extBut b o ni u)
/-- set(a list of texts) -/
theorem call_set_strs {l : Addr} {items : Array Value} {ys : List Str} {Q : Value → Shared → Prop}
    (hh : A.handled = none) (hl : s.heap.IsList l items) (hi : StrsAre items.toList ys) (hb : items.size + 1 < scanBound)
    (h : ∀ (h' : Heap) (tk : Nat), SetS prog w h' s.heap.objs.size (dedupS ys) → (∀ b o, b < s.heap.objs.size → s.heap.get? b = some o → h'.get? b = some o) → Q (.ref s.heap.objs.size) { s with heap := h', toks := tk }) :
    wpAny (model prog w) A (call (.type "set") [.ref l]) Q E s := by
  have el : ys.length = items.size := hi.length.symm.trans Array.length_toList
  refine type_made (N := fun x s₁ => x = .ref s.heap.objs.size ∧ s₁ = { s with heap := s.heap.push (setO w) }) F.called_set (F.typeCall_set_1 _) (set_new1 _ ⟨rfl, rfl⟩) ?_
  rintro x s₁ ⟨rfl, rfl⟩
  have hS := Heap.get?_push_size s.heap (o := setO w) rfl
  have hT : Shared.TypeIs { s with heap := s.heap.push (setO w) } (.ref s.heap.objs.size) "set" := ⟨_, hS, rfl⟩
  refine ⟨hT, codeAny_call_builtin F.called_set.init.plain F.entry_set_init (check_set_init_1 hT ?_)⟩
  have hls : l < s.heap.objs.size := let ⟨_, z, _⟩ := hl; Heap.lt_size z
  have hl1 := hl.push (setO w)
  have n1 : l ≠ (s.heap.push (setO w)).objs.size := fun z => Nat.lt_irrefl _ (Nat.lt_trans hls (by rw [z, Heap.size_push]; exact Nat.lt_succ_self _))
  have n2 : s.heap.objs.size ≠ (s.heap.push (setO w)).objs.size := fun z => Nat.lt_irrefl _ (show s.heap.objs.size < s.heap.objs.size by rw [Heap.size_push] at z; exact absurd z (Nat.ne_of_lt (Nat.lt_succ_self _)))
  have hf : codeAny (model prog w) A.in1.in1 (.builtin "set.update.loop" ⟨[.ref s.heap.objs.size, .ref (s.heap.push (setO w)).objs.size], []⟩) (wants (fun r s₂ => r = .none ∧ Q (.ref s.heap.objs.size) s₂) E) { s with heap := (s.heap.push (setO w)).push { cls := .type "list_iterator", data := .fields #[.ref l, .int 0 0] } } :=
    fill_strs (by simp [hh]) n1 n2 (Nat.ne_of_lt hls) hi (by rw [el]; exact hb) ys [] _ rfl ⟨_, Heap.get?_push_size _ rfl, rfl, rfl⟩ (hl1.push _) ⟨_, Heap.get?_push_of_some _ hS, setO_ok⟩
      fun h' tk q z => ⟨rfl, h h' tk q fun b o hb e => z b o (Nat.ne_of_lt hb) (fun u => Nat.lt_irrefl _ (Nat.lt_trans hb (by rw [u, Heap.size_push]; exact Nat.lt_succ_self _))) (Heap.get?_push_of_some _ (Heap.get?_push_of_some _ e))⟩
  have ⟨⟨c, dct, dt, sl⟩, ho, hc, m, hd⟩ := hl1
  have hc : c = .type "list" := hc
  have hd : dt = .seq items m := hd
  subst hc hd
  have ⟨f1, f2, f3⟩ := And.intro F.sub_list_set (And.intro F.sub_list_frozenset (show (Value.type "list" == Value.type "dict") = false by decide))
  unfold Builtin.«set.__init__» noKeywords Builtin.Frozenset.updateFrom
  wp_walk using wpAny_pyIter_list hl1
  exact code_want hf (fun v s' q => wpAny_pure (wpAny_pure ⟨rfl, q.2⟩)) fun _ _ q => q
end
end MG

set_option Elab.async false
set_option linter.all false
set_option maxRecDepth 100000
namespace MG
open PySem PySem.Spec PyProof.Rows L2

/-! ### orders -/
theorem erase_perm {α : Type} : ∀ {l : List α} {i : Nat} (h : i < l.length), (l[i] :: l.eraseIdx i).Perm l
  | a :: r, 0, _ => List.Perm.refl _
  | a :: r, i + 1, h => by
    have h' : i < r.length := by simpa using h
    show (r[i] :: a :: r.eraseIdx i).Perm (a :: r)
    exact (List.Perm.swap _ _ _).trans ((erase_perm h').cons a)
theorem pick_go {α : Type} (next : Nat → Nat) : ∀ (fuel k : Nat) (left : List α) (out : Array α), left.length ≤ fuel → (pickOrder.go next fuel k left out).toList.Perm (out.toList ++ left)
  | 0, k, left, out, h => by
    have e : left = [] := List.length_eq_zero_iff.mp (Nat.le_zero.mp h)
    subst e
    unfold pickOrder.go
    rw [List.append_nil]
  | fuel + 1, k, left, out, h => by
    unfold pickOrder.go
    cases e : left[next k % left.length]? with
    | none =>
      have hl : left = [] := by
        cases left with
        | nil => rfl
        | cons a r =>
          have : next k % (a :: r).length < (a :: r).length := Nat.mod_lt _ (Nat.succ_pos _)
          rw [List.getElem?_eq_getElem this] at e
          cases e
      subst hl
      dsimp only
      rw [List.append_nil]
    | some x =>
      dsimp only
      obtain ⟨hi, ex⟩ := List.getElem?_eq_some_iff.mp e
      have hlen : (left.eraseIdx (next k % left.length)).length ≤ fuel := by rw [List.length_eraseIdx_of_lt hi]; omega
      refine (pick_go next fuel (k + 1) _ (out.push x) hlen).trans ?_
      rw [Array.toList_push, List.append_assoc]
      refine List.Perm.append_left _ ?_
      rw [← ex]
      exact erase_perm hi
theorem pick_perm {α : Type} (next : Nat → Nat) (xs : Array α) : (pickOrder next xs).toList.Perm xs.toList := by
  have h := pick_go next xs.size 0 xs.toList #[] (Nat.le_of_eq (Array.length_toList ..))
  simpa [pickOrder] using h
theorem choose_any {M : Model} {A : Around} {E : Value → Shared → Prop} {s : Shared} {src : Source} {n : Nat} {Q : Nat → Shared → Prop} (hn : n ≠ 0) (h : ∀ i d, i < n → Q i { s with drawn := d }) : wpAny M A (choose src n) Q E s := by
  intro Γ p hΓ
  exact ⟨hn, h _ _ (Nat.mod_lt _ (Nat.pos_of_ne_zero hn))⟩
theorem draw_any {α : Type} {M : Model} {A : Around} {E : Value → Shared → Prop} : ∀ {n : Nat} {xs : List α} {s : Shared} {Q : List α → Shared → Prop}, n = xs.length → (∀ ys d, ys.Perm xs → Q ys { s with drawn := d }) → wpAny M A (drawOrder n xs) Q E s
  | 0, xs, s, Q, hn, h => by
    have e : xs = [] := List.length_eq_zero_iff.mp hn.symm
    subst e
    unfold drawOrder
    exact wpAny_pure (h [] s.drawn .nil)
  | n + 1, [], s, Q, hn, h => by simp at hn
  | n + 1, x :: r, s, Q, hn, h => by
    unfold drawOrder
    refine wpAny_bind (choose_any (by simp) fun i d hi => ?_)
    have e : (x :: r)[i]? = some ((x :: r)[i]'hi) := List.getElem?_eq_getElem hi
    rw [e]
    dsimp only
    refine wpAny_bind (draw_any (by rw [List.length_eraseIdx_of_lt hi]; omega) fun ys d2 hp => wpAny_pure ?_)
    exact h _ d2 ((hp.cons _).trans (erase_perm hi))

/-! ### facts of the table -/
theorem slot_seti_next : Slot "set_iterator" "__next__" "set_iterator.__next__" :=
  .of (owner := "set_iterator") (n := "__next__") (by rw [typeLookup_type, builtinLookup_eq_fast]; kernel_rfl) (by decide +kernel) (by decide +kernel) (by decide +kernel)
    (by first | exact .inl (by decide +kernel) | exact .inr (by decide +kernel)) (by rw [isSubtype_type]; kernel_rfl)
theorem entry_seti_next : entryFor table "set_iterator.__next__" = some Builtin.«set_iterator.__next__» := entryFor_of_tree (by kernel_rfl)
theorem args_seti_next (a : Value) : argsOk "set_iterator.__next__" ⟨[a], []⟩ := by unfold argsOk; kernel_rfl
theorem slot_seti_iter : Slot "set_iterator" "__iter__" "set_iterator.__iter__" :=
  .of (owner := "set_iterator") (n := "__iter__") (by rw [typeLookup_type, builtinLookup_eq_fast]; kernel_rfl) (by decide +kernel) (by decide +kernel) (by decide +kernel)
    (by first | exact .inl (by decide +kernel) | exact .inr (by decide +kernel)) (by rw [isSubtype_type]; kernel_rfl)
theorem entry_set_iter : entryFor table "set.__iter__" = some Builtin.«frozenset.__iter__» :=
  entryFor_alias (id' := "frozenset.__iter__") (by kernel_rfl) rfl (by decide +kernel) (by kernel_rfl)
/-! ### a set's iterator -/
/-- its record: the first field (a place, or a tuple of places), the turn, the set, its size, its epoch -/
abbrev itO (first : Value) (i : Nat) (a : Addr) (n ep : Nat) : Obj := { cls := .type "set_iterator", data := .fields #[first, .int i 0, .ref a, .int n 0, .int ep 0] }
section
variable {prog : Program} {w : World} {A : Around} {E : Value → Shared → Prop} {s : Shared} {a I : Addr} {o : Obj} {es : Array (Int × Value)} {ep : Nat} {t : SetTable}
/-- a turn by places: the next member is told by setNext -/
theorem seti_item {slot nx i n : Nat} {x : Value} {Q : Option Value → Shared → Prop} (hit : s.heap.get? I = some (itO (.int slot 0) i a n ep)) (ho : s.heap.get? a = some o) (hd : o.data = .set es ep t) (hf : t.fits es.size = true) (hn : n = es.size)
    (hx : ∀ (A' : Around) (E' : Value → Shared → Prop) (Q' : Option (Value × Nat) → Shared → Prop), Q' (some (x, nx)) s → wpAny (model prog w) A' (setNext a slot i ep) Q' E' s)
    (hQ : ∀ h', h'.get? I = some (itO (.int nx 0) (i + 1) a n ep) → Heap.SameBut I s.heap h' → Q (some x) { s with heap := h' }) : wpAny (model prog w) A (pyNext (.ref I)) Q E s := by
  have hT : s.TypeIs (.ref I) "set_iterator" := ⟨_, hit, rfl⟩
  unfold pyNext
  refine wpAny_bind (wpAny_attempt (wpAny_callSpecial?_slot (name := Str.ofString "__next__") hT slot_seti_next (wpAny_call_entry slot_seti_next hT entry_seti_next ?_ (args_seti_next _))))
  unfold Builtin.«set_iterator.__next__»
  refine wpAny_bind (wpAny_pure ?_)
  refine wpAny_bind (wpAny_fieldsOf hit rfl ?_)
  show wpAny _ _ (setEntries a >>= _) _ _ s
  unfold setEntries
  refine wpAny_bind (wpAny_bind (wpAny_setState_of ho hd hf (wpAny_pure ?_)))
  dsimp only
  rw [if_neg (by rw [hn]; simp)]
  show wpAny _ _ (setNext a (slot : Int).toNat (i : Int).toNat (ep : Int).toNat >>= _) _ _ s
  rw [Int.toNat_natCast, Int.toNat_natCast, Int.toNat_natCast]
  refine wpAny_bind (hx _ _ _ ?_)
  dsimp only
  refine wpAny_bind (wpAny_setField hit rfl (by simp) ?_)
  have h1 := Heap.get?_update_self (Obj.mapFields (·.setIfInBounds 0 (rawInt nx))) hit (Obj.isFreed_of_fields (Obj.data_mapFields (o := itO (.int slot 0) i a n ep) rfl _))
  refine wpAny_bind (wpAny_setField h1 rfl (by simp) (wpAny_pure ⟨x, rfl, wpAny_pure (hQ _ ?_ ((Heap.SameBut.update ..).trans (Heap.SameBut.update ..)))⟩))
  have h2 := Heap.get?_update_self (Obj.mapFields (·.setIfInBounds 1 (rawInt ((i : Int) + 1)))) h1 (Obj.isFreed_of_fields (Obj.data_mapFields (o := Obj.mapFields (·.setIfInBounds 0 (rawInt nx)) (itO (.int slot 0) i a n ep)) rfl _))
  rw [h2]
  simp [Obj.mapFields, rawInt]
/-- its end, by places -/
theorem seti_end {slot i n : Nat} {Q : Option Value → Shared → Prop} (hh : A.handled = none) (hit : s.heap.get? I = some (itO (.int slot 0) i a n ep)) (ho : s.heap.get? a = some o) (hd : o.data = .set es ep t) (hf : t.fits es.size = true) (hn : n = es.size)
    (hx : ∀ (A' : Around) (E' : Value → Shared → Prop) (Q' : Option (Value × Nat) → Shared → Prop), Q' none s → wpAny (model prog w) A' (setNext a slot i ep) Q' E' s)
    (hQ : ∀ h', Heap.ExtBut I s.heap h' → Q none { s with heap := h' }) : wpAny (model prog w) A (pyNext (.ref I)) Q E s := by
  have hT : s.TypeIs (.ref I) "set_iterator" := ⟨_, hit, rfl⟩
  unfold pyNext
  refine wpAny_bind (wpAny_attempt (wpAny_callSpecial?_slot (name := Str.ofString "__next__") hT slot_seti_next (wpAny_call_entry slot_seti_next hT entry_seti_next ?_ (args_seti_next _))))
  unfold Builtin.«set_iterator.__next__»
  refine wpAny_bind (wpAny_pure ?_)
  refine wpAny_bind (wpAny_fieldsOf hit rfl ?_)
  show wpAny _ _ (setEntries a >>= _) _ _ s
  unfold setEntries
  refine wpAny_bind (wpAny_bind (wpAny_setState_of ho hd hf (wpAny_pure ?_)))
  dsimp only
  rw [if_neg (by rw [hn]; simp)]
  show wpAny _ _ (setNext a (slot : Int).toNat (i : Int).toNat (ep : Int).toNat >>= _) _ _ s
  rw [Int.toNat_natCast, Int.toNat_natCast, Int.toNat_natCast]
  refine wpAny_bind (hx _ _ _ ?_)
  dsimp only
  refine wpAny_bind (wpAny_setField hit rfl (by simp) ?_)
  show wpAny _ _ (newExc (.type "StopIteration") [] >>= _) _ _ _
  refine wpAny_bind ?_
  simp only [newExc, newTuple]
  refine wpAny_bind (wpAny_newObj_type ?_ (by size_fits))
  refine wpAny_bind (m := firstArgMember _ _) (wpAny_of_eq (a := Value.none) (by first | rfl | (simp only [firstArgMember]; rfl)) ?_)
  refine wpAny_newObj_type ?_ (by size_fits)
  simp only [raiseNew]
  refine wpAny_bind (wpAny_handled ?_)
  first | rw [show A.in1.handled = none from hh] | rw [hh]
  refine wpAny_bind (wpAny_pure (wpAny_throw ?_))
  refine wpAny_bind (wpAny_isInstance (T := "StopIteration") (b := true) ⟨_, Heap.get?_push_size _ rfl, rfl⟩ isSubtype_stop ?_)
  exact wpAny_pure (hQ _ (((Heap.SameBut.update ..).extBut.push _).push _))
/-- a turn by a drawn order: T the tuple of places -/
theorem setd_item {T : Addr} {i n pl : Nat} {tk : Tok} {x : Int × Value} {places : Array Value} {Q : Option Value → Shared → Prop} (hit : s.heap.get? I = some (itO (.ref T) i a n ep)) (hT : s.heap.IsTuple T places) (hp : places[i]? = some (.int pl tk)) (ho : s.heap.get? a = some o) (hd : o.data = .set es ep t)
    (hf : t.fits es.size = true) (hn : n = es.size) (hx : es[pl]? = some x) (hQ : ∀ h', h'.get? I = some (itO (.ref T) (i + 1) a n ep) → Heap.SameBut I s.heap h' → Q (some x.2) { s with heap := h' }) : wpAny (model prog w) A (pyNext (.ref I)) Q E s := by
  obtain ⟨oT, hoT, _, nT, hdT⟩ := hT
  have hTy : s.TypeIs (.ref I) "set_iterator" := ⟨_, hit, rfl⟩
  unfold pyNext
  refine wpAny_bind (wpAny_attempt (wpAny_callSpecial?_slot (name := Str.ofString "__next__") hTy slot_seti_next (wpAny_call_entry slot_seti_next hTy entry_seti_next ?_ (args_seti_next _))))
  unfold Builtin.«set_iterator.__next__»
  refine wpAny_bind (wpAny_pure ?_)
  refine wpAny_bind (wpAny_fieldsOf hit rfl ?_)
  show wpAny _ _ (setEntries a >>= _) _ _ s
  unfold setEntries
  refine wpAny_bind (wpAny_bind (wpAny_setState_of ho hd hf (wpAny_pure ?_)))
  dsimp only
  rw [if_neg (by rw [hn]; simp)]
  show wpAny _ _ (seqItems? (.ref T) >>= _) _ _ s
  refine wpAny_bind (wpAny_seqItems hoT hdT ?_)
  dsimp only
  rw [Int.toNat_natCast, hp]
  dsimp only
  show wpAny _ _ (setNextDrawn a (pl : Int).toNat (ep : Int).toNat >>= _) _ _ s
  rw [Int.toNat_natCast, Int.toNat_natCast]
  unfold setNextDrawn
  refine wpAny_bind (wpAny_bind (wpAny_setState_of ho hd hf ?_))
  dsimp only
  rw [if_neg (by simp)]
  rw [hx]
  refine wpAny_pure ?_
  refine wpAny_bind (wpAny_setField hit rfl (by simp) (wpAny_pure ⟨x.2, rfl, wpAny_pure (hQ _ ?_ (Heap.SameBut.update ..))⟩))
  have h2 := Heap.get?_update_self (Obj.mapFields (·.setIfInBounds 1 (rawInt ((i : Int) + 1)))) hit (Obj.isFreed_of_fields (Obj.data_mapFields (o := itO (.ref T) i a n ep) rfl _))
  rw [h2]
  simp [Obj.mapFields, rawInt]
theorem setd_end {T : Addr} {i n : Nat} {places : Array Value} {Q : Option Value → Shared → Prop} (hh : A.handled = none) (hit : s.heap.get? I = some (itO (.ref T) i a n ep)) (hT : s.heap.IsTuple T places) (hp : places[i]? = none) (ho : s.heap.get? a = some o) (hd : o.data = .set es ep t)
    (hf : t.fits es.size = true) (hn : n = es.size) (hQ : ∀ h', Heap.ExtBut I s.heap h' → Q none { s with heap := h' }) : wpAny (model prog w) A (pyNext (.ref I)) Q E s := by
  obtain ⟨oT, hoT, _, nT, hdT⟩ := hT
  have hTy : s.TypeIs (.ref I) "set_iterator" := ⟨_, hit, rfl⟩
  unfold pyNext
  refine wpAny_bind (wpAny_attempt (wpAny_callSpecial?_slot (name := Str.ofString "__next__") hTy slot_seti_next (wpAny_call_entry slot_seti_next hTy entry_seti_next ?_ (args_seti_next _))))
  unfold Builtin.«set_iterator.__next__»
  refine wpAny_bind (wpAny_pure ?_)
  refine wpAny_bind (wpAny_fieldsOf hit rfl ?_)
  show wpAny _ _ (setEntries a >>= _) _ _ s
  unfold setEntries
  refine wpAny_bind (wpAny_bind (wpAny_setState_of ho hd hf (wpAny_pure ?_)))
  dsimp only
  rw [if_neg (by rw [hn]; simp)]
  show wpAny _ _ (seqItems? (.ref T) >>= _) _ _ s
  refine wpAny_bind (wpAny_seqItems hoT hdT ?_)
  dsimp only
  rw [Int.toNat_natCast, hp]
  dsimp only
  refine wpAny_bind (wpAny_setField hit rfl (by simp) ?_)
  have h1 := Heap.get?_update_self (Obj.mapFields (·.setIfInBounds 0 (rawInt 0))) hit (Obj.isFreed_of_fields (Obj.data_mapFields (o := itO (.ref T) i a n ep) rfl _))
  refine wpAny_bind (wpAny_setField h1 rfl (by simp) ?_)
  show wpAny _ _ (newExc (.type "StopIteration") [] >>= _) _ _ _
  refine wpAny_bind ?_
  simp only [newExc, newTuple]
  refine wpAny_bind (wpAny_newObj_type ?_ (by size_fits))
  refine wpAny_bind (m := firstArgMember _ _) (wpAny_of_eq (a := Value.none) (by first | rfl | (simp only [firstArgMember]; rfl)) ?_)
  refine wpAny_newObj_type ?_ (by size_fits)
  simp only [raiseNew]
  refine wpAny_bind (wpAny_handled ?_)
  first | rw [show A.in1.handled = none from hh] | rw [hh]
  refine wpAny_bind (wpAny_pure (wpAny_throw ?_))
  refine wpAny_bind (wpAny_isInstance (T := "StopIteration") (b := true) ⟨_, Heap.get?_push_size _ rfl, rfl⟩ isSubtype_stop ?_)
  exact wpAny_pure (hQ _ ((((Heap.SameBut.update ..).trans (Heap.SameBut.update ..)).extBut.push _).push _))
end
end MG

set_option Elab.async false
set_option linter.all false
set_option maxRecDepth 100000
namespace MG
open PySem PySem.Spec PyProof.Rows L2

theorem entry_seti_iter : entryFor table "set_iterator.__iter__" = some Builtin.«dict_keyiterator.__iter__» :=
  entryFor_alias (id' := "dict_keyiterator.__iter__") (by kernel_rfl) rfl (by decide +kernel) (by kernel_rfl)
theorem args_seti_iter (a : Value) : argsOk "set_iterator.__iter__" ⟨[a], []⟩ := by unfold argsOk; kernel_rfl
section
variable {prog : Program} {w : World} {A : Around} {E : Value → Shared → Prop} {s : Shared} {a I : Addr} {o : Obj} {es : Array (Int × Value)} {ep : Nat} {t : SetTable}
theorem iter_self {Q : Value → Shared → Prop} (hT : s.TypeIs (.ref I) "set_iterator") (h : Q (.ref I) s) : wpAny (model prog w) A (pyIter (.ref I)) Q E s := by
  refine wpAny_pyIter_slot hT slot_seti_iter (wpAny_call_entry slot_seti_iter hT entry_seti_iter ?_ (args_seti_iter _))
  show wpAny _ _ (ret (.ref I)) _ _ s
  exact wpAny_pure ⟨_, rfl, "set_iterator", _, hT, slot_seti_next.lookup, h⟩
theorem next_text {slot i : Nat} (ho : s.heap.get? a = some o) (hd : o.data = .set es ep t) (hf : t.fits es.size = true) (hb : byTx w = true) (A' : Around) (E' : Value → Shared → Prop) (Q' : Option (Value × Nat) → Shared → Prop)
    (h : Q' (((pickOrder (w.params.setOrder a ep) es)[i]?).map fun e => (e.2, slot)) s) : wpAny (model prog w) A' (setNext a slot i ep) Q' E' s := by
  unfold setNext setWalk setsByText
  refine wpAny_bind (wpAny_setState_of ho hd hf (wpAny_bind (wpAny_bind (wpAny_askSetting (wpAny_pure ?_)))))
  rw [if_pos (show (model prog w).w.params.followText "set-order" = true from hb), if_neg (by simp)]
  refine wpAny_bind (wpAny_bind (wpAny_setState_of ho hd hf (wpAny_bind (wpAny_bind (wpAny_askSetting (wpAny_pure ?_))))))
  rw [if_pos (show (model prog w).w.params.followText "set-order" = true from hb)]
  exact wpAny_bind (wpAny_askSetting (wpAny_pure (wpAny_pure h)))
theorem next_few {slot i : Nat} (ho : s.heap.get? a = some o) (hd : o.data = .set es ep t) (hf : t.fits es.size = true) (hb : byTx w = false) (hl : t.led = true) (h1 : es.size ≤ 1) (A' : Around) (E' : Value → Shared → Prop) (Q' : Option (Value × Nat) → Shared → Prop)
    (h : Q' (match es[SetTable.below t.place slot]?, t.place[SetTable.below t.place slot]? with | some (_, x), some j => some (x, j + 1) | _, _ => none) s) : wpAny (model prog w) A' (setNext a slot i ep) Q' E' s := by
  unfold setNext setsByText
  refine wpAny_bind (wpAny_setState_of ho hd hf (wpAny_bind (wpAny_bind (wpAny_askSetting (wpAny_pure ?_)))))
  rw [if_neg (show ¬ ((model prog w).w.params.followText "set-order" = true) by rw [show (model prog w).w.params.followText "set-order" = false from hb]; simp)]
  refine wpAny_ite_split (fun hab => ?_) (fun _ => ?_)
  · exfalso
    have hab : (!t.plain && decide (es.size > 1)) = true := hab
    simp only [Bool.and_eq_true, decide_eq_true_eq] at hab
    omega
  · refine wpAny_bind ?_
    show wpAny _ _ (if (!t.led && !es.isEmpty) = true then unsupported "set:maker-not-led" else pure ()) _ _ s
    rw [if_neg (by rw [hl]; simp)]
    exact wpAny_pure (wpAny_pure h)

/-- what a walk over a set gives: its members in some order -/
def SetWalk (prog : Program) (w : World) (s s' : Shared) (a I : Addr) (xs : List Str) : Prop :=
  s'.gens = s.gens ∧ s'.os = s.os ∧ (∀ b u, s.heap.get? b = some u → s'.heap.get? b = some u) ∧ ∃ (ys : List Str) (fp wr : List Addr) (St : Nat → Heap → Prop), ys.Perm xs ∧ St 0 s'.heap ∧ (∀ b ∈ wr, s.heap.objs.size ≤ b) ∧ (∀ b ∈ fp, b = a ∨ s.heap.objs.size ≤ b) ∧
    ∀ A' : Around, A'.handled = none → Walks prog w A' I fp wr ys.length (fun i v => ∃ y t, ys[i]? = some y ∧ v = .str y t) St

theorem map_get {α β : Type} {f : α → β} {l : List α} {i : Nat} {x : α} (h : l[i]? = some x) : (l.map f)[i]? = some (f x) := by rw [List.getElem?_map, h]; rfl

theorem pyIter_set {xs : List Str} {Q : Value → Shared → Prop} (S : SetS prog w s.heap a xs) (hQ : ∀ I s', SetWalk prog w s s' a I xs → Q (.ref I) s') : wpAny (model prog w) A (pyIter (.ref a)) Q E s := by
  obtain ⟨o, ho, hex, es, ep, t, hd, hel, hperm, hnd, hb, hf, hl, hpl⟩ := S
  have hT : s.TypeIs (.ref a) "set" := ⟨o, ho, hex.1⟩
  have hstr := elems_str hel
  have helt : ∀ (i : Nat) (e : Int × Value), es[i]? = some e → ∃ tk, e.2 = .str (strOf e) tk := fun i e he => by
    obtain ⟨tk, h1, _⟩ := hstr e (by rw [← Array.getElem?_toList] at he; exact List.mem_of_getElem? he)
    exact ⟨tk, h1⟩
  have alt : a < s.heap.objs.size := Heap.lt_size ho
  refine wpAny_pyIter_slot hT F.slot_set_iter (wpAny_call_entry F.slot_set_iter hT entry_set_iter ?_ (F.args_set_iter_1 _))
  unfold Builtin.«frozenset.__iter__» Builtin.Frozenset.slot0 Builtin.Frozenset.sizeOf setEntries setDrawn setEpoch setsByText
  refine wpAny_bind (m := (do Builtin.Frozenset.addrOf (← slotArgs "__iter__" 0 _).1)) (wpAny_bind (wpAny_pure (wpAny_pure ?_)))
  refine wpAny_bind (wpAny_bind (wpAny_bind (wpAny_setState_of ho hd hf (wpAny_pure (wpAny_pure ?_)))))
  refine wpAny_bind (wpAny_bind (wpAny_setState_of ho hd hf (wpAny_bind (wpAny_bind (wpAny_askSetting (wpAny_pure (wpAny_pure ?_)))))))
  have eb : (model prog w).w.params.followText "set-order" = byTx w := rfl
  -- by places: the iterator's first field is 0
  have few : ∀ (R : Value → Prop), True := fun _ => trivial
  refine wpAny_ite_split (fun hdr => ?_) (fun hdr => ?_)
  · -- a drawn order
    refine wpAny_bind (draw_any (by simp) fun pls d hp => ?_)
    have hlen : pls.length = es.size := by rw [hp.length_eq, List.length_range]
    refine wpAny_bind (wpAny_newObj_type ?_ (by
      show (List.map (fun i : Nat => rawInt (i : Int)) pls).toArray.size ≤ sizeLine
      rw [List.size_toArray, List.length_map, hlen]; exact fits_of_scanBound hb))
    generalize hg : s.heap.push { cls := .type "tuple", data := .seq (List.map (fun i : Nat => rawInt (i : Int)) pls).toArray } = g
    have ho1 : g.get? a = some o := by rw [← hg]; exact Heap.get?_push_of_some _ ho
    have hgs : g.objs.size = s.heap.objs.size + 1 := by rw [← hg, Heap.size_push]
    have hTup : g.IsTuple s.heap.objs.size (List.map (fun i : Nat => rawInt (i : Int)) pls).toArray := by rw [← hg]; exact ⟨_, Heap.get?_push_size _ rfl, rfl, _, rfl⟩
    refine wpAny_bind (wpAny_bind (wpAny_setState_of (s := { s with heap := g, drawn := d }) ho1 hd hf (wpAny_pure ?_)))
    refine wpAny_bind (wpAny_newObj_type (wpAny_pure ⟨_, rfl, "set_iterator", _, ⟨_, Heap.get?_push_size _ rfl, rfl⟩, slot_seti_next.lookup, ?_⟩) (by size_fits))
    refine hQ _ _ ⟨rfl, rfl, fun b u e => Heap.get?_push_of_some _ (by rw [← hg]; exact Heap.get?_push_of_some _ e), pls.map (fun i => strOf ((es[i]?).getD (0, .none))), [g.objs.size, s.heap.objs.size, a], [g.objs.size], fun i h => h.get? g.objs.size = some (itO (.ref s.heap.objs.size) i a es.size ep) ∧ h.IsTuple s.heap.objs.size (List.map (fun i : Nat => rawInt (i : Int)) pls).toArray ∧ h.get? a = some o, ?_, ⟨Heap.get?_push_size _ rfl, hTup.push _, Heap.get?_push_of_some _ ho1⟩, ?_, ?_, fun A' hA => ?_⟩
    · refine ((hp.map _).trans ?_).trans hperm
      have e : (List.range es.size).map (fun i => strOf ((es[i]?).getD (0, .none))) = es.toList.map strOf := by
        refine List.ext_getElem? fun i => ?_
        rw [List.getElem?_map, List.getElem?_map]
        by_cases hi : i < es.size
        · rw [List.getElem?_range hi, Array.getElem?_toList]; simp [hi]
        · rw [List.getElem?_eq_none (by simpa using hi), List.getElem?_eq_none (by simpa using hi)]; rfl
      rw [e]
    · intro b hb
      rw [List.mem_singleton.mp hb, hgs]; exact Nat.le_succ _
    · intro b hb
      simp only [List.mem_cons, List.not_mem_nil, or_false] at hb
      rcases hb with rfl | rfl | rfl
      · exact .inr (by rw [hgs]; exact Nat.le_succ _)
      · exact .inr (Nat.le_refl _)
      · exact .inl rfl
    · have eI : ∀ b, b = s.heap.objs.size ∨ b = a → b ≠ g.objs.size := fun b hb => by
        rcases hb with rfl | rfl
        · rw [hgs]; exact Nat.ne_of_lt (Nat.lt_succ_self _)
        · rw [hgs]; exact Nat.ne_of_lt (Nat.lt_succ_of_lt alt)
      refine ⟨fun b hb => by rw [List.mem_singleton.mp hb]; simp, fun i h h' st k => ⟨k _ (by simp) _ st.1, ?_, k _ (by simp) _ st.2.2⟩, fun i s1 Q1 E1 hi st hQ1 => ?_, fun s1 Q1 E1 st hQ1 => ?_, fun i s1 Q1 E1 st hQ1 => iter_self ⟨_, st.1, rfl⟩ hQ1⟩
      · obtain ⟨oT, e1, r⟩ := st.2.1
        exact ⟨oT, k _ (by simp) _ e1, r⟩
      · obtain ⟨st1, st2, st3⟩ := st
        rw [List.length_map] at hi
        obtain ⟨pl, hpl⟩ : ∃ pl, pls[i]? = some pl := ⟨pls[i], List.getElem?_eq_getElem hi⟩
        have hlt : pl < es.size := List.mem_range.mp (hp.mem_iff.mp (List.mem_of_getElem? hpl))
        have hx : es[pl]? = some es[pl] := Array.getElem?_eq_getElem hlt
        refine setd_item (pl := pl) (tk := 0) st1 st2 (by simp [hpl, rawInt]) st3 hd hf rfl hx fun h' e1 sb => ?_
        obtain ⟨tk, etk⟩ := helt pl _ hx
        have q := hQ1 es[pl].2 h' s1.toks ⟨strOf es[pl], tk, by rw [map_get hpl, hx]; rfl, etk⟩ ⟨e1, ?_, (sb.2 a (eI a (.inr rfl))).trans st3⟩ (fun b u hb e => (sb.2 b (by simpa using hb)).trans e)
        · exact q
        · obtain ⟨oT, e2, r⟩ := st2
          exact ⟨oT, (sb.2 _ (eI _ (.inl rfl))).trans e2, r⟩
      · obtain ⟨st1, st2, st3⟩ := st
        refine setd_end hA st1 st2 (by simp) st3 hd hf rfl fun h' eb => hQ1 h' s1.toks fun b u hb e => eb b u (by simpa using hb) e
  · refine wpAny_bind (wpAny_pure ?_)
    refine wpAny_bind (wpAny_bind (wpAny_setState_of ho hd hf (wpAny_pure ?_)))
    refine wpAny_bind (wpAny_newObj_type (wpAny_pure ⟨_, rfl, "set_iterator", _, ⟨_, Heap.get?_push_size _ rfl, rfl⟩, slot_seti_next.lookup, ?_⟩) (by size_fits))
    have neI : a ≠ s.heap.objs.size := Nat.ne_of_lt alt
    -- the order, and what setNext tells at each turn
    have key : ∃ (ys : List Str) (sl : Nat → Nat) (vs : Nat → Value), ys.Perm xs ∧ sl 0 = 0 ∧ (∀ i y, ys[i]? = some y → ∃ tk, vs i = .str y tk) ∧
        (∀ (s1 : Shared) (i : Nat), s1.heap.get? a = some o → i < ys.length → ∀ (A' : Around) (E' : Value → Shared → Prop) (Q' : Option (Value × Nat) → Shared → Prop), Q' (some (vs i, sl (i + 1))) s1 → wpAny (model prog w) A' (setNext a (sl i) i ep) Q' E' s1) ∧
        (∀ (s1 : Shared), s1.heap.get? a = some o → ∀ (A' : Around) (E' : Value → Shared → Prop) (Q' : Option (Value × Nat) → Shared → Prop), Q' none s1 → wpAny (model prog w) A' (setNext a (sl ys.length) ys.length ep) Q' E' s1) := by
      cases hbt : byTx w with
      | true =>
        have pp := pick_perm (w.params.setOrder a ep) es
        have mem : ∀ (i : Nat) (e : Int × Value), (pickOrder (w.params.setOrder a ep) es)[i]? = some e → ∃ tk, e.2 = .str (strOf e) tk := fun i e he => by
          rw [← Array.getElem?_toList] at he
          obtain ⟨tk, h1, _⟩ := hstr e (pp.mem_iff.mp (List.mem_of_getElem? he))
          exact ⟨tk, h1⟩
        refine ⟨(pickOrder (w.params.setOrder a ep) es).toList.map strOf, fun _ => 0, fun i => (((pickOrder (w.params.setOrder a ep) es)[i]?).map (·.2)).getD .none, (pp.map _).trans hperm, rfl, fun i y hy => ?_, fun s1 i h1 hi A' E' Q' q => ?_, fun s1 h1 A' E' Q' q => ?_⟩
        · rw [List.getElem?_map, Array.getElem?_toList] at hy
          cases he : (pickOrder (w.params.setOrder a ep) es)[i]? with
          | none => rw [he] at hy; cases hy
          | some e =>
            rw [he] at hy
            have hy : strOf e = y := Option.some.inj hy
            obtain ⟨tk, etk⟩ := mem i e he
            exact ⟨tk, by show ((Option.map (fun x => x.2) (pickOrder (w.params.setOrder a ep) es)[i]?).getD .none) = _; rw [he, ← hy]; exact etk⟩
        · rw [List.length_map, Array.length_toList] at hi
          refine next_text h1 hd hf hbt A' E' Q' ?_
          dsimp only at q
          rw [Array.getElem?_eq_getElem hi] at q ⊢
          exact q
        · refine next_text h1 hd hf hbt A' E' Q' ?_
          rw [List.length_map, Array.length_toList, Array.getElem?_eq_none (Nat.le_refl _)]
          exact q
      | false =>
        have led : t.led = true := by rw [hl, hbt]; rfl
        have le1 : es.size ≤ 1 := by
          have hdr : ¬ ((!(byTx w) && (!t.plain && decide (es.size > 1))) = true) := hdr
          rcases Nat.lt_or_ge 1 es.size with z | z
          · exfalso
            have := hpl (by omega)
            rw [hbt, this] at hdr
            simp at hdr
            omega
          · exact z
        have hps : t.place.size = es.size := by
          simp only [SetTable.fits, Bool.and_eq_true, beq_iff_eq, decide_eq_true_eq] at hf
          exact hf.1
        rcases Nat.lt_or_ge 0 es.size with z | z
        · -- one member
          have e1 : es.size = 1 := by omega
          obtain ⟨x, ex⟩ : ∃ x, es = #[x] := Array.size_eq_one_iff.mp e1
          obtain ⟨j, ej⟩ : ∃ j, t.place = #[j] := Array.size_eq_one_iff.mp (by rw [hps]; exact e1)
          subst ex
          obtain ⟨tk, etk⟩ := helt 0 x rfl
          refine ⟨[strOf x], fun i => if i = 0 then 0 else j + 1, fun _ => x.2, hperm, rfl, fun i y hy => ?_, fun s1 i h1 hi A' E' Q' q => ?_, fun s1 h1 A' E' Q' q => ?_⟩
          · cases i with
            | zero =>
              have hy : strOf x = y := Option.some.inj hy
              exact ⟨tk, by rw [← hy]; exact etk⟩
            | succ i => simp at hy
          · have hi : i = 0 := by simpa using hi
            subst hi
            refine next_few h1 hd hf hbt led le1 A' E' Q' ?_
            rw [ej]
            simpa [SetTable.below, SetTable.below.go] using q
          · refine next_few h1 hd hf hbt led le1 A' E' Q' ?_
            rw [ej]
            simpa [SetTable.below, SetTable.below.go] using q
        · have e0 : es = #[] := Array.size_eq_zero_iff.mp (by omega)
          subst e0
          refine ⟨[], fun _ => 0, fun _ => .none, hperm, rfl, fun i y hy => by simp at hy, fun s1 i h1 hi => absurd hi (by simp), fun s1 h1 A' E' Q' q => ?_⟩
          refine next_few h1 hd hf hbt led le1 A' E' Q' ?_
          simpa using q
    obtain ⟨ys, sl, vs, hys, hsl, hvs, hnx, hend⟩ := key
    have hn : es.size = ys.length := by rw [hys.length_eq, ← hperm.length_eq, List.length_map, Array.length_toList]
    refine hQ _ _ ⟨rfl, rfl, fun b u e => Heap.get?_push_of_some _ e, ys, [s.heap.objs.size, a], [s.heap.objs.size], fun i h => h.get? s.heap.objs.size = some (itO (.int (sl i) 0) i a es.size ep) ∧ h.get? a = some o, hys, ⟨by rw [hsl]; exact Heap.get?_push_size _ rfl, Heap.get?_push_of_some _ ho⟩, ?_, ?_, fun A' hA => ?_⟩
    · intro b hb
      rw [List.mem_singleton.mp hb]; exact Nat.le_refl _
    · intro b hb
      simp only [List.mem_cons, List.not_mem_nil, or_false] at hb
      rcases hb with rfl | rfl
      · exact .inr (Nat.le_refl _)
      · exact .inl rfl
    · refine ⟨fun b hb => by rw [List.mem_singleton.mp hb]; simp, fun i h h' st k => ⟨k _ (by simp) _ st.1, k _ (by simp) _ st.2⟩, fun i s1 Q1 E1 hi st hQ1 => ?_, fun s1 Q1 E1 st hQ1 => ?_, fun i s1 Q1 E1 st hQ1 => iter_self ⟨_, st.1, rfl⟩ hQ1⟩
      · obtain ⟨st1, st3⟩ := st
        obtain ⟨y, hy⟩ : ∃ y, ys[i]? = some y := ⟨ys[i], List.getElem?_eq_getElem hi⟩
        obtain ⟨tk, etk⟩ := hvs i y hy
        refine seti_item (x := vs i) (nx := sl (i + 1)) st1 st3 hd hf rfl (fun A'' E'' Q'' q => hnx s1 i st3 hi A'' E'' Q'' q) fun h' e1 sb => ?_
        exact hQ1 (vs i) h' s1.toks ⟨y, tk, hy, etk⟩ ⟨e1, (sb.2 a neI).trans st3⟩ (fun b u hb e => (sb.2 b (by simpa using hb)).trans e)
      · obtain ⟨st1, st3⟩ := st
        refine seti_end hA st1 st3 hd hf rfl (fun A'' E'' Q'' q => hend s1 st3 A'' E'' Q'' q) fun h' eb => hQ1 h' s1.toks fun b u hb e => eb b u (by simpa using hb) e
end
end MG

set_option Elab.async false
set_option linter.all false
set_option maxRecDepth 100000
namespace MG
open PySem PySem.Spec PyProof.Rows L2

section
variable {prog : Program} {w : World} {A : Around} {E : Value → Shared → Prop} {s : Shared}
/-- the same world but for a grown heap, counters and draws -/
def Grown (s s' : Shared) : Prop := s'.gens = s.gens ∧ s'.os = s.os ∧ ∀ b u, s.heap.get? b = some u → s'.heap.get? b = some u
theorem Grown.refl (s : Shared) : Grown s s := ⟨rfl, rfl, fun _ _ e => e⟩
theorem Grown.trans {a b c : Shared} (x : Grown a b) (y : Grown b c) : Grown a c := ⟨y.1.trans x.1, y.2.1.trans x.2.1, fun p u e => y.2.2 p u (x.2.2 p u e)⟩

theorem hint_set {a : Addr} {Q : Bool → Shared → Prop} (hT : s.TypeIs (.ref a) "set") (h : Q false s) : wpAny (model prog w) A (Builtin.List.listLengthHint (.ref a)) Q E s := by
  unfold Builtin.List.listLengthHint
  refine wpAny_bind (wpAny_specialOf hT F.slot_set_len.lookup ?_)
  generalize hid : ("set.__len__" : String) = id0
  wp_delta
  rw [show splitId id0 = some ("set", "__len__") from by subst hid; decide +kernel]
  subst hid
  refine wpAny_bind (wpAny_isInstance (T := "set") (b := true) hT (by rw [isSubtype_type]; kernel_rfl) ?_)
  refine wpAny_ite_split (fun hab => absurd hab (by decide)) (fun _ => ?_)
  refine wpAny_ite_split (fun _ => ?_) (fun hab => absurd (by decide +kernel) hab)
  refine wpAny_bind (wpAny_typeOf hT ?_)
  exact wpAny_pure h

theorem strs_of_items : ∀ {ys : List Str} {vs : List Value}, vs.length = ys.length → (∀ (i : Nat) (v : Value), vs[i]? = some v → ∃ y t, ys[i]? = some y ∧ v = .str y t) → StrsAre vs ys
  | [], [], _, _ => .nil
  | [], _ :: _, h, _ => by simp at h
  | _ :: _, [], h, _ => by simp at h
  | y :: ys, v :: vs, h, k => by
    obtain ⟨y', t, e1, e2⟩ := k 0 v rfl
    have e1 : y = y' := Option.some.inj e1
    subst e1
    subst e2
    exact .cons y t (strs_of_items (by simpa using h) fun i u hu => k (i + 1) u hu)

/-- the members of a set, as collect gathers them -/
theorem collect_set {a : Addr} {xs : List Str} {R : List Value → Shared → Prop} (hh : A.handled = none) (S : SetS prog w s.heap a xs) (hn : xs.length ≤ 1000)
    (h : ∀ (s' : Shared) (vs : List Value) (ys : List Str), StrsAre vs ys → ys.Perm xs → Grown s s' → R vs s') : wpAny (model prog w) A (collect (.ref a)) R E s := by
  have alt : a < s.heap.objs.size := by obtain ⟨o, ho, _⟩ := S; exact Heap.lt_size ho
  unfold collect
  refine wpAny_bind (wpAny_runValue (codeAny_builtin entry_proto_collect' ?_))
  rw [Around.under_plainId PySem.F.plain_proto_collect _]
  show wpAny _ A.in1 (newList [] >>= fun l => again (.builtin "list.__iadd__" ⟨[l, .ref a], []⟩)) _ _ s
  refine wpAny_bind (wpAny_newObj_type ?_)
  refine wpAny_pure ⟨plainId_quiet PySem.F.plain_list_iadd _, codeAny_builtin entry_list_iadd' ?_⟩
  rw [Around.under_plainId PySem.F.plain_list_iadd _]
  generalize hg : s.heap.push { cls := .type "list", data := .seq ([] : List Value).toArray } = g
  have hgs : g.objs.size = s.heap.objs.size + 1 := by rw [← hg, Heap.size_push]
  have hL : g.get? s.heap.objs.size = some { cls := .type "list", data := .seq #[] } := by rw [← hg]; exact Heap.get?_push_size _ rfl
  have S1 : SetS prog w g a xs := S.keep fun o e => by rw [← hg]; exact Heap.get?_push_of_some _ e
  have hT1 : ({ s with heap := g } : Shared).TypeIs (.ref a) "set" := by obtain ⟨o, ho, so⟩ := S1; exact ⟨o, ho, so.exact.1⟩
  have old : ∀ b u, s.heap.get? b = some u → g.get? b = some u := fun b u e => by rw [← hg]; exact Heap.get?_push_of_some _ e
  have neL : s.heap.objs.size ≠ a := Nat.ne_of_gt alt
  show wpAny _ A.in1 (Builtin.List.listExtendWith (.ref s.heap.objs.size) (.ref a) (.ref s.heap.objs.size)) _ _ { s with heap := g }
  unfold Builtin.List.listExtendWith
  refine wpAny_bind (wpAny_typeOf (T := "set") hT1 ?_)
  have h1 : Builtin.List.listSameRef (.ref s.heap.objs.size) (.ref a) = false := by simp [Builtin.List.listSameRef, neL]
  have h2 : (Value.type "set" == Value.type "list") = false := by decide
  have h3 : (Value.type "set" == Value.type "tuple") = false := by decide
  simp only [h1, h2, h3, Bool.or_false, Bool.false_eq_true, if_false]
  refine wpAny_bind (pyIter_set S1 fun I s2 W2 => ?_)
  obtain ⟨eg, eo, ek, ys, fp, wr, St, hys, st, hwr, hfp, W⟩ := W2
  have hL2 : s2.heap.get? s.heap.objs.size = some { cls := .type "list", data := .seq #[] } := ek _ _ hL
  have hT2 : s2.TypeIs (.ref a) "set" := by obtain ⟨o, ho, so⟩ := S1; exact ⟨o, ek _ _ ho, so.exact.1⟩
  refine wpAny_bind (wpAny_holding (hint_set hT2 ?_))
  have W1 := W A.in1 hh
  have hfpL : s.heap.objs.size ∉ fp := fun z => by
    rcases hfp _ z with e | e
    · exact neL e
    · have e : g.objs.size ≤ s.heap.objs.size := e
      rw [hgs] at e
      exact Nat.lt_irrefl _ e
  have key : ∀ (h4 : Heap) (c : Nat), St 0 h4 → (∀ b u, b ≠ s.heap.objs.size → s2.heap.get? b = some u → h4.get? b = some u) → h4.get? s.heap.objs.size = some { cls := .type "list", data := .seq #[] c } →
      codeAny (model prog w) A (.builtin "list.extend.loop" ⟨[.ref s.heap.objs.size, .ref I, .ref s.heap.objs.size], []⟩) (fun q s' => ∃ (acc : Array Value) (c' : Nat), q = .ok (.ret (.ref s.heap.objs.size)) ∧ Grown s s' ∧ s'.heap.get? s.heap.objs.size = some { cls := .type "list", data := .seq acc c' } ∧ ItemsOf (fun i v => ∃ y t, ys[i]? = some y ∧ v = .str y t) acc ys.length) { s2 with heap := h4 } := by
    intro h4 c st4 k4 L4
    refine codeAny_extend_loopS W1.toS (by rw [hys.length_eq, sizeLine_eq]; omega) s.heap.objs.size hfpL _ ys.length 0 _ #[] c rfl (Nat.zero_le _) st4 L4 (ItemsOf.nil _) fun s' acc' c' hm hS' hacc => ?_
    refine ⟨acc', c', rfl, ⟨hm.gens.trans eg, hm.os.trans eo, fun b u e => ?_⟩, hS', hacc⟩
    have hb : b < s.heap.objs.size := Heap.lt_size e
    refine hm.heap b u (fun z => ?_) (k4 b u (Nat.ne_of_lt hb) (ek b u (old b u e)))
    rcases List.mem_cons.mp z with z | z
    · exact Nat.lt_irrefl _ (z ▸ hb)
    · have q : g.objs.size ≤ b := hwr b z
      rw [hgs] at q
      exact Nat.lt_irrefl _ (Nat.lt_of_lt_of_le (Nat.lt_of_lt_of_le hb (Nat.le_succ _)) q)
  have fin : ∀ (q : Result) (s' : Shared), (∃ (acc : Array Value) (c' : Nat), q = .ok (.ret (.ref s.heap.objs.size)) ∧ Grown s s' ∧ s'.heap.get? s.heap.objs.size = some { cls := .type "list", data := .seq acc c' } ∧ ItemsOf (fun i v => ∃ y t, ys[i]? = some y ∧ v = .str y t) acc ys.length) →
      (match q with
        | .ok (.ret v) => wpAny (model prog w) A (match v with
            | .ref a => (do
              match (← load a).data with
              | .seq xs _ => pure xs.toList
              | _ => unsupported "internal:collect")
            | _ => unsupported "internal:collect") R E s'
        | .ok _ => False
        | .error e => E e s') := by
    rintro q s' ⟨acc, c', rfl, G, L', hacc⟩
    show wpAny _ A (load s.heap.objs.size >>= _) _ _ _
    refine wpAny_bind (wpAny_load L' ?_)
    exact wpAny_pure (h s' acc.toList ys (strs_of_items (by rw [Array.length_toList]; exact hacc.1) fun i v e => hacc.2 i v (by rw [← Array.getElem?_toList]; exact e)) hys G)
  have res : ∀ (b : Bool), b = true ∨ b = false → True := fun _ _ => trivial
  refine wpAny_ite_split (fun _ => ?_) (fun hab => ?_)
  · refine wpAny_bind (wpAny_rule ?_)
    refine wpAny_bind ?_
    show wpAny _ _ (updateSeq s.heap.objs.size (·.push .none) >>= fun _ => updateSeq s.heap.objs.size (·.pop)) _ _ _
    refine wpAny_bind (wpAny_updateSeq hL2 rfl ?_)
    have hL3 := Heap.get?_update_self (Obj.mapSeq (·.push Value.none)) hL2 rfl
    refine wpAny_updateSeq (hz := by seq_fits) hL3 rfl ?_
    have hL4 := Heap.get?_update_self (Obj.mapSeq (·.pop)) hL3 rfl
    have oth : ∀ b u, b ≠ s.heap.objs.size → s2.heap.get? b = some u → ((s2.heap.update s.heap.objs.size (Obj.mapSeq (·.push Value.none))).update s.heap.objs.size (Obj.mapSeq (·.pop))).get? b = some u := fun b u hb e =>
      (Heap.get?_update_other _ _ (Ne.symm hb)).trans ((Heap.get?_update_other _ _ (Ne.symm hb)).trans e)
    refine wpAny_pure ⟨plainId_quiet PySem.F.plain_extend_loop _, codeAny_mono (key _ _ (W1.frame 0 _ _ st fun b hb u e => oth b u (fun z => hfpL (z ▸ hb)) e) oth hL4) fin⟩
  · exact wpAny_pure ⟨plainId_quiet PySem.F.plain_extend_loop _, codeAny_mono (key _ _ st (fun b u _ e => e) hL2) fin⟩

/-- sorted of anything whose members collect gathers as texts -/
theorem sorted_by {src : Value} {xs : List Str} {Q : Value → Shared → Prop} (h64 : xs.length < 64)
    (hcol : ∀ (A' : Around) (R : List Value → Shared → Prop), A' = A.in1 → (∀ (s' : Shared) (vs : List Value) (ys : List Str), StrsAre vs ys → ys.Perm xs → Grown s s' → R vs s') → wpAny (model prog w) A' (collect src) R E s)
    (hQ : ∀ (s1 s' : Shared) (vs : List Value) (ys : List Str) (n : Nat), StrsAre vs ys → ys.Perm xs → sortedS ys = true → Grown s s1 → Grown s1 s' → s'.heap.get? s1.heap.objs.size = some { cls := .type "list", data := .seq vs.toArray n } → Q (.ref s1.heap.objs.size) s') :
    wpAny (model prog w) A (call (.builtin "sorted") [src]) Q E s := by
  refine Calls.call_function_entry kind_sorted plain_sorted entry_sorted (args_sorted1 _) ?_
  unfold Builtin.«sorted»
  refine wpAny_bind (m := checkCount "sorted" 1 1 _) (wpAny_pure ?_)
  refine wpAny_bind (hcol _ _ rfl fun s1 vs ys hv hp G => ?_)
  have hl : vs.length = ys.length := hv.length
  have hl64 : vs.length < 64 := by rw [hl, hp.length_eq]; exact h64
  refine wpAny_bind (wpAny_newList ?_ (by rw [sizeLine_eq]; omega))
  have hL : (s1.heap.push (seqObj "list" vs.toArray 0)).get? s1.heap.objs.size = some (seqObj "list" vs.toArray 0) := Heap.get?_push_size _ rfl
  refine wpAny_bind (wpAny_holding (wpAny_call_entry slot_list_sort ⟨_, hL, rfl⟩ entry_list_sort (list_sort_treeK strKind_oneLt (s := { s1 with heap := s1.heap.push (seqObj "list" vs.toArray 0) }) hL hv.keysOf (fun v₁ v₂ rest e => keyKind_strs (by rw [← e]; exact hv)) hl64 fun st' a1 a2 => ⟨_, rfl, ?_⟩) (args_list_sort _)))
  refine wpAny_pure ⟨_, rfl, ?_⟩
  obtain ⟨ys', h1, h2, h3⟩ := sorted_out_str hv a1 a2
  obtain ⟨n, hn⟩ := PyProof.Rows.sortedHeap_at (vs := vs) (out := (arrOf st').map (·.2)) hL
  refine hQ s1 _ ((arrOf st').map (·.2)).toList ys' n h1 (h2.trans hp) h3 G ⟨rfl, rfl, fun b u e1 => ?_⟩ (by rw [Array.toArray_toList]; exact hn)
  have hb : b ≠ s1.heap.objs.size := Nat.ne_of_lt (Heap.lt_size e1)
  show (sortedHeap (s1.heap.push (seqObj "list" vs.toArray 0)) s1.heap.objs.size vs _).get? b = some u
  rw [PyProof.Rows.sortedHeap_old hb (by rw [Heap.size_push]; exact Nat.lt_succ_of_lt (Heap.lt_size e1))]
  exact Heap.get?_push_of_some _ e1
end

/-! ### by the abstract heap -/
section
variable {X : Cx} {pins : List (Addr × Obj)} {σ : L2.St} {H : Hp} {s s' : Shared}
theorem inv_grown (I : Inv X pins σ H s) (G : Grown s s') : Inv X pins σ H s' := inv_more I G.2.2 G.2.1 (by rw [G.1]; exact I.bare)
theorem inv_laid {a : Addr} {o : HO} (I : Inv X pins σ H s) (G : Grown s s') (hp : s.heap.objs.size ≤ a) (new : ObjOk X.prog X.w (upd H a o) s'.heap a o) : Inv X pins σ (upd H a o) s' :=
  I.call' (ch := []) G.2.1 (Un.laid G.2.2 hp (I.hok.fresh hp)) (I.hok.laid G.2.2 hp new) (by rw [G.1]; exact I.bare) fun b z => absurd z (by simp)
/-- a set of texts, tracked -/
def setH (P : Program) (w : World) (a : Addr) (xs : List Str) : HO := .ext fun h => SetS P w h a xs
theorem setH_ok {P : Program} {w : World} {H : Hp} {h : Heap} {a : Addr} {xs : List Str} (S : SetS P w h a xs) : ObjOk P w H h a (setH P w a xs) :=
  ⟨S, let ⟨o, e, _⟩ := S; ⟨o, e⟩, fun _ _ S k => S.keep k⟩
theorem Inv.setS {a : Addr} {xs : List Str} (I : Inv X pins σ H s) (h : H a = some (setH X.prog X.w a xs)) : SetS X.prog X.w s.heap a xs := (I.hok a _ h).1

/-- set(xs), a list of texts -/
theorem call_setS (hc : X.calm = true) : CallR X (.type "set") (fun vs H Q => ∃ p ys, vs = [V.ref p] ∧ SqL X.K H p (ys.map V.str) ∧ ys.length ≤ 1000 ∧ ∀ l, H l = none → Q (.ref l) (upd H l (setH X.prog X.w l (dedupS ys)))) := by
  intro pins s σ H vs us Q I r h
  obtain ⟨a, ys, rfl, hs, hn, q⟩ := h
  obtain ⟨its, rv, hl, _⟩ := I.list hs
  rw [Vals.ref1 r]
  have hlen := rv.length
  rw [List.length_map] at hlen
  refine call_set_strs (I.ok.hd hc) hl.isList rv.strs (by
    rw [List.size_toArray, ← hlen]
    show ys.length + 1 < 4096
    omega) fun h' tk S' hk => ?_
  have G : Grown s { s with heap := h', toks := tk } := ⟨rfl, rfl, fun b u e => hk b u (Heap.lt_size e) e⟩
  exact ⟨.ref _, upd H s.heap.objs.size (setH X.prog X.w s.heap.objs.size (dedupS ys)), inv_laid I G (Nat.le_refl _) (setH_ok S'), rfl, q _ (I.hok.fresh (Nat.le_refl _))⟩
/-- sorted(s), a set of texts -/
theorem cr_sortedSet (hc : X.calm = true) : CallR X (.builtin "sorted") (fun vs H Q => ∃ a xs, vs = [V.ref a] ∧ H a = some (setH X.prog X.w a xs) ∧ xs.length < 64 ∧ ∀ (ys : List Str) (p : Addr), ys.Perm xs → sortedS ys = true → H p = none → Q (.ref p) (upd H p (.lst (ys.map V.str)))) := by
  intro pins s σ H vs us Q I r h
  obtain ⟨a, xs, rfl, ha, h64, q⟩ := h
  rw [Vals.ref1 r]
  have S := Inv.setS I ha
  refine sorted_by h64 (fun A' R e k => by subst e; exact collect_set (I.ok.hd hc) S (by omega) k) fun s1 s' vs ys n hv hp hs G1 G2 hL => ?_
  have hlen := hv.length
  have I1 := inv_grown I G1
  refine ⟨.ref _, upd H s1.heap.objs.size (.lst (ys.map V.str)), inv_laid I1 G2 (Nat.le_refl _) ⟨?_, vs, n, vals_of_strs hv, hL⟩, rfl, q ys _ hp hs (I1.hok.fresh (Nat.le_refl _))⟩
  rw [List.length_map, hp.length_eq]
  exact small64 h64
end
end MG

set_option Elab.async false
set_option linter.all false
set_option maxRecDepth 100000
namespace MG
open PySem PySem.Spec PyProof.Rows L2

/-! ### what a turn of a comprehension does with its item: acc at D -/
section
variable {X : Cx}
end

section
variable {X : Cx}
end
end MG

set_option Elab.async false
set_option linter.all false
set_option maxRecDepth 100000
namespace MG
open PySem PySem.Spec PyProof.Rows L2

section
variable {X : Cx}
/-- sorted(d), a dict whose keys are texts -/
theorem cr_sortedD (hc : X.calm = true) : CallR X (.builtin "sorted") (fun vs H Q => ∃ a kvs ks, vs = [V.ref a] ∧ H a = some (.dK kvs) ∧ kvs.map (·.1) = ks.map Sum.inr ∧ ks.length < 64 ∧ ∀ (ys : List Str) (p : Addr), ys.Perm ks → sortedS ys = true → H p = none → Q (.ref p) (upd H p (.lst (ys.map V.str)))) := by
  intro pins s σ H vs us Q I r h
  obtain ⟨a, kvs, ks, rfl, ha, hks, h64, q⟩ := h
  rw [Vals.ref1 r]
  obtain ⟨z, hd, ws, rel, dd⟩ := dk_of I.hok ha
  obtain ⟨ep, hat⟩ := dd.dictAt
  have hl : ws.length = ks.length := by
    have h1 : (kvs.map (·.1)).length = (ks.map (Sum.inr : Str → Key)).length := by rw [hks]
    rw [List.length_map, List.length_map] at h1
    rw [← rel.length]; exact h1
  have keyAt : ∀ {l : List (Key × V)} {m : List (Key × Value)} {i : Nat} {k : Key} {x : Value}, KV l m → m[i]? = some (k, x) → (l.map (·.1))[i]? = some k := by
    intro l m i k x rl
    induction rl generalizing i with
    | nil => intro e; simp at e
    | @cons p u ps us hpu t ih =>
      intro e
      cases i with
      | zero =>
        have e : u = (k, x) := Option.some.inj e
        have : p.1 = k := by rw [hpu.1, e]
        simp [this]
      | succ i =>
        simp only [List.getElem?_cons_succ] at e
        simpa using ih e
  refine sorted_by h64 (fun A' R e k => ?_) fun s1 s' vs ys n hv hp hs G1 G2 hL => ?_
  · subst e
    refine PySem.W.kdu_collect (PySem.W.kdl_dict (prog := X.prog) (w := X.w) (knd := mixKind X.prog X.w) (kvs := ws) (ep := ep) hd) (I.ok.hd hc) hat (by rw [hl, sizeLine_eq]; omega) fun h' tk acc hk hacc => ?_
    refine k _ acc.toList ks (strs_of_items (by rw [Array.length_toList, ← hl]; exact hacc.1) fun i v e => ?_) (.refl _) ⟨rfl, rfl, hk⟩
    obtain ⟨key, x, e1, e2⟩ := hacc.2 i v (by rw [← Array.getElem?_toList]; exact e)
    have e3 := keyAt rel e1
    rw [hks, List.getElem?_map] at e3
    cases e4 : ks[i]? with
    | none => rw [e4] at e3; cases e3
    | some y =>
      rw [e4] at e3
      have e5 : (Sum.inr y : Key) = key := Option.some.inj e3
      subst e5
      have e6 : keyIs (Sum.inr y) v = true := e2
      cases v with
      | str x' t' =>
        have e7 : Value.isStrOf y (.str x' t') = true := e6
        have e8 : (x' == y) = true := by simpa [Value.isStrOf] using e7
        exact ⟨y, t', rfl, by rw [beq_iff_eq.mp e8]⟩
      | _ => simp [keyIs, Value.isStrOf] at e6
  · have I1 := inv_grown I G1
    refine ⟨.ref _, upd H s1.heap.objs.size (.lst (ys.map V.str)), inv_laid I1 G2 (Nat.le_refl _) ⟨?_, vs, n, vals_of_strs hv, hL⟩, rfl, q ys _ hp hs (I1.hok.fresh (Nat.le_refl _))⟩
    rw [List.length_map, hp.length_eq]
    exact small64 h64
end
end MG

set_option Elab.async false
set_option linter.all false
set_option maxRecDepth 100000
namespace MG
open PySem PySem.Spec PyProof.Rows L2

/-! ### enumerate(tuple) -/
section
variable {prog : Program} {w : World} {A : Around} {E : Value → Shared → Prop} {s : Shared}
/-- the end of a walk is told by a new StopIteration -/
theorem stop_raised {α : Type} {Q : α → Shared → Prop} (hh : A.handled = none) (hE : ∀ h' e, (∀ b o, s.heap.get? b = some o → h'.get? b = some o) → (∃ o, h'.get? e = some o ∧ o.cls = .type "StopIteration") → E (.ref e) { s with heap := h' }) :
    wpAny (model prog w) A (Builtin.SmallTypes.stopIteration (α := α)) Q E s := by
  obtain ⟨h, g, d, t, os⟩ := s
  unfold Builtin.SmallTypes.stopIteration
  wp_walk
  unfold raiseNew
  refine wpAny_bind (wpAny_handled ?_)
  rw [hh]
  refine wpAny_bind (wpAny_pure (wpAny_throw ?_))
  exact hE _ _ (fun b o z => Heap.get?_push_of_some _ (Heap.get?_push_of_some _ z)) ⟨_, Heap.get?_push_size _ rfl, rfl⟩
/-- a tuple's walk, one turn: the item at its place, or the end -/
theorem drawT {it l : Addr} {i : Nat} {items : Array Value} {Q : Value → Shared → Prop} (hh : items[i]? = none → A.handled = none) (hit : s.heap.IsTupleIter it l i) (hl : s.heap.IsTuple l items)
    (h : match items[i]? with
      | some x => ∀ h', h'.IsTupleIter it l (i + 1) → Heap.SameBut it s.heap h' → Q x { s with heap := h' }
      | none => ∀ h' e, Heap.ExtBut it s.heap h' → (∃ o, h'.get? e = some o ∧ o.cls = .type "StopIteration") → E (.ref e) { s with heap := h' }) :
    wpAny (model prog w) A (Builtin.SmallTypes.nextOf (.ref it)) Q E s := by
  have ⟨o, ho, hc, hd⟩ := hit
  have ⟨ol, hol, _, nl, hdl⟩ := hl
  refine wpAny_bind (m := callSpecial? (.ref it) "__next__") (wpAny_callSpecial?_slot hit.typeIs F.slot_tuple_iterator_next (wpAny_call_entry F.slot_tuple_iterator_next hit.typeIs F.entry_tuple_iterator_next ?_ (F.args_tuple_iterator_next_1 _)))
  refine wpAny_bind (m := field (.ref it) 0) (wpAny_field ho hd (x := .ref l) rfl ?_)
  refine wpAny_bind (m := field (.ref it) 1) (wpAny_field ho hd (x := .int i 0) rfl ?_)
  refine wpAny_bind (m := seqItems? (.ref l)) (wpAny_seqItems hol hdl ?_)
  dsimp only
  rw [Int.toNat_natCast]
  cases e : items[i]? with
  | some x =>
    rw [e] at h
    refine wpAny_bind (wpAny_setField ho hd (by simp) (wpAny_pure ⟨x, rfl, wpAny_pure (h _ ⟨_, Heap.get?_update_self _ ho ?_, ?_, ?_⟩ (Heap.SameBut.update ..))⟩))
    · exact Obj.isFreed_of_fields (Obj.data_mapFields hd _)
    · rw [Obj.cls_mapFields, hc]
    · simp [Obj.data_mapFields hd, rawInt]
  | none =>
    rw [e] at h
    refine wpAny_bind (wpAny_rule (wpAny_bind (wpAny_setField ho hd (by simp) (stop_raised (by simpa using hh e) fun h' e k c => h h' e (fun b o n z => k b o ?_) c))))
    exact (Heap.get?_update_other _ _ (Ne.symm n)).trans z
theorem drawT_item {it l : Addr} {i : Nat} {items : Array Value} {x : Value} {Q : Value → Shared → Prop} (hit : s.heap.IsTupleIter it l i) (hl : s.heap.IsTuple l items) (hx : items[i]? = some x)
    (hQ : ∀ h', h'.IsTupleIter it l (i + 1) → Heap.SameBut it s.heap h' → Q x { s with heap := h' }) : wpAny (model prog w) A (Builtin.SmallTypes.nextOf (.ref it)) Q E s :=
  drawT (fun z => nomatch hx.symm.trans z) hit hl (by rw [hx]; exact hQ)
theorem drawT_end {it l : Addr} {i : Nat} {items : Array Value} {Q : Value → Shared → Prop} (hh : A.handled = none) (hit : s.heap.IsTupleIter it l i) (hl : s.heap.IsTuple l items) (hx : items[i]? = none)
    (hE : ∀ h' e, Heap.ExtBut it s.heap h' → (∃ o, h'.get? e = some o ∧ o.cls = .type "StopIteration") → E (.ref e) { s with heap := h' }) : wpAny (model prog w) A (Builtin.SmallTypes.nextOf (.ref it)) Q E s :=
  drawT (fun _ => hh) hit hl (by rw [hx]; exact hE)
theorem drawsT (hh : A.handled = none) (it l : Addr) (hne : l ≠ it) (items : Array Value) :
    Draws prog w A it [it, l] items.size (fun i v => items[i]? = some v) (fun i h => h.IsTupleIter it l i ∧ h.IsTuple l items) :=
  { live := fun i h st => st.1.elim fun o z => ⟨o, z.1⟩
    frame := fun i h h' st k => ⟨st.1.at (k it (by simp)), let ⟨o, e, r⟩ := st.2; ⟨o, k l (by simp) o e, r⟩⟩
    item := fun i s Q E hi st hQ => drawT (fun _ => hh) st.1 st.2 (by
      rw [Array.getElem?_eq_getElem hi]
      exact fun h' z k => hQ _ h' _ (Array.getElem?_eq_getElem hi) ⟨z, st.2.extBut k.extBut hne⟩ k)
    done := fun s Q E st hE => drawT (fun _ => hh) st.1 st.2 (by rw [Array.getElem?_eq_none (Nat.le_refl _)]; exact hE) }
theorem enum_newT (l : Addr) (items : Array Value) (n : Nat) (dct : Option Addr) (sl : Array (Option Value)) :
    Meets (Builtin.«enumerate.__new__» ⟨[.type "enumerate", .ref l], []⟩) (fun _ R s => s.heap.get? l = some { cls := .type "tuple", dict := dct, data := .seq items n, slots := sl } ∧
      R (.ok (.ret (.ref (s.heap.push { cls := .type "tuple_iterator", data := .fields #[.ref l, .int 0 0] }).objs.size)))
        { s with heap := (s.heap.push { cls := .type "tuple_iterator", data := .fields #[.ref l, .int 0 0] }).push { cls := .type "enumerate", data := .fields #[.none, .bool false, .ref s.heap.objs.size, rawInt 0, .none, .none] } }) :=
  .of_wp fun prog w A R ⟨hp, g, d, tk, os⟩ ⟨hl, h⟩ => by
    have hsub := sub_enumerate
    have hL : Heap.IsTuple (Shared.heap ⟨hp, g, d, tk, os⟩) l items := ⟨_, hl, rfl, n, rfl⟩
    wp_walk using AutoSeq1.wpAny_loadPart' hl
    apply wpAny_stack_any
    intro st
    apply wpAny_pure
    split
    rotate_left
    · wp_walk using AutoSeq1.wpAny_loadPart' hl, wpAny_pyIter_tuple hL
      exact ⟨_, rfl, h⟩
    · rename_i c _ _ _ _ _
      generalize (c == Value.type "enumerate") = own
      cases own <;> (wp_walk using AutoSeq1.wpAny_loadPart' hl, wpAny_pyIter_tuple hL; exact ⟨_, rfl, h⟩)
theorem call_enumT {l : Addr} {items : Array Value} {Q : Value → Shared → Prop} (hL : s.heap.IsTuple l items)
    (h : ∀ h', IsEnum h' (s.heap.objs.size + 1) s.heap.objs.size 0 .none → h'.IsTupleIter s.heap.objs.size l 0 → h'.objs.size = s.heap.objs.size + 2 →
      (∀ b o, s.heap.get? b = some o → h'.get? b = some o) → Q (.ref (s.heap.objs.size + 1)) { s with heap := h' }) : wpAny (model prog w) A (call (.type "enumerate") [.ref l]) Q E s := by
  have ⟨⟨c, dct, dt, sl⟩, hl, hc, n, hd⟩ := hL
  have hc : c = .type "tuple" := hc
  have hd : dt = .seq items n := hd
  subst hc hd
  refine callType_new F.called_enumerate (by decide) (F.typeCall_enumerate_1 _) (F.newCall_enumerate_1 _) (fun obj => F.args_object_init_2 obj _) F.entry_enumerate_new (enum_newT l items n dct sl) ⟨hl, ?_⟩
  generalize hI : s.heap.push { cls := .type "tuple_iterator", data := .fields #[.ref l, .int 0 0] } = H1
  have z1 : H1.objs.size = s.heap.objs.size + 1 := by rw [← hI]; exact Heap.size_push ..
  have g1 : H1.get? s.heap.objs.size = some { cls := .type "tuple_iterator", data := .fields #[.ref l, .int 0 0] } := by rw [← hI]; exact Heap.get?_push_size _ rfl
  have k1 : ∀ b o, s.heap.get? b = some o → H1.get? b = some o := fun b o z => by rw [← hI]; exact Heap.get?_push_of_some _ z
  have q : (H1.push { cls := .type "enumerate", data := .fields #[.none, .bool false, .ref s.heap.objs.size, rawInt 0, .none, .none] }).get? H1.objs.size = some _ := Heap.get?_push_size _ rfl
  refine ⟨⟨_, q, rfl⟩, ?_⟩
  rw [z1] at q ⊢
  exact h _ q ⟨_, Heap.get?_push_of_some _ g1, rfl, rfl⟩ (by rw [Heap.size_push, z1]) fun b o z => Heap.get?_push_of_some _ (k1 b o z)
end
def IteT (K : PySem.W.Frag) (a : Addr) : It :=
  ⟨fun i H => ∃ (xs : List V) (x : V), SqT K H a xs ∧ xs[i]? = some x, fun i H v H' => ∃ T x, v = .ref T ∧ H T = none ∧ H' = upd H T (.tup [.int (i : Nat), x]) ∧ ∀ xs, SqT K H a xs → xs[i]? = some x, fun i H => ∃ xs : List V, SqT K H a xs ∧ xs.length = i⟩
theorem turn_enumT {P : Program} {w : World} {K : PySem.W.Frag} {elts : List Expr} {kk : Nat} {tpos : Pos} (a e it : Addr) (hae : a ≠ it) (hea : e ≠ a) :
    Turn P w K (.Tuple elts kk tpos) (IteT K a) [e, it] e (fun i h => (∃ old, IsEnum h e it ((i : Nat) : Int) old) ∧ h.IsTupleIter it a i ∧ e ≠ it) where
  mem := by simp
  obj := fun i h st b hb => by
    obtain ⟨⟨old, he⟩, ⟨o, ho, hc, hd⟩, _⟩ := st
    have e' : b = e ∨ b = it := by simpa using hb
    rcases e' with z | z
    · rw [z]; exact ⟨_, he, fun v q => nomatch q⟩
    · rw [z]; exact ⟨o, ho, fun v q => by rw [hd] at q; cases q⟩
  keep := fun i h h' st k => let ⟨⟨old, he⟩, hi, hne⟩ := st; ⟨⟨old, k e (by simp) _ he⟩, hi.at fun o q => k it (by simp) o q, hne⟩
  item := by
    intro X hP hw hK hc i pins s σ H E I hf st hg
    subst hP hw hK
    obtain ⟨⟨old, he⟩, hit, hne⟩ := st
    obtain ⟨xs, x, hq, hx⟩ := hg
    obtain ⟨its, rv, p, hz⟩ := I.tuple hq
    obtain ⟨u, hu, ru⟩ := rv.get hx
    have hel : e < s.heap.objs.size := Heap.lt_size he
    have hil : it < s.heap.objs.size := by obtain ⟨_, q, _⟩ := hit; exact Heap.lt_size q
    have hT0 : s.heap.IsTuple a its.toArray := p
    have hi : i < its.toArray.size := by
      have := (List.getElem?_eq_some_iff.mp hu).1
      simpa using this
    refine wpAny_pyNext_enum_itemD (drawsT (A := X.A.in1) (I.ok.hd hc) it a hae its.toArray) he ⟨hit, hT0⟩ hi hne (by simp [hne, hea]) fun x' h' tk hx' ho st' hT hsz hk => ?_
    have ex' : x' = u := by
      have hx' : its.toArray[i]? = some x' := hx'
      rw [List.getElem?_toArray, hu] at hx'
      exact (Option.some.inj hx').symm
    subst ex'
    refine ⟨_, rfl, wpAny_letOwnedTupleGo_enum (s := { s with heap := h', toks := tk + 1 }) ho fun h'' he' sb => ?_⟩
    have hT2 : h''.get? s.heap.objs.size = some { cls := .type "tuple", data := .seq #[.int i tk, x'] } := (sb.2 _ (Nat.ne_of_gt hel)).trans hT
    have new : ObjOk X.prog X.w (upd H s.heap.objs.size (.tup [.int (i : Nat), x])) h'' s.heap.objs.size (.tup [.int (i : Nat), x]) :=
      ⟨by show 2 ≤ sizeLine; decide, [.int i tk, x'], .cons ⟨_, rfl⟩ (.cons ru .nil), ⟨_, hT2, rfl, _, rfl⟩⟩
    have I1 : Inv X pins σ (upd H s.heap.objs.size (.tup [.int (i : Nat), x])) { s with heap := h'', toks := tk + 1 } :=
      I.turnedNew (ch := [e, it]) (fun b ob hb q => (sb.2 b (fun z => hb (by simp [z]))).trans (hk b ob (fun z => hb (by simp [z])) (fun z => hb (by simp [z])) q)) hf (Nat.le_refl _) new
    refine ⟨.ref s.heap.objs.size, _, I1, rfl, ⟨_, x, rfl, I.hok.fresh (Nat.le_refl _), rfl, fun ys hy => by rw [I.tuple_inj hy hq]; exact hx⟩, ⟨⟨x', ?_⟩, st'.1.at fun o q => (sb.2 it (Ne.symm hne)).trans q, hne⟩, fun b hb => ?_⟩
    · have e1 : ((i + 1 : Nat) : Int) = (i : Int) + 1 := by omega
      rw [e1]; exact he'
    · have hb' : b < s.heap.objs.size := by
        have e' : b = e ∨ b = it := by simpa using hb
        rcases e' with z | z
        · rw [z]; exact hel
        · rw [z]; exact hil
      rw [upd_ne (Nat.ne_of_lt hb')]
      exact (hf b hb).1
  done := by
    intro X hP hw hK hc i pins s σ H E I hf st hg
    subst hP hw hK
    obtain ⟨⟨old, he⟩, hit, hne⟩ := st
    obtain ⟨xs, hq, hx⟩ := hg
    obtain ⟨its, rv, p, hz⟩ := I.tuple hq
    obtain ⟨f0, f1, f2, f3, f4, f5⟩ := hf it (by simp)
    have hl := rv.length
    have hn : i = its.toArray.size := by rw [List.size_toArray, ← hl, hx]
    subst hn
    exact wpAny_pyNext_enum_endD (drawsT (A := X.A.in1) (I.ok.hd hc) it a hae its.toArray) he ⟨hit, p⟩ fun h' eb => ⟨rfl, I.turned (t' := s.toks) (fun b o hb q => eb b o hb q) f0 f1 f3 f4 f5⟩
  self := fun A i s Q E st h => let ⟨⟨_, he⟩, _⟩ := st; wpAny_pyIter_enum he h
def iEnumT (K : PySem.W.Frag) (ta : TA) : TI := fun σ H R => ta σ H fun vs H1 => ∃ a xs, vs = [.ref a] ∧ SqT K H1 a xs ∧ R (IteT K a) H1
theorem pi_enumT {X : Cx} {e : Expr} {ta : TA} {p pos tpos : Pos} {elts : List Expr} {kk : Nat} (hg : Gl X "enumerate") (hm : X.mg "enumerate" = none) (ha : PA X [e] ta) (hs : starEach [e] X.env = [(false, eval e X.env)] := by rfl) :
    PI X (.Tuple elts kk tpos) (.Call (.Name "enumerate" p) [e] [] pos) (iEnumT X.K ta) := by
  intro pins s σ H R I h
  refine Call_ (ld_blt I hg hm boot_enumerate (PyProof.Rows.callWith_type1 (thn (ha pos pins s σ H _ I h) fun us s1 ⟨vs, H1, I1, r1, q1⟩ => ?_) hs rfl))
  obtain ⟨a, xs, ex, hq, q⟩ := q1
  subst ex
  cases r1 with
  | cons r rr =>
    cases rr
    cases r
    obtain ⟨its, rv, p', hz⟩ := I1.tuple hq
    have alt : a < s1.heap.objs.size := p'.lt
    refine call_enumT p' fun h' he hit hsz hk => wpAny_pyIter_enum he ?_
    have I2 : Inv X pins σ H1 { s1 with heap := h' } := I1.kept (t' := s1.toks) hk
    refine ⟨s1.heap.objs.size + 1, [s1.heap.objs.size + 1, s1.heap.objs.size], _, _, H1, rfl, I2, turn_enumT a (s1.heap.objs.size + 1) s1.heap.objs.size (Nat.ne_of_lt alt) (Nat.ne_of_gt (Nat.lt_succ_of_lt alt)), ⟨⟨.none, he⟩, hit, Nat.succ_ne_self _⟩, fun b hb => ?_, q⟩
    have e' : b = s1.heap.objs.size + 1 ∨ b = s1.heap.objs.size := by simpa using hb
    have hle : s1.heap.objs.size ≤ b := by
      rcases e' with z | z
      · rw [z]; exact Nat.le_add_right _ _
      · rw [z]; exact Nat.le_refl _
    exact I1.fpOk hle (I1.hok.fresh hle)

/-! ### [*xs, ..], large products, name = {k: v ..} -/
section
variable {X : Cx}
theorem op_mulB : OpR X (binaryOp .Mult) (rI (fun i j => i.natAbs < 2 ^ 1000 ∧ j.natAbs < 2 ^ 1000) fun i j => .int (i * j)) := opI fun i j _ _ _ _ _ hc q =>
  mul_int q (IntMulOk.of_bits (Nat.le_trans (PyProof.Rows.intBits_le hc.1) (by decide)) (Nat.le_trans (PyProof.Rows.intBits_le hc.2) (by decide)))
/-- isinstance(x, C), C a built-in class -/
theorem call_isi : CallR X (.builtin "isinstance") (fun vs H Q => ∃ x t c b, vs = [x, .ty c] ∧ TyOf X.K H x (.type t) ∧ PySem.W.kitOne X.K (.type t) (.type c) = some b ∧ Q (.bl b) H) := by
  intro pins s σ H vs us Q I r h
  obtain ⟨x, t, c, b, rfl, ty, e, q⟩ := h
  cases r with
  | cons r1 rr =>
    cases rr with
    | cons r2 rr2 =>
      cases rr2
      cases r2
      exact isinst_ok I r1 ty e fun tk => ⟨.bl b, H, I.tok tk, rfl, q⟩
end
end MG

set_option Elab.async false
set_option linter.all false
set_option maxRecDepth 100000
namespace MG
open PySem PySem.Spec PyProof.Rows L2

/-! ### a def of the text, by its name -/
structure Cal (P : Program) (w : World) (K : PySem.W.Frag) (mg : Str → Option Value) (base : Heap) (x : Str) (k : Nat) (ps : List Str) (sp : Sp) : Prop where
  ex : ∃ f fd, mg x = some (.ref f) ∧ FnOk P w K mg base CX0 k f fd ps sp ∧ PySem.W.keepIn K (.ref f) = true ∧ Binds K fd ps []
section
variable {X : Cx} {x : Str} {k : Nat} {ps : List Str} {sp : Sp} {p pos : Pos} {e : Expr} {es : List Expr} {t : TA}
theorem pe_cal (C : Cal X.prog X.w X.K X.mg X.base x k ps sp) (hr : Room k X.A) (hg : Gl X x) (ha : PA X (e :: es) t) (hdb : (x == ("__debug__" : Str)) = false := by decide)
    (he : starEach (e :: es) X.env = (false, eval e X.env) :: starEach es X.env := by rfl) (hpl : (backTo pos (starEach es X.env)).any (·.1) = false := by rfl) : PE X (.Call (.Name x p) (e :: es) [] pos) (tCall sp [] E0 t) := by
  obtain ⟨f, fd, h1, h2, h3, h4⟩ := C.ex
  exact pe_call h2 hr hg h1 h3 h4 .nil pass0 ha hdb he hpl
theorem pe_cal0 (C : Cal X.prog X.w X.K X.mg X.base x k ps sp) (hr : Room k X.A) (hg : Gl X x) (hdb : (x == ("__debug__" : Str)) = false := by decide) : PE X (.Call (.Name x p) [] [] pos) (tCall sp [] E0 tNil) := by
  obtain ⟨f, fd, h1, h2, h3, h4⟩ := C.ex
  exact pe_call0 h2 hr hg h1 h3 h4 .nil pass0 hdb
end
/-- a def whose code's address and table are known: it lays generators -/
structure FunG (K : PySem.W.Frag) (x qual : Str) (st : Stmt) (f : Addr) (fd : FuncData) (c P : Addr) : Prop where
  ex : ∃ (oc : Value) (od : Option Addr) (kV doc pm : Value) (an : Option Addr) (ct : Value) (osl : Array (Option Value)),
    fd = PySem.W.fnOf x qual (defArgs st) (defBody st) (defScope st) .none kV doc pm an (.ref c) ct ∧ K.lookup f = some ⟨oc, od, .func fd, osl⟩ ∧ PySem.W.codeIn K (.ref c) qual = true
  hd : PySem.W.codeHdIn K c P = true
section
variable {P : Program} {w : World} {K : PySem.W.Frag} {mg : Str → Option Value} {base : Heap}
theorem FunG.ok {x qual : Str} {st : Stmt} {f c Pt : Addr} {fd : FuncData} {N ps : List Str} {k : Nat} {sp : Sp} (F : FunG K x qual st f fd c Pt) (S : FnScope N ps (defScope st)) (len : ∀ vs H Q E, sp vs H Q E → vs.length = ps.length)
    (hbody : ∀ (A : Around) (outer : List Env) (s : Shared) (H : Hp) (vs : List V) (Q : VK) (E : XK), Room k (A.deeper (envOfC qual (defScope st) s.heap.objs.size f (.ref c))) → sp vs H Q E →
      ∃ t, PSs (cxOf CX0 P w K mg base N qual (defScope st) f (.ref c) A outer s H E).nox (defBody st) t ∧ t { nx := fun _ H' => Q .non H', rt := Q } (start N vs) H) : FnOk P w K mg base CX0 (k + 1) f fd ps sp := by
  obtain ⟨oc, od, kV, doc, pm, an, ct, osl, rfl, lk, hcd⟩ := F.ex
  refine fn_of lk hcd S len fun A outer s H vs Q E hr hsp => ?_
  obtain ⟨t, h, q⟩ := hbody A outer s H vs Q E hr hsp
  exact ⟨t, h.nox, q⟩
end

/-! ### the heap: texts' lists and tuples -/
theorem supd {H H' : Hp} {a : Addr} {o : HO} (s : Same H H') (h : H' a = none) : Same H (upd H' a o) := fun b u e => by
  rw [upd_ne (ne_of_none (s b u e) h)]; exact s b u e
theorem same_upd {H : Hp} {a : Addr} {o : HO} (h : H a = none) : Same H (upd H a o) := supd (Same.refl H) h

/-! ### steps, bodies, books, changes, as plain data -/
inductive Stp where
  | say | hear | fin
  | plus (n : Int) | times (n : Int) | turn (n : Int)
  | ask (w : Str) | odd (w : Str)
  deriving DecidableEq
abbrev Body := List Stp
def Stp.vals : Stp → List V
  | .say => [.str "say"] | .hear => [.str "hear"] | .fin => [.str "end"]
  | .plus n => [.str "plus", .int n] | .times n => [.str "times", .int n] | .turn n => [.str "turn", .int n]
  | .ask w => [.str "ask", .str w] | .odd w => [.str "odd", .str w]
/-- a sign a to z -/
def isLow (c : Nat) : Bool := decide (97 ≤ c) && decide (c ≤ 122)
def WordOk (x : Str) : Prop := 1 ≤ x.length ∧ x.length ≤ 8 ∧ x.cps.toList.all isLow = true
def Stp.ok : Stp → Prop
  | .say => True | .hear => True | .fin => True
  | .plus n => -99 ≤ n ∧ n ≤ 99 | .times n => -99 ≤ n ∧ n ≤ 99 | .turn n => -99 ≤ n ∧ n ≤ 99
  | .ask w => WordOk w | .odd w => WordOk w
def BodyOk (b : Body) : Prop := b.length ≤ 9 ∧ ∀ s ∈ b, s.ok

def StepAt (H : Hp) (v : V) (s : Stp) : Prop := ∃ t, v = .ref t ∧ H t = some (.tup s.vals)
def BodyAt (H : Hp) (b : Addr) (ss : Body) : Prop := ∃ vs, H b = some (.lst vs) ∧ Paired (StepAt H) vs ss
/-- an entry of a book: its word, its body's address, its body -/
abbrev Ent := Str × Addr × Body
def EntAt (H : Hp) (v : V) (e : Ent) : Prop := ∃ t, v = .ref t ∧ H t = some (.tup [.str e.1, .ref e.2.1]) ∧ BodyAt H e.2.1 e.2.2
def BookAt (H : Hp) (L : Addr) (es : List Ent) : Prop := ∃ vs, H L = some (.lst vs) ∧ Paired (EntAt H) vs es
/-- an entry of changes -/
abbrev Cha := Str × Option (Addr × Body)
def chaV : Option (Addr × Body) → V
  | none => .non
  | some b => .ref b.1
def ChaAt (H : Hp) (v : V) (e : Cha) : Prop := ∃ t, v = .ref t ∧ H t = some (.tup [.str e.1, chaV e.2]) ∧ ∀ b ss, e.2 = some (b, ss) → BodyAt H b ss
def ChgAt (H : Hp) (L : Addr) (es : List Cha) : Prop := ∃ vs, H L = some (.lst vs) ∧ Paired (ChaAt H) vs es
section
variable {H H' : Hp}
theorem StepAt.same {v : V} {s : Stp} (h : StepAt H v s) (k : Same H H') : StepAt H' v s := let ⟨t, e, z⟩ := h; ⟨t, e, k _ _ z⟩
theorem BodyAt.same {b : Addr} {ss : Body} (h : BodyAt H b ss) (k : Same H H') : BodyAt H' b ss := let ⟨vs, e, z⟩ := h; ⟨vs, k _ _ e, L2.Paired.mapP z fun _ _ q => q.same k⟩
theorem EntAt.same {v : V} {e : Ent} (h : EntAt H v e) (k : Same H H') : EntAt H' v e := let ⟨t, q, z, r⟩ := h; ⟨t, q, k _ _ z, r.same k⟩
theorem BookAt.same {L : Addr} {es : List Ent} (h : BookAt H L es) (k : Same H H') : BookAt H' L es := let ⟨vs, e, z⟩ := h; ⟨vs, k _ _ e, L2.Paired.mapP z fun _ _ q => q.same k⟩
theorem ChaAt.same {v : V} {e : Cha} (h : ChaAt H v e) (k : Same H H') : ChaAt H' v e := let ⟨t, q, z, r⟩ := h; ⟨t, q, k _ _ z, fun b ss x => (r b ss x).same k⟩
theorem ChgAt.same {L : Addr} {es : List Cha} (h : ChgAt H L es) (k : Same H H') : ChgAt H' L es := let ⟨vs, e, z⟩ := h; ⟨vs, k _ _ e, L2.Paired.mapP z fun _ _ q => q.same k⟩
theorem paired_at {α β : Type} {F : α → β → Prop} : ∀ {l : List α} {m : List β} {i : Nat} {x : α}, Paired F l m → l[i]? = some x → ∃ y, m[i]? = some y ∧ F x y
  | _, _, i, x, .nil, h => by simp at h
  | _, _, 0, x, .cons r t, h => by
    have h : _ = x := Option.some.inj h
    subst h
    exact ⟨_, rfl, r⟩
  | _, _, i + 1, x, .cons r t, h => by
    obtain ⟨y, h1, h2⟩ := paired_at (i := i) t (by simpa using h)
    exact ⟨y, by simpa using h1, h2⟩
end
/-- all(..): n turns, each of which gives True -/
theorem all_by {J : It} {g : TG} {te : TE} {N : List Str} {Q : VK} {H1 : Hp} (Pv : Nat → Hp → Prop) (n : Nat) (h0 : Pv 0 H1)
    (hs : ∀ i H, i < n → Pv i H → J.go i H ∧ ∀ x H', J.yld i H x H' → g x (noSt N) H' fun σ2 H2 => te σ2 H2 fun y H3 => ∃ b, y = .bl b ∧ if b = true then Pv (i + 1) H3 else Q (.bl false) H3) (hd : ∀ H, Pv n H → J.stop n H ∧ Q (.bl true) H) :
    ∃ W : Nat → Nat → Hp → Prop, (∃ m, W 0 m H1) ∧ ∀ i m H, W i m H → (J.stop i H ∧ Q (.bl true) H) ∨ (J.go i H ∧ ∃ Nx : Hp → Prop, (∀ H', Nx H' → ∃ m', m' < m ∧ W (i + 1) m' H') ∧
      ∀ x H', J.yld i H x H' → g x (noSt N) H' fun σ2 H2 => te σ2 H2 fun y H3 => ∃ b, y = .bl b ∧ if b = true then Nx H3 else Q (.bl false) H3) := by
  refine ⟨fun i m H => i + m = n ∧ Pv i H, ⟨n, by omega, h0⟩, ?_⟩
  rintro i m H ⟨e, p⟩
  rcases Nat.lt_or_ge i n with z | z
  · obtain ⟨h1, h2⟩ := hs i H z p
    exact .inr ⟨h1, Pv (i + 1), fun H' p' => ⟨m - 1, by omega, by omega, p'⟩, h2⟩
  · have ei : i = n := by omega
    subst ei
    exact .inl (hd H p)
/-- the builtins that the text uses under their own names -/
def blts : List Str := ["isinstance", "int", "bool", "str", "tuple", "list", "len", "all", "sorted", "set", "range", "enumerate", "zip"]
end MG

set_option Elab.async false
set_option linter.all false
set_option maxRecDepth 100000
namespace MG
open PySem PySem.Spec PyProof.Rows L2
/-- a before or with b -/
def leS (a b : Str) : Prop := ltCps b.cps.toList a.cps.toList = false
theorem leS_trans {a b c : Str} (h1 : leS a b) (h2 : leS b c) : leS a c := by
  unfold leS at *
  rw [ltCps_eq] at *
  cases h : decide (c.cps.toList < a.cps.toList) with
  | false => rfl
  | true =>
    rcases PyProof.Rows.strKind.negTrans c.cps.toList b.cps.toList a.cps.toList h with k | k
    · exact absurd (h2.symm.trans k) (by decide)
    · exact absurd (h1.symm.trans k) (by decide)
theorem leS_anti {a b : Str} (h1 : leS a b) (h2 : leS b a) : a = b := by
  unfold leS at *
  rw [ltCps_eq] at *
  have e : a.cps.toList = b.cps.toList := PyProof.Rows.strKind.total _ _ h2 h1
  have e2 : a.cps = b.cps := Array.toList_inj.mp e
  cases a; cases b
  simp only at e2
  rw [e2]
theorem rising_pw : ∀ {r : List Str} {x : Str}, risingS x r = true → (x :: r).Pairwise leS
  | [], x, _ => by simp
  | y :: r, x, h => by
    have h' : (!ltCps y.cps.toList x.cps.toList && risingS y r) = true := h
    rw [Bool.and_eq_true] at h'
    have h1 : leS x y := by
      have := h'.1
      unfold leS
      simpa using this
    have h2 := rising_pw h'.2
    refine List.pairwise_cons.mpr ⟨fun z hz => ?_, h2⟩
    rcases List.mem_cons.mp hz with e | hz
    · rw [e]; exact h1
    · exact leS_trans h1 ((List.pairwise_cons.mp h2).1 z hz)
theorem sorted_pw : ∀ {l : List Str}, sortedS l = true → l.Pairwise leS
  | [], _ => .nil
  | x :: r, h => rising_pw h
theorem sorted_of_pw {l : List Str} (h : l.Pairwise leS) : sortedS l = true := sortedS_of_pairwise l h
theorem sorted_eq {xs ys : List Str} (p : xs.Perm ys) (h1 : sortedS xs = true) (h2 : sortedS ys = true) : xs = ys :=
  List.Perm.eq_of_pairwise (fun _ _ _ _ a b => leS_anti a b) (sorted_pw h1) (sorted_pw h2) p
theorem sorted_sub {xs ys : List Str} (p : xs.Sublist ys) (h : sortedS ys = true) : sortedS xs = true := sorted_of_pw ((sorted_pw h).sublist p)
/-! ### members once -/
theorem mem_addS {xs : List Str} {y z : Str} : z ∈ addS xs y ↔ z ∈ xs ∨ z = y := by
  unfold addS
  split
  · rename_i h
    exact ⟨.inl, fun k => k.elim id fun e => e ▸ h⟩
  · rw [List.mem_append, List.mem_singleton]
theorem nd_addS {xs : List Str} {y : Str} (h : xs.Nodup) : (addS xs y).Nodup := by
  unfold addS
  split
  · exact h
  · rename_i k; exact nd_snoc h k
theorem mem_fold {z : Str} : ∀ {ys xs : List Str}, z ∈ ys.foldl addS xs ↔ z ∈ xs ∨ z ∈ ys
  | [], xs => by simp
  | y :: r, xs => by
    show z ∈ r.foldl addS (addS xs y) ↔ _
    rw [mem_fold, mem_addS, List.mem_cons, or_assoc]
theorem nd_fold : ∀ {ys xs : List Str}, xs.Nodup → (ys.foldl addS xs).Nodup
  | [], _, h => h
  | y :: r, xs, h => nd_fold (ys := r) (nd_addS h)
theorem mem_dedup {z : Str} {ys : List Str} : z ∈ dedupS ys ↔ z ∈ ys := by unfold dedupS; rw [mem_fold]; simp
theorem nd_dedup (ys : List Str) : (dedupS ys).Nodup := nd_fold List.nodup_nil
theorem perm_of_mem {xs ys : List Str} (h1 : xs.Nodup) (h2 : ys.Nodup) (h : ∀ z, z ∈ xs ↔ z ∈ ys) : xs.Perm ys := (List.perm_ext_iff_of_nodup h1 h2).mpr h
theorem dedup_nodup {ys : List Str} (h : ys.Nodup) : (dedupS ys).Perm ys := perm_of_mem (nd_dedup ys) h fun _ => mem_dedup
/-! ### data that a comparison reads -/
theorem dp_strs {K : PySem.W.Frag} {H : Hp} : ∀ (xs : List Str), DpAll K H (xs.map V.str) (xs.map PyData.str)
  | [] => .nil
  | x :: r => .cons (.str x) (dp_strs r)
end MG

set_option Elab.async false
set_option linter.all false
set_option maxRecDepth 100000
namespace MG
open PySem PySem.Spec PyProof.Rows L2
/-! ### data: of what depth, and plain -/
def Flat (d : PyData) (n : Nat) : Prop := d.canLay0 = true ∧ d.depth ≤ n
theorem Flat.mono {d : PyData} {n m : Nat} (h : Flat d n) (k : n ≤ m) : Flat d m := ⟨h.1, Nat.le_trans h.2 k⟩
theorem Flat.shaped {d : PyData} {n : Nat} (h : Flat d n) (k : n ≤ 64 := by decide) : SeqAt.shaped d = true := by
  unfold SeqAt.shaped
  rw [Bool.and_eq_true, decide_eq_true_eq]
  exact ⟨h.1, Nat.le_trans h.2 k⟩
theorem Flat.refl {d : PyData} {n : Nat} (h : Flat d n) : d.eqv d = true := SeqAt.eqv_refl d h.1
theorem flat_none : Flat .none 1 := ⟨by simp [PyData.canLay0], by unfold PyData.depth; omega⟩
theorem flat_int (i : Int) : Flat (.int i) 1 := ⟨by simp [PyData.canLay0], by unfold PyData.depth; omega⟩
theorem flat_str {x : Str} (h : PyData.strOk x = true) : Flat (.str x) 1 := ⟨by simp [PyData.canLay0, h], by unfold PyData.depth; omega⟩
theorem flat_all : ∀ {ds : List PyData} {n : Nat}, (∀ d ∈ ds, Flat d n) → PyData.canLayAll0 ds = true ∧ PyData.depthAll ds ≤ n
  | [], _, _ => ⟨by simp [PyData.canLayAll0], Nat.zero_le _⟩
  | d :: r, n, h => by
    obtain ⟨h1, h2⟩ := flat_all (ds := r) fun x hx => h x (List.mem_cons_of_mem _ hx)
    obtain ⟨h3, h4⟩ := h d (List.mem_cons_self ..)
    refine ⟨by simp [PyData.canLayAll0, h1, h3], ?_⟩
    show max (PyData.depth d) (PyData.depthAll r) ≤ n
    omega
theorem flat_list {ds : List PyData} {n : Nat} (h : ∀ d ∈ ds, Flat d n) : Flat (.list ds) (n + 1) := by
  obtain ⟨h1, h2⟩ := flat_all h
  exact ⟨by simp [PyData.canLay0, h1], by unfold PyData.depth; omega⟩
theorem flat_tuple {ds : List PyData} {n : Nat} (h : ∀ d ∈ ds, Flat d n) : Flat (.tuple ds) (n + 1) := by
  obtain ⟨h1, h2⟩ := flat_all h
  exact ⟨by simp [PyData.canLay0, h1], by unfold PyData.depth; omega⟩
theorem flat_two {a b : PyData} {n : Nat} (h : Flat a n) (k : Flat b n) : ∀ d ∈ [a, b], Flat d n := by
  intro d hd
  rcases List.mem_cons.mp hd with e | hd
  · rw [e]; exact h
  · rw [List.mem_singleton.mp hd]; exact k
theorem flat_one {a : PyData} {n : Nat} (h : Flat a n) : ∀ d ∈ [a], Flat d n := by
  intro d hd; rw [List.mem_singleton.mp hd]; exact h
theorem word_ok {x : Str} (h : WordOk x) : PyData.strOk x = true := by
  have h := h.2.2
  unfold PyData.strOk
  rw [← Array.all_toList]
  refine List.all_eq_true.mpr fun c hc => ?_
  have := List.all_eq_true.mp h c hc
  simp only [isLow, Bool.and_eq_true, decide_eq_true_eq] at this
  exact decide_eq_true (by omega)
/-! ### of steps, bodies, books, changes -/
def Stp.dat : Stp → PyData
  | .say => .tuple [.str "say"] | .hear => .tuple [.str "hear"] | .fin => .tuple [.str "end"]
  | .plus n => .tuple [.str "plus", .int n] | .times n => .tuple [.str "times", .int n] | .turn n => .tuple [.str "turn", .int n]
  | .ask w => .tuple [.str "ask", .str w] | .odd w => .tuple [.str "odd", .str w]
def bodyD (b : Body) : PyData := .list (b.map Stp.dat)
def entD (e : Ent) : PyData := .tuple [.str e.1, bodyD e.2.2]
def bookD (es : List Ent) : PyData := .list (es.map entD)
def optD : Option (Addr × Body) → PyData
  | none => .none
  | some b => bodyD b.2
def chaD (e : Cha) : PyData := .tuple [.str e.1, optD e.2]
def chgD (es : List Cha) : PyData := .list (es.map chaD)
theorem Stp.flat {s : Stp} (h : s.ok) : Flat s.dat 2 := by
  cases s with
  | say => exact flat_tuple (flat_one (flat_str (by decide +kernel)))
  | hear => exact flat_tuple (flat_one (flat_str (by decide +kernel)))
  | fin => exact flat_tuple (flat_one (flat_str (by decide +kernel)))
  | plus n => exact flat_tuple (flat_two (flat_str (by decide +kernel)) (flat_int _))
  | times n => exact flat_tuple (flat_two (flat_str (by decide +kernel)) (flat_int _))
  | turn n => exact flat_tuple (flat_two (flat_str (by decide +kernel)) (flat_int _))
  | ask x => exact flat_tuple (flat_two (flat_str (by decide +kernel)) (flat_str (word_ok h)))
  | odd x => exact flat_tuple (flat_two (flat_str (by decide +kernel)) (flat_str (word_ok h)))
theorem body_flat {b : Body} (h : ∀ s ∈ b, s.ok) : Flat (bodyD b) 3 := flat_list fun d hd => by
  obtain ⟨s, hs, rfl⟩ := List.mem_map.mp hd
  exact s.flat (h s hs)
def EntOk (e : Ent) : Prop := WordOk e.1 ∧ BodyOk e.2.2
def ChaOk (e : Cha) : Prop := WordOk e.1 ∧ ∀ b ss, e.2 = some (b, ss) → BodyOk ss
theorem ent_flat {e : Ent} (h : EntOk e) : Flat (entD e) 4 := flat_tuple (flat_two (flat_str (word_ok h.1) |>.mono (by decide)) (body_flat h.2.2))
theorem book_flat {es : List Ent} (h : ∀ e ∈ es, EntOk e) : Flat (bookD es) 5 := flat_list fun d hd => by
  obtain ⟨s, hs, rfl⟩ := List.mem_map.mp hd
  exact ent_flat (h s hs)
section
variable {K : PySem.W.Frag} {H : Hp}
theorem dp_all {α : Type} {F : V → α → Prop} {f : α → PyData} (hf : ∀ v x, F v x → Dp K H v (f x)) : ∀ {vs : List V} {xs : List α}, Paired F vs xs → DpAll K H vs (xs.map f)
  | _, _, .nil => .nil
  | _, _, .cons r t => .cons (hf _ _ r) (dp_all hf t)
theorem dp_two {v u : V} {a b : PyData} (h : Dp K H v a) (k : Dp K H u b) : DpAll K H [v, u] [a, b] := .cons h (.cons k .nil)
theorem StepAt.dp {v : V} {s : Stp} (h : StepAt H v s) : Dp K H v s.dat := by
  obtain ⟨t, rfl, ht⟩ := h
  cases s with
  | say => exact .tup (SqT.of ht) (.cons (.str _) .nil)
  | hear => exact .tup (SqT.of ht) (.cons (.str _) .nil)
  | fin => exact .tup (SqT.of ht) (.cons (.str _) .nil)
  | plus n => exact .tup (SqT.of ht) (dp_two (.str _) (.int _))
  | times n => exact .tup (SqT.of ht) (dp_two (.str _) (.int _))
  | turn n => exact .tup (SqT.of ht) (dp_two (.str _) (.int _))
  | ask x => exact .tup (SqT.of ht) (dp_two (.str _) (.str _))
  | odd x => exact .tup (SqT.of ht) (dp_two (.str _) (.str _))
theorem BodyAt.dp {b : Addr} {ss : Body} (h : BodyAt H b ss) : Dp K H (.ref b) (bodyD ss) := let ⟨_, e, z⟩ := h; .lst (SqL.of e) (dp_all (fun _ _ q => StepAt.dp q) z)
theorem EntAt.dp {v : V} {e : Ent} (h : EntAt H v e) : Dp K H v (entD e) := by
  obtain ⟨t, rfl, ht, hb⟩ := h
  exact .tup (SqT.of ht) (dp_two (.str _) hb.dp)
theorem BookAt.dp {L : Addr} {es : List Ent} (h : BookAt H L es) : Dp K H (.ref L) (bookD es) := let ⟨_, e, z⟩ := h; .lst (SqL.of e) (dp_all (fun _ _ q => EntAt.dp q) z)
theorem cha_opt {o : Option (Addr × Body)} (h : ∀ b ss, o = some (b, ss) → BodyAt H b ss) : Dp K H (chaV o) (optD o) := by
  cases o with
  | none => exact .non
  | some b => exact (h b.1 b.2 rfl).dp
theorem ChaAt.dp {v : V} {e : Cha} (h : ChaAt H v e) : Dp K H v (chaD e) := by
  obtain ⟨t, rfl, ht, hb⟩ := h
  exact .tup (SqT.of ht) (dp_two (.str _) (cha_opt hb))
theorem ChgAt.dp {L : Addr} {es : List Cha} (h : ChgAt H L es) : Dp K H (.ref L) (chgD es) := let ⟨_, e, z⟩ := h; .lst (SqL.of e) (dp_all (fun _ _ q => ChaAt.dp q) z)
end
/-! ### books and changes that are none but good -/
structure BookOk (es : List Ent) : Prop where
  each : ∀ e ∈ es, EntOk e
  up : sortedS (es.map (·.1)) = true
  once : (es.map (·.1)).Nodup
  few : es.length ≤ 20
structure ChgOk (es : List Cha) : Prop where
  each : ∀ e ∈ es, ChaOk e
  once : (es.map (·.1)).Nodup
  few : es.length ≤ 20
/-- the tables that generator expressions write their code to -/
structure TB where
  (w b k c : Addr)
def TB.on (T : TB) (H : Hp) : Prop := H T.w = some (tabH T.w) ∧ H T.b = some (tabH T.b) ∧ H T.k = some (tabH T.k) ∧ H T.c = some (tabH T.c)
theorem TB.on.same {T : TB} {H H' : Hp} (h : T.on H) (k : Same H H') : T.on H' := ⟨k _ _ h.1, k _ _ h.2.1, k _ _ h.2.2.1, k _ _ h.2.2.2⟩
/-! ### rules within a block: K by name -/
theorem pg_tupK {X : Cx} {K : PySem.W.Frag} (hK : X.K = K) {es : List Expr} {k n : Nat} {t : TGs} {pos : Pos} (hc : X.calm = true) (h : PGs X es t)
    (hn : (assignEach es X.env).length = n := by rfl) (hst : (assignEach es X.env).findIdx? (·.1) = none := by rfl) : PG X (.Tuple es k pos) (gTup K n t) := hK ▸ pg_tup hc h hn hst
/-! ### comprehensions over a list whose turns leave the heap as it is -/
theorem lc_pick {K : PySem.W.Frag} {a : Addr} {xs : List V} {g : TG} {tt : TT} {te : TE} {vs : List Nat} {σ : L2.St} {H1 : Hp} {D : Addr} {Qd : Hp → Prop} (f : V → List V) (hD : H1 D = none) (ha : SqL K H1 a xs) (hn : (xs.flatMap f).length < sizeLine)
    (hs : ∀ x acc (Nx : Hp → Prop), x ∈ xs → acc.length < sizeLine → Nx (upd H1 D (.lst (acc ++ f x))) → g x (wipe σ vs) (upd H1 D (.lst acc)) fun σ2 H2 => wipe σ2 vs = wipe σ vs ∧ tt σ2 H2 fun b H3 =>
      if b = true then te σ2 H3 fun y H4 => ∃ acc, H4 D = some (.lst acc) ∧ acc.length < sizeLine ∧ Nx (upd H4 D (.lst (acc ++ [y]))) else Nx H3)
    (hd : Qd (upd H1 D (.lst (xs.flatMap f)))) :
    ∃ W : Nat → Nat → Hp → Prop, (∃ m, W 0 m (upd H1 D (.lst []))) ∧ ∀ i m H, W i m H →
      ((Itl K a).stop i H ∧ Qd H) ∨ ((Itl K a).go i H ∧ ∃ Nx : Hp → Prop, (∀ H', Nx H' → ∃ m', m' < m ∧ W (i + 1) m' H') ∧ ∀ x H', (Itl K a).yld i H x H' → g x (wipe σ vs) H' fun σ2 H2 => wipe σ2 vs = wipe σ vs ∧ tt σ2 H2 fun b H3 =>
        if b = true then te σ2 H3 fun y H4 => ∃ acc, H4 D = some (.lst acc) ∧ acc.length < sizeLine ∧ Nx (upd H4 D (.lst (acc ++ [y]))) else Nx H3) := by
  have hS : ∀ o, Same H1 (upd H1 D o) := fun o => same_upd hD
  refine lc_list (xs := xs) (fun i H => H = upd H1 D (.lst ((xs.take i).flatMap f))) (by simp) (fun i H _ e => by rw [e]; exact (hS _).seq ha) (fun i x H hx e => ?_) (fun H e => ?_)
  · subst e
    have ht : xs.take (i + 1) = xs.take i ++ [x] := by rw [List.take_succ, hx]; rfl
    refine hs x _ _ (List.mem_of_getElem? hx) ?_ ?_
    · refine Nat.lt_of_le_of_lt ?_ hn
      have : xs.flatMap f = (xs.take i).flatMap f ++ (xs.drop i).flatMap f := by rw [← List.flatMap_append, List.take_append_drop]
      rw [this, List.length_append]; omega
    · rw [ht, List.flatMap_append]; simp
  · rw [e, List.take_length]; exact hd
theorem allG_by {K : PySem.W.Frag} {Pt L : Addr} {j : Nat} {N : List Str} {us : List V} {g : TG} {te : TE} {σ : L2.St} {H : Hp} {Q : VK} (Pv : Nat → Hp → Prop) (h1 : σ[j]? = some (some (.ref L))) (hl : SqL K H L us) (hP : H Pt = some (tabH Pt)) (h0 : Pv 0 H)
    (hs : ∀ i y H, us[i]? = some y → Pv i H → SqL K H L us ∧ g y (noSt N) H fun σ2 H2 => te σ2 H2 fun y H3 => ∃ b, y = .bl b ∧ if b = true then Pv (i + 1) H3 else Q (.bl false) H3) (hd : ∀ H, Pv us.length H → SqL K H L us ∧ Q (.bl true) H) :
    tAllG Pt (iList K (tVar j)) g te N σ H Q := by
  refine ⟨_, h1, L, rfl, ⟨_, hl⟩, hP, all_by (J := Itl K L) Pv us.length h0 (fun i H1 hi p => ?_) (fun H1 p => ?_)⟩
  · obtain ⟨q, z⟩ := hs i us[i] H1 (List.getElem?_eq_getElem hi) p
    refine ⟨⟨_, _, q, List.getElem?_eq_getElem hi⟩, ?_⟩
    rintro y H2 ⟨rfl, hy⟩
    have hy := hy _ q
    rw [List.getElem?_eq_getElem hi] at hy
    have e : us[i] = y := Option.some.inj hy
    subst e
    exact z
  · obtain ⟨q, z⟩ := hd H1 p
    exact ⟨⟨_, q, Nat.le_refl _⟩, z⟩
theorem tLc_pick {K : PySem.W.Frag} {ti : TE} {g : TG} {tt : TT} {te : TE} {vs : List Nat} {σ : L2.St} {H : Hp} {Q : VK} (a : Addr) (xs : List V) (H1 : Hp) (f : V → List V) (hi : ti σ H fun v H' => v = .ref a ∧ H' = H1) (ha : SqL K H1 a xs) (hn : (xs.flatMap f).length < sizeLine)
    (hmono : ∀ {Q Q' : VK}, ti σ H Q → (∀ v H', Q v H' → Q' v H') → ti σ H Q')
    (hs : ∀ D x acc (Nx : Hp → Prop), H1 D = none → x ∈ xs → acc.length < sizeLine → Nx (upd H1 D (.lst (acc ++ f x))) → g x (wipe σ vs) (upd H1 D (.lst acc)) fun σ2 H2 => wipe σ2 vs = wipe σ vs ∧ tt σ2 H2 fun b H3 =>
      if b = true then te σ2 H3 fun y H4 => ∃ acc, H4 D = some (.lst acc) ∧ acc.length < sizeLine ∧ Nx (upd H4 D (.lst (acc ++ [y]))) else Nx H3)
    (hd : ∀ D, H1 D = none → Q (.ref D) (upd H1 D (.lst (xs.flatMap f)))) : tLc (iList K ti) g tt te vs σ H Q := by
  refine hmono hi ?_
  rintro v H' ⟨rfl, rfl⟩
  refine ⟨a, rfl, ⟨_, ha⟩, fun D hD => ?_⟩
  exact lc_pick f hD ha hn (fun x acc Nx hx h1 h2 => hs D x acc Nx hD hx h1 h2) (hd D hD)
theorem tVar_mono {i : Nat} {σ : L2.St} {H : Hp} : ∀ {Q Q' : VK}, tVar i σ H Q → (∀ v H', Q v H' → Q' v H') → tVar i σ H Q' := fun ⟨v, e, q⟩ k => ⟨v, e, k _ _ q⟩
/-- as tLc_pick, over a name -/
theorem tLc_pickV {K : PySem.W.Frag} {j : Nat} {g : TG} {tt : TT} {te : TE} {vs : List Nat} {σ : L2.St} {H : Hp} {Q : VK} (a : Addr) (xs : List V) (f : V → List V) (hi : σ[j]? = some (some (.ref a))) (ha : SqL K H a xs) (hn : (xs.flatMap f).length < sizeLine)
    (hs : ∀ D x acc (Nx : Hp → Prop), H D = none → x ∈ xs → acc.length < sizeLine → Nx (upd H D (.lst (acc ++ f x))) → g x (wipe σ vs) (upd H D (.lst acc)) fun σ2 H2 => wipe σ2 vs = wipe σ vs ∧ tt σ2 H2 fun b H3 =>
      if b = true then te σ2 H3 fun y H4 => ∃ acc, H4 D = some (.lst acc) ∧ acc.length < sizeLine ∧ Nx (upd H4 D (.lst (acc ++ [y]))) else Nx H3)
    (hd : ∀ D, H D = none → Q (.ref D) (upd H D (.lst (xs.flatMap f)))) : tLc (iList K (tVar j)) g tt te vs σ H Q :=
  tLc_pick a xs H f ⟨_, hi, rfl, rfl⟩ ha hn tVar_mono hs hd
/-! ### a pair's first part, its second -/
def tupAt (H : Hp) (v : V) : List V := match v with
  | .ref t => match H t with
    | some (.tup xs) => xs
    | _ => []
  | _ => []
theorem tupAt_of {H : Hp} {t : Addr} {xs : List V} (h : H t = some (.tup xs)) : tupAt H (.ref t) = xs := by unfold tupAt; simp only [h]
def fstV (H : Hp) (v : V) : List V := (tupAt H v).take 1
theorem paired_flat {α β γ : Type} {F : α → β → Prop} {f : α → List γ} {g : β → List γ} (h : ∀ a b, F a b → f a = g b) : ∀ {l : List α} {m : List β}, Paired F l m → l.flatMap f = m.flatMap g
  | _, _, .nil => rfl
  | _, _, .cons r t => by rw [List.flatMap_cons, List.flatMap_cons, h _ _ r, paired_flat h t]
theorem flat_sing {α β : Type} {f : α → β} : ∀ {l : List α}, l.flatMap (fun e => [f e]) = l.map f
  | [] => rfl
  | x :: r => by rw [List.flatMap_cons, flat_sing, List.map_cons]; rfl
theorem paired_mem {α β : Type} {F : α → β → Prop} : ∀ {l : List α} {m : List β} {x : α}, Paired F l m → x ∈ l → ∃ y, y ∈ m ∧ F x y
  | _, _, x, .nil, h => absurd h (by simp)
  | _, _, x, .cons r t, h => by
    rcases List.mem_cons.mp h with e | h
    · subst e; exact ⟨_, List.mem_cons_self .., r⟩
    · obtain ⟨y, h1, h2⟩ := paired_mem t h
      exact ⟨y, List.mem_cons_of_mem _ h1, h2⟩
end MG

set_option Elab.async false
set_option linter.all false
set_option maxRecDepth 100000
namespace MG
open PySem PySem.Spec PyProof.Rows L2
/-! ### heaps that differ at some lists -/
def But (S : List Addr) (H H' : Hp) : Prop := ∀ a o, a ∉ S → H a = some o → H' a = some o
def Lists (S : List Addr) (H : Hp) : Prop := ∀ a ∈ S, ∃ xs, H a = some (.lst xs)
theorem Same.but {S : List Addr} {H H' : Hp} (h : Same H H') : But S H H' := fun a o _ e => h a o e
theorem But.trans {S : List Addr} {H H1 H2 : Hp} (h : But S H H1) (k : But S H1 H2) : But S H H2 := fun a o n e => k a o n (h a o n e)
theorem But.upd {H : Hp} {a : Addr} {o : HO} : But [a] H (upd H a o) := fun b u n e => by rw [upd_ne (by simpa using n)]; exact e
theorem But.mono {S S' : List Addr} {H H' : Hp} (h : But S H H') (k : ∀ a ∈ S, a ∈ S') : But S' H H' := fun a o n e => h a o (fun z => n (k a z)) e
section
variable {S : List Addr} {H H' : Hp}
theorem StepAt.but {v : V} {s : Stp} (h : StepAt H v s) (l : Lists S H) (k : But S H H') : StepAt H' v s := by
  obtain ⟨t, e, z⟩ := h
  refine ⟨t, e, k _ _ (fun m => ?_) z⟩
  obtain ⟨xs, q⟩ := l t m
  rw [z] at q; cases q
theorem BodyAt.but {b : Addr} {ss : Body} (h : BodyAt H b ss) (l : Lists S H) (k : But S H H') (n : b ∉ S) : BodyAt H' b ss := let ⟨vs, e, z⟩ := h; ⟨vs, k _ _ n e, L2.Paired.mapP z fun _ _ q => q.but l k⟩
theorem tup_but {t : Addr} {xs : List V} (h : H t = some (.tup xs)) (l : Lists S H) (k : But S H H') : H' t = some (.tup xs) := by
  refine k _ _ (fun m => ?_) h
  obtain ⟨xs, q⟩ := l t m
  rw [h] at q; cases q
theorem EntAt.but {v : V} {e : Ent} (h : EntAt H v e) (l : Lists S H) (k : But S H H') (n : e.2.1 ∉ S) : EntAt H' v e := let ⟨t, q, z, r⟩ := h; ⟨t, q, tup_but z l k, r.but l k n⟩
theorem ChaAt.but {v : V} {e : Cha} (h : ChaAt H v e) (l : Lists S H) (k : But S H H') (n : ∀ b ss, e.2 = some (b, ss) → b ∉ S) : ChaAt H' v e := let ⟨t, q, z, r⟩ := h; ⟨t, q, tup_but z l k, fun b ss x => (r b ss x).but l k (n b ss x)⟩
theorem TB.on.but {T : TB} (h : T.on H) (l : Lists S H) (k : But S H H') : T.on H' := by
  have f : ∀ a, H a = some (tabH a) → H' a = some (tabH a) := fun a e => k _ _ (fun m => by
    obtain ⟨xs, q⟩ := l a m
    rw [e] at q; cases q) e
  exact ⟨f _ h.1, f _ h.2.1, f _ h.2.2.1, f _ h.2.2.2⟩
theorem paired_imp {α β : Type} {F G : α → β → Prop} : ∀ {l : List α} {m : List β}, Paired F l m → (∀ a b, b ∈ m → F a b → G a b) → Paired G l m
  | _, _, .nil, _ => .nil
  | _, _, .cons r t, h => .cons (h _ _ (List.mem_cons_self ..) r) (paired_imp t fun a b hb => h a b (List.mem_cons_of_mem _ hb))
theorem paired_snoc {α β : Type} {F : α → β → Prop} {x : α} {y : β} (q : F x y) : ∀ {l : List α} {m : List β}, Paired F l m → Paired F (l ++ [x]) (m ++ [y])
  | _, _, .nil => .cons q .nil
  | _, _, .cons r t => .cons r (paired_snoc q t)
end
/-! ### a book that is being built at D -/
structure Built (H0 : Hp) (D : Addr) (H : Hp) (fs : List Ent) : Prop where
  same : Same H0 H
  fresh : H0 D = none
  here : BookAt H D fs
  nd : (D :: fs.map (·.2.1)).Nodup
  new : ∀ a ∈ fs.map (·.2.1), H0 a = none
theorem Built.start {H0 : Hp} {D : Addr} (h : H0 D = none) : Built H0 D (upd H0 D (.lst [])) [] := ⟨same_upd h, h, ⟨[], upd_same, .nil⟩, by simp, by simp⟩
theorem Built.grow {H0 H H' : Hp} {D : Addr} {fs : List Ent} (h : Built H0 D H fs) (k : Same H H') : Built H0 D H' fs := ⟨h.same.trans k, h.fresh, h.here.same k, h.nd, h.new⟩
/-- a pair more: l the body's copy, p the pair -/
theorem Built.push {H0 H : Hp} {D l p : Addr} {fs : List Ent} {x : Str} {ss : Body} {vs ws : List V} (h : Built H0 D H fs) (hv : H D = some (.lst vs)) (hw : Paired (StepAt H) ws ss) (hl : H l = none) (hp : upd H l (.lst ws) p = none) :
    Built H0 D (upd (upd (upd H l (.lst ws)) p (.tup [.str x, .ref l])) D (.lst (vs ++ [.ref p]))) (fs ++ [(x, l, ss)]) := by
  have s1 : Same H (upd (upd H l (.lst ws)) p (.tup [.str x, .ref l])) := supd (same_upd hl) hp
  have hDl : l ≠ D := fun e => by rw [e, hv] at hl; cases hl
  have hD2 := s1 _ _ hv
  have Ls : Lists [D] (upd (upd H l (.lst ws)) p (.tup [.str x, .ref l])) := fun a ha => by rw [List.mem_singleton.mp ha]; exact ⟨_, hD2⟩
  have B := But.upd (H := upd (upd H l (.lst ws)) p (.tup [.str x, .ref l])) (a := D) (o := .lst (vs ++ [.ref p]))
  have hlb : upd (upd H l (.lst ws)) p (.tup [.str x, .ref l]) l = some (.lst ws) := (same_upd hp) _ _ upd_same
  have hpb : upd (upd H l (.lst ws)) p (.tup [.str x, .ref l]) p = some (.tup [.str x, .ref l]) := upd_same
  have hnl : l ∉ fs.map (·.2.1) := fun m => by
    obtain ⟨e, he, rfl⟩ := List.mem_map.mp m
    obtain ⟨us, hu, hP⟩ := h.here
    have : ∀ {l : List V} {m : List Ent} {e : Ent}, Paired (EntAt H) l m → e ∈ m → ∃ v, EntAt H v e := by
      intro l m e r
      induction r with
      | nil => intro z; simp at z
      | cons r t ih =>
        intro z
        rcases List.mem_cons.mp z with z | z
        · rw [z]; exact ⟨_, r⟩
        · exact ih z
    obtain ⟨v, t, _, _, ⟨ws', hb, _⟩⟩ := this hP he
    rw [hb] at hl; cases hl
  refine ⟨fun b u e => ?_, h.fresh, ⟨_, upd_same, ?_⟩, ?_, ?_⟩
  · have e1 := s1 _ _ (h.same b u e)
    exact B _ _ (by simpa using ne_of_none e h.fresh) e1
  · obtain ⟨us, hu, hP⟩ := h.here
    rw [hv] at hu
    cases hu
    refine paired_snoc ⟨p, rfl, tup_but hpb Ls B, ⟨ws, B _ _ (by simpa using hDl) hlb, ?_⟩⟩ (paired_imp hP fun v e he q => (q.same s1).but Ls B ?_)
    · have hn := (List.nodup_cons.mp h.nd).1
      intro z
      exact hn (List.mem_singleton.mp z ▸ List.mem_map.mpr ⟨e, he, rfl⟩)
    · exact L2.Paired.mapP hw fun _ _ q => (q.same s1).but Ls B
  · have hn := List.nodup_cons.mp h.nd
    rw [List.map_append, ← List.cons_append]
    refine List.nodup_append.mpr ⟨h.nd, by simp, ?_⟩
    intro a ha b hb
    have hb : b = l := by simpa using hb
    rw [hb]
    rcases List.mem_cons.mp ha with e | ha
    · rw [e]; exact hDl.symm
    · exact fun e => hnl (e ▸ ha)
  · intro a ha
    rw [List.map_append, List.mem_append] at ha
    rcases ha with ha | ha
    · exact h.new a ha
    · have : a = l := by simpa using ha
      rw [this]; exact h.same.free hl
/-! ### what a book, changes tell of a word -/
def bodyOf (es : List Ent) (x : Str) : Option (Addr × Body) := (es.find? fun e => decide (e.1 = x)).map (·.2)
/-! ### the dict of the words -/
def putS (d : List (Key × V)) (p : Str × V) : List (Key × V) := putK d (Sum.inr p.1) p.2
def dOf (ps : List (Str × V)) : List (Key × V) := ps.foldl putS []
def entP (e : Ent) : Str × V := (e.1, .ref e.2.1)
def chaP (e : Cha) : Str × V := (e.1, chaV e.2)
theorem bodyOf_some {es : List Ent} {x : Str} {b : Addr × Body} (h : bodyOf es x = some b) : (x, b) ∈ es := by
  unfold bodyOf at h
  obtain ⟨e, h1, rfl⟩ := Option.map_eq_some_iff.mp h
  have h2 := List.find?_some h1
  have h3 : e.1 = x := of_decide_eq_true h2
  rw [← h3]; exact List.mem_of_find?_eq_some h1
theorem bodyOf_in {es : List Ent} {x : Str} (h : x ∈ es.map (·.1)) : ∃ b, bodyOf es x = some b := by
  cases e : bodyOf es x with
  | some b => exact ⟨b, rfl⟩
  | none =>
    unfold bodyOf at e
    rw [Option.map_eq_none_iff, List.find?_eq_none] at e
    obtain ⟨en, h1, h2⟩ := List.mem_map.mp h
    exact absurd (decide_eq_true h2) (e en h1)
def PairAt (H : Hp) (v : V) (p : Str × V) : Prop := ∃ t, v = .ref t ∧ H t = some (.tup [.str p.1, p.2])
theorem PairAt.same {H H' : Hp} {v : V} {p : Str × V} (h : PairAt H v p) (k : Same H H') : PairAt H' v p := let ⟨t, e, z⟩ := h; ⟨t, e, k _ _ z⟩
theorem EntAt.pair {H : Hp} {v : V} {e : Ent} (h : EntAt H v e) : PairAt H v (entP e) := let ⟨t, e, z, _⟩ := h; ⟨t, e, z⟩
theorem ChaAt.pair {H : Hp} {v : V} {e : Cha} (h : ChaAt H v e) : PairAt H v (chaP e) := let ⟨t, e, z, _⟩ := h; ⟨t, e, z⟩
theorem paired_mapR {α β γ : Type} {F : α → β → Prop} {G : α → γ → Prop} {f : β → γ} (h : ∀ a b, F a b → G a (f b)) : ∀ {l : List α} {m : List β}, Paired F l m → Paired G l (m.map f)
  | _, _, .nil => .nil
  | _, _, .cons r t => .cons (h _ _ r) (paired_mapR h t)
theorem paired_app {α β : Type} {F : α → β → Prop} {l' : List α} {m' : List β} (q : Paired F l' m') : ∀ {l : List α} {m : List β}, Paired F l m → Paired F (l ++ l') (m ++ m')
  | _, _, .nil => q
  | _, _, .cons r t => .cons r (paired_app q t)
theorem paired_memR {α β : Type} {F : α → β → Prop} : ∀ {l : List α} {m : List β} {y : β}, Paired F l m → y ∈ m → ∃ x, x ∈ l ∧ F x y
  | _, _, y, .nil, h => absurd h (by simp)
  | _, _, y, .cons r t, h => by
    rcases List.mem_cons.mp h with e | h
    · subst e; exact ⟨_, List.mem_cons_self .., r⟩
    · obtain ⟨x, h1, h2⟩ := paired_memR t h
      exact ⟨x, List.mem_cons_of_mem _ h1, h2⟩
theorem Built.weaken {H0 H1 H : Hp} {D : Addr} {fs : List Ent} (h : Built H1 D H fs) (k : Same H0 H1) : Built H0 D H fs := ⟨k.trans h.same, k.free h.fresh, h.here, h.nd, fun a ha => k.free (h.new a ha)⟩
/-- a list comprehension over a list, behind its iterable, by an invariant -/
theorem lc_by {K : PySem.W.Frag} {g : TG} {tt : TT} {te : TE} {vs : List Nat} {σ : L2.St} {a : Addr} {xs : List V} {H1 : Hp} {Qd : Addr → Hp → Prop} (Pv : Addr → Nat → Hp → Prop) (h0 : ∀ D, H1 D = none → Pv D 0 (upd H1 D (.lst []))) (hl : ∀ D i H, i ≤ xs.length → Pv D i H → SqL K H a xs)
    (hs : ∀ D i x H, H1 D = none → xs[i]? = some x → Pv D i H → g x (wipe σ vs) H fun σ2 H2 => wipe σ2 vs = wipe σ vs ∧ tt σ2 H2 fun b H3 =>
      if b = true then te σ2 H3 fun y H4 => ∃ acc, H4 D = some (.lst acc) ∧ acc.length < sizeLine ∧ Pv D (i + 1) (upd H4 D (.lst (acc ++ [y]))) else Pv D (i + 1) H3) (hd : ∀ D H, H1 D = none → Pv D xs.length H → Qd D H) :
    ∀ D, H1 D = none → ∃ W : Nat → Nat → Hp → Prop, (∃ m, W 0 m (upd H1 D (.lst []))) ∧ ∀ i m H, W i m H →
      ((Itl K a).stop i H ∧ Qd D H) ∨ ((Itl K a).go i H ∧ ∃ Nx : Hp → Prop, (∀ H', Nx H' → ∃ m', m' < m ∧ W (i + 1) m' H') ∧ ∀ x H', (Itl K a).yld i H x H' → g x (wipe σ vs) H' fun σ2 H2 => wipe σ2 vs = wipe σ vs ∧ tt σ2 H2 fun b H3 =>
        if b = true then te σ2 H3 fun y H4 => ∃ acc, H4 D = some (.lst acc) ∧ acc.length < sizeLine ∧ Nx (upd H4 D (.lst (acc ++ [y]))) else Nx H3) :=
  fun D hD => lc_list (Pv D) (h0 D hD) (hl D) (fun i x H hx p => hs D i x H hD hx p) (fun H p => hd D H hD p)
end MG

set_option Elab.async false
set_option linter.all false
set_option maxRecDepth 100000
namespace MG
open PySem PySem.Spec PyProof.Rows L2
def entSB (e : Ent) : Str × Body := (e.1, e.2.2)
/-! ### what steps may use -/
def Stp.named : Stp → List Str
  | .ask w => [w] | .odd w => [w]
  | _ => []
def namesB (ss : Body) : List Str := ss.flatMap Stp.named
def nexts (es : List Ent) (x : Str) : List Str := match bodyOf es x with
  | some b => namesB b.2
  | none => []
inductive Reach (es : List Ent) (ss : Body) : Str → Prop
  | base {x : Str} : x ∈ namesB ss → Reach es ss x
  | step {x y : Str} : Reach es ss y → x ∈ nexts es y → Reach es ss x
structure MayIs (es : List Ent) (ss : Body) (ys : List Str) : Prop where
  nd : ys.Nodup
  up : sortedS ys = true
  mem : ∀ x, x ∈ ys ↔ Reach es ss x
/-- all words of the steps and the book are among W -/
structure InW (W : List Str) (es : List Ent) (ss : Body) : Prop where
  st : ∀ x ∈ namesB ss, x ∈ W
  bk : ∀ e ∈ es, ∀ x ∈ namesB e.2.2, x ∈ W
theorem InW.nexts {W : List Str} {es : List Ent} {ss : Body} (h : InW W es ss) (y x : Str) (hx : x ∈ nexts es y) : x ∈ W := by
  unfold MG.nexts at hx
  cases e : bodyOf es y with
  | none => rw [e] at hx; exact absurd hx (by simp)
  | some b =>
    rw [e] at hx
    exact h.bk _ (bodyOf_some e) x hx
theorem InW.reach {W : List Str} {es : List Ent} {ss : Body} (h : InW W es ss) {x : Str} (r : Reach es ss x) : x ∈ W := by
  cases r with
  | base k => exact h.st _ k
  | step _ k => exact h.nexts _ _ k
/-! ### one more word, each once -/
/-! ### a dict's keys -/
section
variable {X : Cx}
/-! ### every second one -/
end
end MG

set_option Elab.async false
set_option linter.all false
set_option maxRecDepth 100000
namespace MG
open PySem PySem.Spec PyProof.Rows L2
/-! ### the fields of a runner, in the turn in which they are first stored -/
def flds (d : Addr) (z : Int) (ah : Addr) (st tk : Int) (sd en us bg : Addr) : List (Str × V) := [("bodies", .ref d), ("in_hand", .int z), ("heard", .ref ah), ("strength", .int st), ("taken", .int tk), ("said", .ref sd), ("ended", .ref en), ("uses", .ref us), ("begun", .ref bg)]
/-! ### a runner's data -/
inductive En where
  | no | deaf | spent | drop
  | lost (w : Str) | done (n : Int)
def En.vals : En → List V
  | .no => [] | .deaf => [.str "deaf"] | .spent => [.str "spent"] | .drop => [.str "dropped"] | .lost w => [.str "lost", .str w] | .done n => [.str "done", .int n]
structure Rn where
  hand : Int
  heard : List Int
  str : Int
  taken : Int
  said : List Int
  fin : En
  uses : List (Str × Option Body)
  begun : List Body
/-- a dict of bodies by their words, as the book has them -/
def DicAt (H : Hp) (d : Addr) (es : List Ent) : Prop := ∃ fs : List Ent, H d = some (.dK (dOf (fs.map entP))) ∧ fs.map entSB = es.map entSB ∧ ∀ e ∈ fs, BodyAt H e.2.1 e.2.2
theorem DicAt.same {H H' : Hp} {d : Addr} {es : List Ent} (h : DicAt H d es) (k : Same H H') : DicAt H' d es := let ⟨fs, a, b, c⟩ := h; ⟨fs, k _ _ a, b, fun e he => (c e he).same k⟩
/-- what was used, in the dict -/
def UseAt (H : Hp) (kv : Key × V) (u : Str × Option Body) : Prop := kv.1 = Sum.inr u.1 ∧ match u.2 with
  | none => kv.2 = .non
  | some ss => ∃ b, kv.2 = .ref b ∧ BodyAt H b ss
/-- two bases: b, in which the bodies stand that may be used; f, all that stays as it is -/
structure FB where
  b : Hp
  f : Hp
  le : Same b f
abbrev FB.one (H : Hp) : FB := ⟨H, H, Same.refl H⟩
/-- a runner at a: the base H0 stays as it is; all that the runner changes is new over it -/
structure RunAt (C : Addr) (H0 : FB) (H : Hp) (a dx d ah sd en us bg : Addr) (bs : List Addr) (kvs : List (Key × V)) (R : Rn) : Prop where
  same : Same H0.f H
  ob : H a = some (.ins C dx (flds d R.hand ah R.str R.taken sd en us bg))
  he : H ah = some (.lst (R.heard.map V.int))
  sa : H sd = some (.lst (R.said.map V.int))
  fi : H en = some (.tup R.fin.vals)
  du : H us = some (.dK kvs)
  uo : Paired (UseAt H0.b) kvs R.uses
  be : H bg = some (.lst (bs.map V.ref))
  bo : Paired (BodyAt H) bs R.begun
  nd : (ah :: sd :: bg :: bs).Nodup
  new : ∀ u ∈ a :: us :: ah :: sd :: bg :: bs, H0.f u = none
section
variable {C : Addr} {H0 : FB} {H : Hp} {a dx d ah sd en us bg : Addr} {bs : List Addr} {kvs : List (Key × V)} {R : Rn}
/-- bodies behind a write to something that is no tuple and none of them -/
theorem body_upd {H : Hp} {b m : Addr} {ss : Body} {o : HO} (h : BodyAt H b ss) (n : b ≠ m) (k : ∀ xs, H m ≠ some (.tup xs)) : BodyAt (upd H m o) b ss := by
  obtain ⟨vs, h1, h2⟩ := h
  refine ⟨vs, by rw [upd_ne n]; exact h1, L2.Paired.mapP h2 fun v s ⟨t, e, z⟩ => ⟨t, e, ?_⟩⟩
  rw [upd_ne (fun y => k _ (y ▸ z))]; exact z
theorem bodies_upd {H : Hp} {m : Addr} {o : HO} {bs : List Addr} {ss : List Body} (h : Paired (BodyAt H) bs ss) (n : m ∉ bs) (k : ∀ xs, H m ≠ some (.tup xs)) : Paired (BodyAt (upd H m o)) bs ss := by
  induction h with
  | nil => exact .nil
  | cons r t ih => exact .cons (body_upd r (fun e => n (e ▸ List.mem_cons_self ..)) k) (ih fun z => n (List.mem_cons_of_mem _ z))
theorem same_new {H0 : Hp} {m : Addr} {o : HO} (s : Same H0 H) (n : H0 m = none) : Same H0 (upd H m o) := fun b u e => by rw [upd_ne (ne_of_none e n)]; exact s b u e
theorem RunAt.list_not (h : RunAt C H0 H a dx d ah sd en us bg bs kvs R) {b : Addr} (hb : b ∈ bs) : ∃ xs, H b = some (.lst xs) := by
  obtain ⟨ss, _, vs, e, _⟩ := paired_mem h.bo hb
  exact ⟨vs, e⟩
/-- growth of the heap -/
theorem RunAt.grow {H' : Hp} (h : RunAt C H0 H a dx d ah sd en us bg bs kvs R) (k : Same H H') : RunAt C H0 H' a dx d ah sd en us bg bs kvs R :=
  ⟨h.same.trans k, k _ _ h.ob, k _ _ h.he, k _ _ h.sa, k _ _ h.fi, k _ _ h.du, h.uo, k _ _ h.be, L2.Paired.mapP h.bo fun _ _ z => z.same k, h.nd, h.new⟩
/-- a field of the object is stored -/
theorem RunAt.field {en' : Addr} {R' : Rn} (h : RunAt C H0 H a dx d ah sd en us bg bs kvs R) (hf : H en' = some (.tup R'.fin.vals)) (e1 : R'.heard = R.heard) (e2 : R'.said = R.said) (e3 : R'.uses = R.uses) (e4 : R'.begun = R.begun) :
    RunAt C H0 (upd H a (.ins C dx (flds d R'.hand ah R'.str R'.taken sd en' us bg))) a dx d ah sd en' us bg bs kvs R' := by
  have nA : ∀ {b : Addr} {o : HO}, H b = some o → (∀ C dx fs, o ≠ .ins C dx fs) → b ≠ a := fun {b o} e k z => by
    rw [z, h.ob] at e
    exact k _ _ _ (Option.some.inj e).symm
  have kt : ∀ xs, H a ≠ some (.tup xs) := fun xs z => by rw [h.ob] at z; cases z
  refine ⟨same_new h.same (h.new a (List.mem_cons_self ..)), upd_same, ?_, ?_, ?_, ?_, by rw [e3]; exact h.uo, ?_, ?_, h.nd, h.new⟩
  · rw [upd_ne (nA h.he (by intro _ _ _ z; cases z)), e1]; exact h.he
  · rw [upd_ne (nA h.sa (by intro _ _ _ z; cases z)), e2]; exact h.sa
  · rw [upd_ne (nA hf (by intro _ _ _ z; cases z))]; exact hf
  · rw [upd_ne (nA h.du (by intro _ _ _ z; cases z))]; exact h.du
  · rw [upd_ne (nA h.be (by intro _ _ _ z; cases z))]; exact h.be
  · rw [e4]
    refine bodies_upd h.bo (fun z => ?_) kt
    obtain ⟨xs, e⟩ := h.list_not z
    rw [h.ob] at e; cases e
/-- what is said -/
theorem RunAt.say (h : RunAt C H0 H a dx d ah sd en us bg bs kvs R) (z : Int) : RunAt C H0 (upd H sd (.lst (R.said.map V.int ++ [.int z]))) a dx d ah sd en us bg bs kvs { R with said := R.said ++ [z] } := by
  have n := h.nd
  simp only [List.nodup_cons, List.mem_cons, not_or] at n
  obtain ⟨⟨n1, n2, n3⟩, ⟨n4, n5⟩, n6, n7⟩ := n
  have nK : ∀ {b : Addr} {o : HO}, H b = some o → (∀ xs, o ≠ .lst xs) → b ≠ sd := fun {b o} e k z => by
    rw [z, h.sa] at e
    exact k _ (Option.some.inj e).symm
  refine ⟨same_new h.same (h.new sd (by simp)), ?_, ?_, ?_, ?_, ?_, h.uo, ?_, bodies_upd h.bo n5 (fun xs z => by rw [h.sa] at z; cases z), h.nd, h.new⟩
  · rw [upd_ne (nK h.ob (by intro _ z; cases z))]; exact h.ob
  · rw [upd_ne n1]; exact h.he
  · rw [upd_same, List.map_append]; rfl
  · rw [upd_ne (nK h.fi (by intro _ z; cases z))]; exact h.fi
  · rw [upd_ne (nK h.du (by intro _ z; cases z))]; exact h.du
  · rw [upd_ne (Ne.symm n4)]; exact h.be
/-- a heard number is taken -/
theorem RunAt.hear {xs : List Int} (h : RunAt C H0 H a dx d ah sd en us bg bs kvs R) : RunAt C H0 (upd H ah (.lst (xs.map V.int))) a dx d ah sd en us bg bs kvs { R with heard := xs } := by
  have n := h.nd
  simp only [List.nodup_cons, List.mem_cons, not_or] at n
  obtain ⟨⟨n1, n2, n3⟩, ⟨n4, n5⟩, n6, n7⟩ := n
  have nK : ∀ {b : Addr} {o : HO}, H b = some o → (∀ xs, o ≠ .lst xs) → b ≠ ah := fun {b o} e k z => by
    rw [z, h.he] at e
    exact k _ (Option.some.inj e).symm
  refine ⟨same_new h.same (h.new ah (by simp)), ?_, ?_, ?_, ?_, ?_, h.uo, ?_, bodies_upd h.bo n3 (fun xs z => by rw [h.he] at z; cases z), h.nd, h.new⟩
  · rw [upd_ne (nK h.ob (by intro _ z; cases z))]; exact h.ob
  · exact upd_same
  · rw [upd_ne (Ne.symm n1)]; exact h.sa
  · rw [upd_ne (nK h.fi (by intro _ z; cases z))]; exact h.fi
  · rw [upd_ne (nK h.du (by intro _ z; cases z))]; exact h.du
  · rw [upd_ne (Ne.symm n2)]; exact h.be
end
end MG

set_option Elab.async false
set_option linter.all false
set_option maxRecDepth 100000
namespace MG
open PySem PySem.Spec PyProof.Rows L2
section
variable {C : Addr} {H0 : FB} {H : Hp} {a dx d ah sd en us bg : Addr} {bs : List Addr} {kvs : List (Key × V)} {R : Rn}
theorem paired_snocL {α β : Type} {F : α → β → Prop} {x : α} : ∀ {l : List α} {m : List β}, Paired F (l ++ [x]) m → ∃ m' y, m = m' ++ [y] ∧ Paired F l m' ∧ F x y
  | [], _, .cons r t => by
    cases t
    exact ⟨[], _, rfl, .nil, r⟩
  | _ :: _, _, .cons r t => by
    obtain ⟨m', y, rfl, h1, h2⟩ := paired_snocL t
    exact ⟨_ :: m', y, rfl, .cons r h1, h2⟩
/-- the list of what is begun is written -/
theorem RunAt.setBg {bs' : List Addr} {B : List Body} (h : RunAt C H0 H a dx d ah sd en us bg bs kvs R) (hb : Paired (BodyAt H) bs' B) (nd : (ah :: sd :: bg :: bs').Nodup) (nw : ∀ u ∈ bs', H0.f u = none) :
    RunAt C H0 (upd H bg (.lst (bs'.map V.ref))) a dx d ah sd en us bg bs' kvs { R with begun := B } := by
  have n := nd
  simp only [List.nodup_cons, List.mem_cons, not_or] at n
  obtain ⟨⟨n1, n2, n3⟩, ⟨n4, n5⟩, n6, n7⟩ := n
  have nK : ∀ {b : Addr} {o : HO}, H b = some o → (∀ xs, o ≠ .lst xs) → b ≠ bg := fun {b o} e k z => by
    rw [z, h.be] at e
    exact k _ (Option.some.inj e).symm
  refine ⟨same_new h.same (h.new bg (by simp)), ?_, ?_, ?_, ?_, ?_, h.uo, upd_same, bodies_upd hb n6 (fun xs z => by rw [h.be] at z; cases z), nd, fun u hu => ?_⟩
  · rw [upd_ne (nK h.ob (by intro _ z; cases z))]; exact h.ob
  · rw [upd_ne n2]; exact h.he
  · rw [upd_ne n4]; exact h.sa
  · rw [upd_ne (nK h.fi (by intro _ z; cases z))]; exact h.fi
  · rw [upd_ne (nK h.du (by intro _ z; cases z))]; exact h.du
  · simp only [List.mem_cons] at hu
    rcases hu with e | e | e | e | e | e
    · exact h.new u (by simp [e])
    · exact h.new u (by simp [e])
    · exact h.new u (by simp [e])
    · exact h.new u (by simp [e])
    · exact h.new u (by simp [e])
    · exact nw u e
/-- a body is begun: l its copy -/
theorem RunAt.begin {l : Addr} {ws : List V} {ss : Body} (h : RunAt C H0 H a dx d ah sd en us bg bs kvs R) (hl : H l = none) (hw : Paired (StepAt H) ws ss) :
    RunAt C H0 (upd (upd H l (.lst ws)) bg (.lst ((bs ++ [l]).map V.ref))) a dx d ah sd en us bg (bs ++ [l]) kvs { R with begun := R.begun ++ [ss] } := by
  have g := h.grow (same_upd (o := .lst ws) hl)
  have hlb : BodyAt (upd H l (.lst ws)) l ss := ⟨ws, upd_same, L2.Paired.mapP hw fun _ _ z => z.same (same_upd hl)⟩
  refine g.setBg (paired_snoc hlb g.bo) ?_ fun u hu => ?_
  · have n := h.nd
    have e : ah :: sd :: bg :: (bs ++ [l]) = (ah :: sd :: bg :: bs) ++ [l] := rfl
    rw [e]
    refine List.nodup_append.mpr ⟨n, by simp, fun u hu v hv z => ?_⟩
    rw [List.mem_singleton.mp hv] at z
    simp only [List.mem_cons] at hu
    rcases hu with e | e | e | e
    · rw [← z, e, h.he] at hl; cases hl
    · rw [← z, e, h.sa] at hl; cases hl
    · rw [← z, e, h.be] at hl; cases hl
    · obtain ⟨xs, e'⟩ := h.list_not e
      rw [← z, e'] at hl; cases hl
  · rcases List.mem_append.mp hu with hu | hu
    · exact h.new u (by simp [hu])
    · rw [List.mem_singleton.mp hu]; exact h.same.free hl
/-- steps of the last one begun are taken -/
theorem RunAt.last {bs' : List Addr} {b : Addr} {B : List Body} {x ss : Body} {ws : List V} (h : RunAt C H0 H a dx d ah sd en us bg bs kvs R) (e : bs = bs' ++ [b]) (eB : R.begun = B ++ [x]) (hw : Paired (StepAt H) ws ss) :
    RunAt C H0 (upd H b (.lst ws)) a dx d ah sd en us bg bs kvs { R with begun := B ++ [ss] } := by
  have hbm : b ∈ bs := by rw [e]; simp
  obtain ⟨xs, hbl⟩ := h.list_not hbm
  have kt : ∀ ys, H b ≠ some (.tup ys) := fun ys z => by rw [hbl] at z; cases z
  have nK : ∀ {u : Addr} {o : HO}, H u = some o → (∀ xs, o ≠ .lst xs) → u ≠ b := fun {u o} e k z => by
    rw [z, hbl] at e
    exact k _ (Option.some.inj e).symm
  have n := h.nd
  simp only [List.nodup_cons, List.mem_cons, not_or] at n
  obtain ⟨⟨n1, n2, n3⟩, ⟨n4, n5⟩, n6, n7⟩ := n
  have hb := h.bo
  rw [e, eB] at hb
  obtain ⟨m', y, e2, h1, _⟩ := paired_snocL hb
  have e3 : B = m' := List.append_inj_left' e2 rfl
  subst e3
  have nb : b ∉ bs' := by
    rw [e] at n7
    have := (List.nodup_append.mp n7).2.2
    exact fun z => this b z b (List.mem_singleton.mpr rfl) rfl
  refine ⟨same_new h.same (h.new b (by simp [hbm])), ?_, ?_, ?_, ?_, ?_, h.uo, ?_, ?_, h.nd, h.new⟩
  · rw [upd_ne (nK h.ob (by intro _ z; cases z))]; exact h.ob
  · rw [upd_ne (fun z : ah = b => n3 (by rw [z]; exact hbm))]; exact h.he
  · rw [upd_ne (fun z : sd = b => n5 (by rw [z]; exact hbm))]; exact h.sa
  · rw [upd_ne (nK h.fi (by intro _ z; cases z))]; exact h.fi
  · rw [upd_ne (nK h.du (by intro _ z; cases z))]; exact h.du
  · rw [upd_ne (fun z : bg = b => n6 (by rw [z]; exact hbm))]; exact h.be
  · rw [e]
    refine paired_snoc ⟨ws, upd_same, L2.Paired.mapP hw fun v s ⟨t, e, z⟩ => ⟨t, e, ?_⟩⟩ (bodies_upd h1 nb kt)
    rw [upd_ne (fun y => kt _ (y ▸ z))]; exact z
end
/-! ### a def of a class, by its name -/
structure MCal (P : Program) (w : World) (K : PySem.W.Frag) (mg : Str → Option Value) (base : Heap) (C : Addr) (m : Str) (k : Nat) (ps : List Str) (sp : Sp) : Prop where
  ex : ∃ f fd, Meth K C m f ∧ FnOk P w K mg base CX0 k f fd ps sp ∧ Binds K fd ps []
section
variable {X : Cx} {C : Addr} {m : Str} {k : Nat} {ps : List Str} {sp : Sp} {apos pos : Pos} {o e : Expr} {es : List Expr} {t : TA} {ta : TE}
end
end MG

set_option Elab.async false
set_option linter.all false
set_option maxRecDepth 100000
namespace MG
open PySem PySem.Spec PyProof.Rows L2
/-! ### displays within displays: what is spliced, without looking into the parts -/
theorem star_tup (es : List Expr) (k : Nat) (p : Pos) (rest : List Expr) (env : Env) : starEach (.Tuple es k p :: rest) env = (false, eval (.Tuple es k p) env) :: starEach rest env := rfl
theorem star_lst (es : List Expr) (p : Pos) (rest : List Expr) (env : Env) : starEach (.List es p :: rest) env = (false, eval (.List es p) env) :: starEach rest env := rfl
section
variable {X : Cx}
theorem pa_consT {es rest : List Expr} {k : Nat} {p : Pos} {te : TE} {t : TA} (ha : PE X (.Tuple es k p) te) (hr : PA X rest t) : PA X (.Tuple es k p :: rest) (tCons te t) := pa_cons ha hr (star_tup ..)
theorem pa_consL {es rest : List Expr} {p : Pos} {te : TE} {t : TA} (ha : PE X (.List es p) te) (hr : PA X rest t) : PA X (.List es p :: rest) (tCons te t) := pa_cons ha hr (star_lst ..)
end
end MG

set_option Elab.async false
set_option linter.all false
set_option maxRecDepth 100000
namespace MG
open PySem PySem.Spec PyProof.Rows L2
def top (i : Nat) : Stmt := PySem.Challenge.pw_midstride_k02_whole_read.main.body.getD i (.Pass ⟨0, 0, 0, 0⟩)
abbrev s_is_number : Stmt := top 11
abbrev N_is_number : List Str := ["thing"]
theorem sc_is_number : FnScope N_is_number ["thing"] (defScope s_is_number) := ⟨rfl, rfl, rfl, by decide +kernel, rfl, by decide +kernel, by decide +kernel⟩
abbrev s_is_word : Stmt := top 12
abbrev N_is_word : List Str := ["thing"]
theorem sc_is_word : FnScope N_is_word ["thing"] (defScope s_is_word) := ⟨rfl, rfl, rfl, by decide +kernel, rfl, by decide +kernel, by decide +kernel⟩
abbrev s_is_step : Stmt := top 13
abbrev N_is_step : List Str := ["thing", "name", "part"]
theorem sc_is_step : FnScope N_is_step ["thing"] (defScope s_is_step) := ⟨rfl, rfl, rfl, by decide +kernel, rfl, by decide +kernel, by decide +kernel⟩
abbrev s_is_steps : Stmt := top 14
abbrev N_is_steps : List Str := ["thing"]
theorem sc_is_steps : FnScope N_is_steps ["thing"] (defScope s_is_steps) := ⟨rfl, rfl, rfl, by decide +kernel, rfl, by decide +kernel, by decide +kernel⟩
abbrev s_is_body : Stmt := top 15
abbrev N_is_body : List Str := ["thing"]
theorem sc_is_body : FnScope N_is_body ["thing"] (defScope s_is_body) := ⟨rfl, rfl, rfl, by decide +kernel, rfl, by decide +kernel, by decide +kernel⟩
abbrev s_is_book : Stmt := top 16
abbrev N_is_book : List Str := ["thing", "words", "word", "body"]
theorem sc_is_book : FnScope N_is_book ["thing"] (defScope s_is_book) := ⟨rfl, rfl, rfl, by decide +kernel, rfl, by decide +kernel, by decide +kernel⟩
abbrev s_has_word : Stmt := top 17
abbrev N_has_word : List Str := ["thing"]
theorem sc_has_word : FnScope N_has_word ["thing"] (defScope s_has_word) := ⟨rfl, rfl, rfl, by decide +kernel, rfl, by decide +kernel, by decide +kernel⟩
abbrev s_has_body : Stmt := top 18
abbrev N_has_body : List Str := ["thing"]
theorem sc_has_body : FnScope N_has_body ["thing"] (defScope s_has_body) := ⟨rfl, rfl, rfl, by decide +kernel, rfl, by decide +kernel, by decide +kernel⟩
abbrev s_need_book : Stmt := top 19
abbrev N_need_book : List Str := ["book"]
theorem sc_need_book : FnScope N_need_book ["book"] (defScope s_need_book) := ⟨rfl, rfl, rfl, by decide +kernel, rfl, by decide +kernel, by decide +kernel⟩
abbrev s_written : Stmt := top 22
abbrev N_written : List Str := ["book"]
theorem sc_written : FnScope N_written ["book"] (defScope s_written) := ⟨rfl, rfl, rfl, by decide +kernel, rfl, by decide +kernel, by decide +kernel⟩
abbrev s_written_row : Stmt := top 23
abbrev N_written_row : List Str := ["word", "body", "steps"]
theorem sc_written_row : FnScope N_written_row ["word", "body"] (defScope s_written_row) := ⟨rfl, rfl, rfl, by decide +kernel, rfl, by decide +kernel, by decide +kernel⟩
abbrev s_written_step : Stmt := top 24
abbrev N_written_step : List Str := ["step"]
theorem sc_written_step : FnScope N_written_step ["step"] (defScope s_written_step) := ⟨rfl, rfl, rfl, by decide +kernel, rfl, by decide +kernel, by decide +kernel⟩
abbrev s_read : Stmt := top 25
abbrev N_read : List Str := ["text", "bodies", "row", "word", "body"]
theorem sc_read : FnScope N_read ["text"] (defScope s_read) := ⟨rfl, rfl, rfl, by decide +kernel, rfl, by decide +kernel, by decide +kernel⟩
abbrev s_tells_nothing : Stmt := top 26
abbrev N_tells_nothing : List Str := ["row"]
theorem sc_tells_nothing : FnScope N_tells_nothing ["row"] (defScope s_tells_nothing) := ⟨rfl, rfl, rfl, by decide +kernel, rfl, by decide +kernel, by decide +kernel⟩
abbrev s_read_row : Stmt := top 27
abbrev N_read_row : List Str := ["row", "parts", "word"]
theorem sc_read_row : FnScope N_read_row ["row"] (defScope s_read_row) := ⟨rfl, rfl, rfl, by decide +kernel, rfl, by decide +kernel, by decide +kernel⟩
abbrev s_read_body : Stmt := top 28
abbrev N_read_body : List Str := ["text", "body", "step"]
theorem sc_read_body : FnScope N_read_body ["text"] (defScope s_read_body) := ⟨rfl, rfl, rfl, by decide +kernel, rfl, by decide +kernel, by decide +kernel⟩
abbrev s_read_step : Stmt := top 29
abbrev N_read_step : List Str := ["text", "parts"]
theorem sc_read_step : FnScope N_read_step ["text"] (defScope s_read_step) := ⟨rfl, rfl, rfl, by decide +kernel, rfl, by decide +kernel, by decide +kernel⟩
abbrev s_read_number : Stmt := top 30
abbrev N_read_number : List Str := ["text", "figures", "number"]
theorem sc_read_number : FnScope N_read_number ["text"] (defScope s_read_number) := ⟨rfl, rfl, rfl, by decide +kernel, rfl, by decide +kernel, by decide +kernel⟩
abbrev s_law_cell_at : Stmt := top 32
abbrev N_law_cell_at : List Str := ["_law_script", "_law_k"]
theorem sc_law_cell_at : FnScope N_law_cell_at ["_law_script", "_law_k"] (defScope s_law_cell_at) := ⟨rfl, rfl, rfl, by decide +kernel, rfl, by decide +kernel, by decide +kernel⟩
abbrev s_law_draw : Stmt := top 33
abbrev N_law_draw : List Str := ["_law_cell", "_law_k", "_law_most", "_law_primes"]
theorem sc_law_draw : FnScope N_law_draw ["_law_cell", "_law_k", "_law_most"] (defScope s_law_draw) := ⟨rfl, rfl, rfl, by decide +kernel, rfl, by decide +kernel, by decide +kernel⟩
abbrev s_law_number : Stmt := top 34
abbrev N_law_number : List Str := ["_law_cell", "_law_k", "_law_limit", "_law_d"]
theorem sc_law_number : FnScope N_law_number ["_law_cell", "_law_k", "_law_limit"] (defScope s_law_number) := ⟨rfl, rfl, rfl, by decide +kernel, rfl, by decide +kernel, by decide +kernel⟩
abbrev s_law_names : Stmt := top 35
abbrev N_law_names : List Str := []
theorem sc_law_names : FnScope N_law_names [] (defScope s_law_names) := ⟨rfl, rfl, rfl, by decide +kernel, rfl, by decide +kernel, by decide +kernel⟩
abbrev s_law_step : Stmt := top 36
abbrev N_law_step : List Str := ["_law_cell", "_law_at", "_law_kind", "_law_more", "_law_amount"]
theorem sc_law_step : FnScope N_law_step ["_law_cell", "_law_at"] (defScope s_law_step) := ⟨rfl, rfl, rfl, by decide +kernel, rfl, by decide +kernel, by decide +kernel⟩
abbrev s_law_body : Stmt := top 37
abbrev N_law_body : List Str := ["_law_cell", "_law_at", "_law_size", "_law_k"]
theorem sc_law_body : FnScope N_law_body ["_law_cell", "_law_at"] (defScope s_law_body) := ⟨rfl, rfl, rfl, by decide +kernel, rfl, by decide +kernel, by decide +kernel⟩
abbrev s_law_book : Stmt := top 38
abbrev N_law_book : List Str := ["_law_script", "_law_by", "_law_found", "_law_k", "_law_word", "_law_cell"]
theorem sc_law_book : FnScope N_law_book ["_law_script", "_law_by"] (defScope s_law_book) := ⟨rfl, rfl, rfl, by decide +kernel, rfl, by decide +kernel, by decide +kernel⟩
abbrev s_law_step_text : Stmt := top 41
abbrev N_law_step_text : List Str := ["_law_step_here"]
theorem sc_law_step_text : FnScope N_law_step_text ["_law_step_here"] (defScope s_law_step_text) := ⟨rfl, rfl, rfl, by decide +kernel, rfl, by decide +kernel, by decide +kernel⟩
abbrev s_law_row : Stmt := top 42
abbrev N_law_row : List Str := ["_law_word", "_law_body_here", "_law_wide", "_law_gap", "_law_steps", "_law_step_here"]
theorem sc_law_row : FnScope N_law_row ["_law_word", "_law_body_here", "_law_wide"] (defScope s_law_row) := ⟨rfl, rfl, rfl, by decide +kernel, rfl, by decide +kernel, by decide +kernel⟩
abbrev s_law_alike : Stmt := top 43
abbrev N_law_alike : List Str := ["_law_found", "_law_due", "_law_mine", "_law_theirs"]
theorem sc_law_alike : FnScope N_law_alike ["_law_found", "_law_due"] (defScope s_law_alike) := ⟨rfl, rfl, rfl, by decide +kernel, rfl, by decide +kernel, by decide +kernel⟩
abbrev s_law_text : Stmt := top 44
abbrev N_law_text : List Str := ["_law_book_here", "_law_script", "_law_by", "_law_rows", "_law_at", "_law_word", "_law_body_here", "_law_cell", "_law_row_here", "_law_place"]
theorem sc_law_text : FnScope N_law_text ["_law_book_here", "_law_script", "_law_by"] (defScope s_law_text) := ⟨rfl, rfl, rfl, by decide +kernel, rfl, by decide +kernel, by decide +kernel⟩
abbrev s_law : Stmt := top 45
abbrev N_law : List Str := ["_law_script", "_law_by", "_law_book_here", "_law_text_here", "_law_again", "_law_found", "_law_at", "_law_word", "_law_body_here"]
theorem sc_law : FnScope N_law ["_law_script"] (defScope s_law) := ⟨rfl, rfl, rfl, by decide +kernel, rfl, by decide +kernel, by decide +kernel⟩

end MG

set_option Elab.async false
set_option linter.all false
set_option maxRecDepth 100000
namespace MG
open PySem PySem.Spec PyProof.Rows L2
section
variable {P : Program} {w : World} {K : PySem.W.Frag} {mg : Str → Option Value} {base : Heap}
/-! ### is_number: of a whole number -/
def spNumber : Sp := fun vs H Q _ => ∃ i, vs = [.int i] ∧ Q (.bl true) H
theorem ok_is_number {f : Addr} {fd : FuncData} (F : Fun K "is_number" "is_number" s_is_number f fd) (b : ∀ x ∈ blts, mg x = none) : FnOk P w K mg base CX0 5 f fd ["thing"] spNumber := by
  refine F.ok sc_is_number (fun vs H Q E h => ?_) (fun cdv A outer s H vs Q E hr h => ?_)
  · obtain ⟨i, rfl, _⟩ := h; rfl
  · obtain ⟨i, rfl, q⟩ := h
    refine ⟨_, (pss_one (ps_ret (pe_and (pe_callB call_isi (by rfl) (b "isinstance" (by decide +kernel)) (by decide +kernel) (pa_cons (pv 0) (pa_cons (pe_bltn (v := .ty "int") (by rfl) (b "int" (by decide +kernel)) (by decide +kernel) rfl) pa_nil))) (pe_one (pe_not (pe_callB call_isi (by rfl) (b "isinstance" (by decide +kernel)) (by decide +kernel) (pa_cons (pv 0) (pa_cons (pe_bltn (v := .ty "bool") (by rfl) (b "bool" (by decide +kernel)) (by decide +kernel) rfl) pa_nil)))))))), ?_⟩
    refine ⟨_, rfl, _, _, _, _, rfl, TyOf.int _, rfl, _, rfl, iteT ?_⟩
    exact ⟨_, rfl, _, _, _, _, rfl, TyOf.int _, rfl, _, rfl, q⟩
end
end MG

set_option Elab.async false
set_option linter.all false
set_option maxRecDepth 100000
namespace MG
open PySem PySem.Spec PyProof.Rows L2
section
variable {P : Program} {w : World} {K : PySem.W.Frag} {mg : Str → Option Value} {base : Heap}
/-! ### is_word: of a word -/
def spWord (Pt : Addr) : Sp := fun vs H Q _ => ∃ x, vs = [.str x] ∧ WordOk x ∧ H Pt = some (tabH Pt) ∧ Q (.bl true) H
theorem ok_is_word {f c Pt bm : Addr} {fd : FuncData} {ob : Obj} {t8 : Tok} (F : FunG K "is_word" "is_word" s_is_word f fd c Pt) (b : ∀ x ∈ blts, mg x = none) (hB : BMod base mainGlobals mg bm ob) (g_LONGEST_WORD : mg "LONGEST_WORD" = some (.int 8 t8)) :
    FnOk P w K mg base CX0 10 f fd ["thing"] (spWord Pt) := by
  refine F.ok sc_is_word (fun vs H Q E h => ?_) (fun A outer s H vs Q E hr h => ?_)
  · obtain ⟨i, rfl, _⟩ := h; rfl
  · obtain ⟨x, rfl, ok, hP, q⟩ := h
    obtain ⟨l1, l2, low⟩ := id ok
    have hsz : x.length ≤ sizeLine := by rw [sizeLine_eq]; omega
    refine ⟨_, (pss_cons (ps_if (PW.pt (pw_or (pt_not (pt_val (pe_callB call_isi (by rfl) (b "isinstance" (by decide +kernel)) (by decide +kernel) (pa_cons (pv 0) (pa_cons (pe_bltn (v := .ty "str") (by rfl) (b "str" (by decide +kernel)) (by decide +kernel) rfl) pa_nil))))) (pw_or1 (pt_not (pt_chain op_le op_le pe_int (pe_callB call_len_str (by rfl) (b "len" (by decide +kernel)) (by decide +kernel) (pa_cons (pv 0) pa_nil)) (pe_glob (v := .int 8) (by rfl) g_LONGEST_WORD ⟨_, rfl⟩)))))) (pss_one (ps_ret pe_bl)) pss_nil) (pss_one (ps_ret (pe_allG (N := ["sign"]) rfl hr (by rfl) (b "all" (by decide +kernel)) rfl F.hd hB ⟨rfl, rfl, by decide +kernel, by decide +kernel, by decide +kernel, by decide +kernel⟩ (pi_str (pv 0)) (fun _ _ _ _ _ _ => (pg_name (i := 0) (show (["sign"] : List Str).Nodup from by decide +kernel) rfl (by first | exact Or.inl rfl | exact Or.inr rfl))) (fun _ _ _ _ _ _ hr => (pe_chain op_le_str op_le_str pe_str (pv 0) pe_str)))))), ?_⟩
    refine ⟨_, rfl, _, _, _, _, rfl, TyOf.str _, rfl, _, rfl, iteF ?_⟩
    refine ⟨_, rfl, _, rfl, hsz, ?_⟩
    have d1 : decide ((1 : Int) ≤ (x.length : Int)) = true := decide_eq_true (by omega)
    have d2 : decide ((x.length : Int) ≤ 8) = true := decide_eq_true (by omega)
    refine ⟨_, _, rfl, rfl, _, rfl, ?_⟩
    rw [d1]
    refine iteT ⟨_, _, rfl, rfl, _, rfl, ?_⟩
    rw [d2]
    refine iteF ⟨_, rfl, _, rfl, hP, all_by (fun _ H' => H' = H) x.cps.size rfl (fun i H' hi e => ⟨hi, ?_⟩) (fun H' e => ⟨Nat.le_refl _, by rw [e]; exact q⟩)⟩
    subst e
    rintro y H2 ⟨rfl, c, hc, rfl⟩
    have hl : isLow c = true := List.all_eq_true.mp low c (by rw [← Array.getElem?_toList] at hc; exact List.mem_of_getElem? hc)
    simp only [isLow, Bool.and_eq_true, decide_eq_true_eq] at hl
    have e1 : (!decide ((⟨#[c]⟩ : Str).cps.toList < ("a" : Str).cps.toList)) = true := by
      show (!decide ([c] < [97])) = true
      simp only [Bool.not_eq_true', decide_eq_false_iff_not]
      intro z
      have z : [c] < [97] := z
      simp [List.cons_lt_cons_iff] at z
      omega
    have e2 : (!decide (("z" : Str).cps.toList < (⟨#[c]⟩ : Str).cps.toList)) = true := by
      show (!decide ([122] < [c])) = true
      simp only [Bool.not_eq_true', decide_eq_false_iff_not]
      intro z
      have z : [122] < [c] := z
      simp [List.cons_lt_cons_iff] at z
      omega
    refine ⟨_, rfl, _, _, rfl, rfl, _, rfl, ?_⟩
    rw [e1]
    refine iteT ⟨_, _, rfl, rfl, _, rfl, ?_⟩
    rw [e2]
    exact iteT rfl
end
end MG

set_option Elab.async false
set_option linter.all false
set_option maxRecDepth 100000
namespace MG
open PySem PySem.Spec PyProof.Rows L2
section
variable {P : Program} {w : World} {K : PySem.W.Frag} {mg : Str → Option Value} {base : Heap}
/-! ### is_step: of a step -/
def spStep (Pw : Addr) : Sp := fun vs H Q _ => ∃ v st, vs = [v] ∧ StepAt H v st ∧ st.ok ∧ H Pw = some (tabH Pw) ∧ ∀ H', Same H H' → Q (.bl true) H'
abbrev bareL : List V := [.str "say", .str "hear", .str "end"]
abbrev numL : List V := [.str "plus", .str "times", .str "turn"]
abbrev wrdL : List V := [.str "ask", .str "odd"]
theorem ok_is_step {f a_BARE_STEPS a_NUMBER_STEPS a_WORD_STEPS Pw : Addr} {fd : FuncData} {t99 : Tok} (F : Fun K "is_step" "is_step" s_is_step f fd) (b : ∀ x ∈ blts, mg x = none)
    (g_BARE_STEPS : mg "BARE_STEPS" = some (.ref a_BARE_STEPS)) (g_NUMBER_STEPS : mg "NUMBER_STEPS" = some (.ref a_NUMBER_STEPS)) (g_WORD_STEPS : mg "WORD_STEPS" = some (.ref a_WORD_STEPS)) (g_LARGEST_PART : mg "LARGEST_PART" = some (.int 99 t99))
    (qb : ∀ H, SqT K H a_BARE_STEPS bareL) (qn : ∀ H, SqT K H a_NUMBER_STEPS numL) (qw : ∀ H, SqT K H a_WORD_STEPS wrdL)
    (c_is_number : Cal P w K mg base "is_number" 5 ["thing"] spNumber) (c_is_word : Cal P w K mg base "is_word" 10 ["thing"] (spWord Pw)) :
    FnOk P w K mg base CX0 20 f fd ["thing"] (spStep Pw) := by
  refine F.ok sc_is_step (fun vs H Q E h => ?_) (fun cdv A outer s H vs Q E hr h => ?_)
  · obtain ⟨v, st, rfl, _⟩ := h; rfl
  · obtain ⟨v, st, rfl, ⟨t, rfl, ht⟩, ok, hP, q⟩ := h
    refine ⟨_, (pss_cons (ps_if (PW.pt (pw_or (pt_not (pt_val (pe_callB call_isi (by rfl) (b "isinstance" (by decide +kernel)) (by decide +kernel) (pa_cons (pv 0) (pa_cons (pe_bltn (v := .ty "tuple") (by rfl) (b "tuple" (by decide +kernel)) (by decide +kernel) rfl) pa_nil))))) (pw_or (pt_cmpR op_notIn_seq (pe_callB call_len_seq (by rfl) (b "len" (by decide +kernel)) (by decide +kernel) (pa_cons (pv 0) pa_nil)) (pe_tup (pa_cons pe_int (pa_cons pe_int pa_nil))) (by rfl)) (pw_or1 (pt_not (pt_val (pe_callB call_isi (by rfl) (b "isinstance" (by decide +kernel)) (by decide +kernel) (pa_cons (pe_ix ix_tup (pv 0) pe_int (fun _ _ => rfl)) (pa_cons (pe_bltn (v := .ty "str") (by rfl) (b "str" (by decide +kernel)) (by decide +kernel) rfl) pa_nil))))))))) (pss_one (ps_ret pe_bl)) pss_nil) (pss_cons (ps_if (pt_cmpR op_eq (pe_callB call_len_seq (by rfl) (b "len" (by decide +kernel)) (by decide +kernel) (pa_cons (pv 0) pa_nil)) pe_int (nomark _)) (pss_one (ps_ret (pe_cmpR op_in_seq (pe_ix ix_tup (pv 0) pe_int (fun _ _ => rfl)) (pe_glob (v := .ref a_BARE_STEPS) (by rfl) g_BARE_STEPS rfl) (by rfl)))) pss_nil) (pss_cons (ps_asg (pv 0) (pg_tup (by rfl) (pgs_cons (pg_name (i := 1) sc_is_step.nd rfl (by first | exact Or.inl rfl | exact Or.inr rfl)) (pgs_cons (pg_name (i := 2) sc_is_step.nd rfl (by first | exact Or.inl rfl | exact Or.inr rfl)) pgs_nil)))) (pss_cons (ps_if (pt_cmpR op_in_seq (pv 1) (pe_glob (v := .ref a_NUMBER_STEPS) (by rfl) g_NUMBER_STEPS rfl) (by rfl)) (pss_one (ps_ret (pe_and (pe_cal c_is_number (hr.mono (by decide)) (by rfl) (pa_cons (pv 2) pa_nil)) (pe_one (pe_chain op_le op_le (pe_un un_neg (pe_glob (v := .int 99) (by rfl) g_LARGEST_PART ⟨_, rfl⟩)) (pv 2) (pe_glob (v := .int 99) (by rfl) g_LARGEST_PART ⟨_, rfl⟩)))))) pss_nil) (pss_one (ps_ret (pe_and (pe_cmpR op_in_seq (pv 1) (pe_glob (v := .ref a_WORD_STEPS) (by rfl) g_WORD_STEPS rfl) (by rfl)) (pe_one (pe_cal c_is_word (hr.mono (by decide)) (by rfl) (pa_cons (pv 2) pa_nil)))))))))), ?_⟩
    -- isinstance(thing, tuple)
    refine ⟨_, rfl, _, _, _, _, rfl, TyOf.tup ht, rfl, _, rfl, iteF ?_⟩
    -- len(thing) not in (1, 2)
    refine ⟨_, rfl, _, _, rfl, .inr (SqT.of ht), ?_⟩
    refine ⟨by show 2 ≤ sizeLine; decide, fun p hp => ?_⟩
    have s1 : Same H (upd H p (.tup [.int 1, .int 2])) := same_upd hp
    have ht1 := s1 t _ ht
    have hlen : st.vals.length = 1 ∨ st.vals.length = 2 := by cases st <;> simp [Stp.vals]
    refine ⟨p, _, rfl, .inr (SqT.of upd_same), rfl, rfl, _, rfl, ?_⟩
    have e0 : (!inV (V.int (st.vals.length : Nat)) [V.int 1, V.int 2]) = false := by
      rcases hlen with e | e <;> rw [e] <;> decide
    refine (show (if (if true = true then !inV (V.int (st.vals.length : Nat)) [V.int 1, V.int 2] else _) = true then _ else _) from ?_)
    rw [if_pos rfl, e0]
    refine iteF ?_
    have hc : (∃ n, st.vals = [.str n] ∧ inV (.str n) bareL = true) ∨ (∃ n i, st.vals = [.str n, .int i] ∧ inV (.str n) numL = true ∧ -99 ≤ i ∧ i ≤ 99) ∨ (∃ n x, st.vals = [.str n, .str x] ∧ inV (.str n) numL = false ∧ inV (.str n) wrdL = true ∧ WordOk x) := by
      cases st with
      | say => exact .inl ⟨_, rfl, by decide +kernel⟩
      | hear => exact .inl ⟨_, rfl, by decide +kernel⟩
      | fin => exact .inl ⟨_, rfl, by decide +kernel⟩
      | plus n => exact .inr (.inl ⟨_, _, rfl, by decide +kernel, ok.1, ok.2⟩)
      | times n => exact .inr (.inl ⟨_, _, rfl, by decide +kernel, ok.1, ok.2⟩)
      | turn n => exact .inr (.inl ⟨_, _, rfl, by decide +kernel, ok.1, ok.2⟩)
      | ask x => exact .inr (.inr ⟨_, _, rfl, by decide +kernel, by decide +kernel, ok⟩)
      | odd x => exact .inr (.inr ⟨_, _, rfl, by decide +kernel, by decide +kernel, ok⟩)
    generalize st.vals = vl at ht ht1 hc
    -- isinstance(thing[0], str)
    have hd0 : ∃ n r, vl = .str n :: r := by
      rcases hc with ⟨n, e, _⟩ | ⟨n, i, e, _⟩ | ⟨n, x, e, _⟩
      · exact ⟨n, _, e⟩
      · exact ⟨n, _, e⟩
      · exact ⟨n, _, e⟩
    obtain ⟨n0, r0, e00⟩ := hd0
    have at0 : atI vl 0 = some (V.str n0) := by rw [e00]; exact at_of (j := 0) rfl rfl
    refine ⟨_, rfl, t, _, _, _, rfl, rfl, SqT.of ht1, at0, _, _, _, _, rfl, TyOf.str _, rfl, _, rfl, iteF ?_⟩
    -- len(thing) == 1
    refine ⟨_, rfl, _, _, rfl, .inr (SqT.of ht1), rfl, _, rfl, ?_⟩
    rcases hc with ⟨n, e, h1⟩ | ⟨n, i, e, h1, h2, h3⟩ | ⟨n, x, e, h1, h2, h3⟩
    · subst e
      refine iteT ⟨_, rfl, t, _, _, _, rfl, rfl, SqT.of ht1, rfl, a_BARE_STEPS, _, rfl, .inr (qb _), rfl, rfl, ?_⟩
      show Q (.bl (inV (.str n) bareL)) _
      rw [h1]; exact q _ s1
    · subst e
      refine iteF ⟨_, rfl, t, _, rfl, SqT.of ht1, rfl, _, _, rfl, _, _, rfl, rfl, ?_⟩
      refine ⟨_, rfl, a_NUMBER_STEPS, _, rfl, .inr (qn _), rfl, rfl, _, rfl, ?_⟩
      refine (show (if inV (.str n) numL = true then _ else _) from ?_)
      rw [h1]
      refine iteT ⟨_, rfl, _, rfl, _, rfl, iteT ?_⟩
      have d1 : decide ((-99 : Int) ≤ i) = true := decide_eq_true h2
      have d2 : decide (i ≤ 99) = true := decide_eq_true h3
      refine ⟨_, rfl, _, rfl, _, _, rfl, rfl, _, rfl, ?_⟩
      rw [d1]
      refine iteT ⟨_, _, rfl, rfl, ?_⟩
      show Q (.bl (decide (i ≤ 99))) _
      rw [d2]; exact q _ s1
    · subst e
      refine iteF ⟨_, rfl, t, _, rfl, SqT.of ht1, rfl, _, _, rfl, _, _, rfl, rfl, ?_⟩
      refine ⟨_, rfl, a_NUMBER_STEPS, _, rfl, .inr (qn _), rfl, rfl, _, rfl, ?_⟩
      refine (show (if inV (.str n) numL = true then _ else _) from ?_)
      rw [h1]
      refine iteF ⟨_, rfl, a_WORD_STEPS, _, rfl, .inr (qw _), rfl, rfl, _, rfl, ?_⟩
      refine (show (if inV (.str n) wrdL = true then _ else _) from ?_)
      rw [h2]
      exact iteT ⟨_, rfl, x, rfl, h3, s1 _ _ hP, q _ s1⟩
end
end MG

set_option Elab.async false
set_option linter.all false
set_option maxRecDepth 100000
namespace MG
open PySem PySem.Spec PyProof.Rows L2
section
variable {P : Program} {w : World} {K : PySem.W.Frag} {mg : Str → Option Value} {base : Heap}
/-! ### is_steps, is_body -/
def spSteps (Pw Pb : Addr) : Sp := fun vs H Q _ => ∃ b ss, vs = [.ref b] ∧ BodyAt H b ss ∧ (∀ s ∈ ss, s.ok) ∧ H Pw = some (tabH Pw) ∧ H Pb = some (tabH Pb) ∧ ∀ H', Same H H' → Q (.bl true) H'
theorem ok_is_steps {f c Pw Pb bm : Addr} {fd : FuncData} {ob : Obj} (F : FunG K "is_steps" "is_steps" s_is_steps f fd c Pb) (b : ∀ x ∈ blts, mg x = none) (hB : BMod base mainGlobals mg bm ob)
    (c_is_step : Cal P w K mg base "is_step" 20 ["thing"] (spStep Pw)) : FnOk P w K mg base CX0 25 f fd ["thing"] (spSteps Pw Pb) := by
  refine F.ok sc_is_steps (fun vs H Q E h => ?_) (fun A outer s H vs Q E hr h => ?_)
  · obtain ⟨v, st, rfl, _⟩ := h; rfl
  · obtain ⟨l, ss, rfl, ⟨us, hl, hv⟩, ok2, hw, hp, q⟩ := h
    refine ⟨_, (pss_one (ps_ret (pe_and (pe_callB call_isi (by rfl) (b "isinstance" (by decide +kernel)) (by decide +kernel) (pa_cons (pv 0) (pa_cons (pe_bltn (v := .ty "list") (by rfl) (b "list" (by decide +kernel)) (by decide +kernel) rfl) pa_nil))) (pe_one (pe_allG (N := ["step"]) rfl hr (by rfl) (b "all" (by decide +kernel)) rfl F.hd hB ⟨rfl, rfl, by decide +kernel, by decide +kernel, by decide +kernel, by decide +kernel⟩ (pi_list (pv 0)) (fun _ _ _ _ _ _ => (pg_name (i := 0) (show (["step"] : List Str).Nodup from by decide +kernel) rfl (by first | exact Or.inl rfl | exact Or.inr rfl))) (fun _ _ _ _ _ _ hr => (pe_cal c_is_step (hr.mono (by decide)) (by rfl) (pa_cons (pv 0) pa_nil)))))))), ?_⟩
    refine ⟨_, rfl, _, _, _, _, rfl, TyOf.lst hl, rfl, _, rfl, iteT ?_⟩
    refine ⟨_, rfl, l, rfl, ⟨_, SqL.of hl⟩, hp, all_by (fun _ H' => Same H H') us.length (Same.refl H) (fun i H1 hi s1 => ?_) (fun H1 s1 => ⟨⟨_, SqL.of (s1 _ _ hl), Nat.le_refl _⟩, q _ s1⟩)⟩
    have e : us[i]? = some us[i] := List.getElem?_eq_getElem hi
    refine ⟨⟨_, _, SqL.of (s1 _ _ hl), e⟩, ?_⟩
    rintro y H2 ⟨rfl, hy⟩
    have hy := hy _ (SqL.of (s1 _ _ hl))
    obtain ⟨st, h1, h2⟩ := paired_at hv hy
    exact ⟨_, rfl, y, st, rfl, h2.same s1, ok2 st (List.mem_of_getElem? h1), s1 _ _ hw, fun H3 s3 => ⟨_, rfl, iteT (s1.trans s3)⟩⟩
def spBody (Pw Pb : Addr) : Sp := fun vs H Q _ => ∃ b ss, vs = [.ref b] ∧ BodyAt H b ss ∧ BodyOk ss ∧ H Pw = some (tabH Pw) ∧ H Pb = some (tabH Pb) ∧ ∀ H', Same H H' → Q (.bl true) H'
theorem ok_is_body {f Pw Pb : Addr} {fd : FuncData} {t9 : Tok} (F : Fun K "is_body" "is_body" s_is_body f fd) (b : ∀ x ∈ blts, mg x = none) (g_MOST_STEPS : mg "MOST_STEPS" = some (.int 9 t9))
    (c_is_steps : Cal P w K mg base "is_steps" 25 ["thing"] (spSteps Pw Pb)) : FnOk P w K mg base CX0 30 f fd ["thing"] (spBody Pw Pb) := by
  refine F.ok sc_is_body (fun vs H Q E h => ?_) (fun cdv A outer s H vs Q E hr h => ?_)
  · obtain ⟨v, st, rfl, _⟩ := h; rfl
  · obtain ⟨l, ss, rfl, hb, ok, hw, hp, q⟩ := h
    refine ⟨_, (pss_one (ps_ret (pe_and (pe_cal c_is_steps (hr.mono (by decide)) (by rfl) (pa_cons (pv 0) pa_nil)) (pe_one (pe_cmpR op_le (pe_callB call_len_seq (by rfl) (b "len" (by decide +kernel)) (by decide +kernel) (pa_cons (pv 0) pa_nil)) (pe_glob (v := .int 9) (by rfl) g_MOST_STEPS ⟨_, rfl⟩) (nomark _)))))), ?_⟩
    refine ⟨_, rfl, l, ss, rfl, hb, ok.2, hw, hp, fun H1 s1 => ⟨_, rfl, iteT ?_⟩⟩
    obtain ⟨us, hl, hv⟩ := hb.same s1
    have len := hv.length
    refine ⟨_, rfl, _, _, rfl, .inl (SqL.of hl), _, _, rfl, rfl, ?_⟩
    have d1 : decide ((us.length : Int) ≤ 9) = true := decide_eq_true (by have := ok.1; omega)
    show Q (.bl (decide ((us.length : Int) ≤ 9))) _
    rw [d1]; exact q _ s1
/-! ### has_word, has_body, has_body_or_none -/
def spHasWord (Pw : Addr) : Sp := fun vs H Q _ => ∃ t x y, vs = [.ref t] ∧ H t = some (.tup [.str x, y]) ∧ WordOk x ∧ H Pw = some (tabH Pw) ∧ Q (.bl true) H
theorem ok_has_word {f Pw : Addr} {fd : FuncData} (F : Fun K "has_word" "has_word" s_has_word f fd) (b : ∀ x ∈ blts, mg x = none) (c_is_word : Cal P w K mg base "is_word" 10 ["thing"] (spWord Pw)) :
    FnOk P w K mg base CX0 20 f fd ["thing"] (spHasWord Pw) := by
  refine F.ok sc_has_word (fun vs H Q E h => ?_) (fun cdv A outer s H vs Q E hr h => ?_)
  · obtain ⟨v, x, y, rfl, _⟩ := h; rfl
  · obtain ⟨t, x, y, rfl, ht, ok, hw, q⟩ := h
    refine ⟨_, (pss_one (ps_ret (pe_and (pe_callB call_isi (by rfl) (b "isinstance" (by decide +kernel)) (by decide +kernel) (pa_cons (pv 0) (pa_cons (pe_bltn (v := .ty "tuple") (by rfl) (b "tuple" (by decide +kernel)) (by decide +kernel) rfl) pa_nil))) (pe_and (pe_cmpR op_eq (pe_callB call_len_seq (by rfl) (b "len" (by decide +kernel)) (by decide +kernel) (pa_cons (pv 0) pa_nil)) pe_int (nomark _)) (pe_one (pe_cal c_is_word (hr.mono (by decide)) (by rfl) (pa_cons (pe_ix ix_tup (pv 0) pe_int (fun _ _ => rfl)) pa_nil))))))), ?_⟩
    refine ⟨_, rfl, _, _, _, _, rfl, TyOf.tup ht, rfl, _, rfl, iteT ?_⟩
    refine ⟨_, rfl, _, _, rfl, .inr (SqT.of ht), rfl, _, rfl, iteT ?_⟩
    exact ⟨_, rfl, t, _, _, _, rfl, rfl, SqT.of ht, at_of (j := 0) rfl rfl, x, rfl, ok, hw, q⟩
def spHasBody (Pw Pb : Addr) : Sp := fun vs H Q _ => ∃ v e, vs = [v] ∧ EntAt H v e ∧ WordOk e.1 ∧ BodyOk e.2.2 ∧ H Pw = some (tabH Pw) ∧ H Pb = some (tabH Pb) ∧ ∀ H', Same H H' → Q (.bl true) H'
theorem ok_has_body {f Pw Pb : Addr} {fd : FuncData} (F : Fun K "has_body" "has_body" s_has_body f fd) (c_has_word : Cal P w K mg base "has_word" 20 ["thing"] (spHasWord Pw)) (c_is_body : Cal P w K mg base "is_body" 30 ["thing"] (spBody Pw Pb)) :
    FnOk P w K mg base CX0 40 f fd ["thing"] (spHasBody Pw Pb) := by
  refine F.ok sc_has_body (fun vs H Q E h => ?_) (fun cdv A outer s H vs Q E hr h => ?_)
  · obtain ⟨v, e, rfl, _⟩ := h; rfl
  · obtain ⟨v, ⟨x, bd, ss⟩, rfl, ⟨t, rfl, ht, hb⟩, ok1, ok2, hw, hp, q⟩ := h
    refine ⟨_, (pss_one (ps_ret (pe_and (pe_cal c_has_word (hr.mono (by decide)) (by rfl) (pa_cons (pv 0) pa_nil)) (pe_one (pe_cal c_is_body (hr.mono (by decide)) (by rfl) (pa_cons (pe_ix ix_tup (pv 0) pe_int (fun _ _ => rfl)) pa_nil)))))), ?_⟩
    refine ⟨_, rfl, t, x, _, rfl, ht, ok1, hw, _, rfl, iteT ?_⟩
    exact ⟨_, rfl, t, _, _, _, rfl, rfl, SqT.of ht, at_of (j := 1) rfl rfl, bd, ss, rfl, hb, ok2, hw, hp, q⟩
end
end MG

set_option Elab.async false
set_option linter.all false
set_option maxRecDepth 100000
namespace MG
open PySem PySem.Spec PyProof.Rows L2
section
variable {P : Program} {w : World} {K : PySem.W.Frag} {mg : Str → Option Value} {base : Heap}
/-! ### is_book: of a book -/
def spBook (T : TB) : Sp := fun vs H Q _ => ∃ L es, vs = [.ref L] ∧ BookAt H L es ∧ BookOk es ∧ T.on H ∧ ∀ H', Same H H' → Q (.bl true) H'
theorem ok_is_book {f c bm : Addr} {fd : FuncData} {ob : Obj} {T : TB} (F : FunG K "is_book" "is_book" s_is_book f fd c T.k) (b : ∀ x ∈ blts, mg x = none) (hB : BMod base mainGlobals mg bm ob)
    (c_has_body : Cal P w K mg base "has_body" 40 ["thing"] (spHasBody T.w T.b)) : FnOk P w K mg base CX0 50 f fd ["thing"] (spBook T) := by
  refine F.ok sc_is_book (fun vs H Q E h => ?_) (fun A outer s H vs Q E hr h => ?_)
  · obtain ⟨v, st, rfl, _⟩ := h; rfl
  · obtain ⟨L, es, rfl, ⟨us, hl, hv⟩, ok, hT, q⟩ := h
    have len := hv.length
    refine ⟨_, (pss_cons (ps_if (PW.pt (pw_or (pt_not (pt_val (pe_callB call_isi (by rfl) (b "isinstance" (by decide +kernel)) (by decide +kernel) (pa_cons (pv 0) (pa_cons (pe_bltn (v := .ty "list") (by rfl) (b "list" (by decide +kernel)) (by decide +kernel) rfl) pa_nil))))) (pw_or1 (pt_not (pt_val (pe_allG (N := ["pair"]) rfl hr (by rfl) (b "all" (by decide +kernel)) rfl F.hd hB ⟨rfl, rfl, by decide +kernel, by decide +kernel, by decide +kernel, by decide +kernel⟩ (pi_list (pv 0)) (fun _ _ _ _ _ _ => (pg_name (i := 0) (show (["pair"] : List Str).Nodup from by decide +kernel) rfl (by first | exact Or.inl rfl | exact Or.inr rfl))) (fun _ _ _ _ _ _ hr => (pe_cal c_has_body (hr.mono (by decide)) (by rfl) (pa_cons (pv 0) pa_nil))))))))) (pss_one (ps_ret pe_bl)) pss_nil) (pss_cons (ps_setLc (i := 1) (own := [("word", 2), ("body", 3)]) rfl sc_is_book.nd rfl rfl (sw_true rfl rfl rfl (by decide +kernel)) (pi_list (pv 0)) (blkOk_by (own := [("word", 2), ("body", 3)]) (N := N_is_book) (sc := defScope s_is_book) (by decide +kernel)) (fun _ _ _ _ _ => (pg_tupK (K := K) (n := 2) rfl (by rfl) (pgs_cons (pg_name (i := 2) sc_is_book.nd rfl (by first | exact Or.inl rfl | exact Or.inr rfl)) (pgs_cons (pg_name (i := 3) sc_is_book.nd rfl (by first | exact Or.inl rfl | exact Or.inr rfl)) pgs_nil)))) (fun _ _ _ _ _ => pts_nil) (fun _ _ _ _ _ => (pv 2))) (pss_one (ps_ret (pe_cmpR (op_eqD hr.units) (pv 1) (pe_callB (cr_sortedSet rfl) (by rfl) (b "sorted" (by decide +kernel)) (by decide +kernel) (pa_cons (pe_callTy (call_setS rfl) (by rfl) (b "set" (by decide +kernel)) (by decide +kernel) (pa_cons (pv 1) pa_nil)) pa_nil)) (nomark _)))))), ?_⟩
    refine ⟨_, rfl, _, _, _, _, rfl, TyOf.lst hl, rfl, _, rfl, iteF ?_⟩
    unfold tNot tB
    refine allG_by (K := K) (fun _ H' => Same H H') rfl (SqL.of hl) hT.2.2.1 (Same.refl H) (fun i y H1 hy s1 => ⟨SqL.of (s1 _ _ hl), ?_⟩) (fun H1 s1 => ⟨SqL.of (s1 _ _ hl), ?_⟩)
    · obtain ⟨en, h1, h2⟩ := paired_at hv hy
      have ok1 := ok.each en (List.mem_of_getElem? h1)
      exact ⟨_, rfl, y, en, rfl, h2.same s1, ok1.1, ok1.2, s1 _ _ hT.1, s1 _ _ hT.2.1, fun H3 s3 => ⟨_, rfl, iteT (s1.trans s3)⟩⟩
    · refine ⟨_, rfl, iteF ?_⟩
      have hv1 : Paired (EntAt H1) us es := L2.Paired.mapP hv fun _ _ q => q.same s1
      have hw : us.flatMap (fstV H1) = (es.map (·.1)).map V.str := by
        rw [paired_flat (g := fun e : Ent => [V.str e.1]) (fun v e h => ?_) hv1]
        · rw [flat_sing, List.map_map]; rfl
        · obtain ⟨t, rfl, ht, _⟩ := h
          unfold fstV; rw [tupAt_of ht]; rfl
      dsimp only [tNext, tSeq, tAsg, gName]
      refine tLc_pickV L us (fstV H1) rfl (SqL.of (s1 _ _ hl)) ?_ (fun D x acc Nx hD hx ha hN => ?_) (fun D hD => ?_)
      · rw [hw, List.length_map, List.length_map, sizeLine_eq]; have := ok.few; omega
      · obtain ⟨e, he, t, rfl, ht, _⟩ := paired_mem hv1 hx
        have ht2 : upd H1 D (.lst acc) t = some (.tup [.str e.1, .ref e.2.1]) := (same_upd hD) _ _ ht
        have hf : fstV H1 (.ref t) = [.str e.1] := by unfold fstV; rw [tupAt_of ht]; rfl
        rw [hf] at hN
        refine ⟨t, _, rfl, SqT.of ht2, rfl, _, _, rfl, _, _, rfl, rfl, rfl, ?_⟩
        dsimp only [tYes]
        refine iteT ⟨_, rfl, acc, upd_same, ha, ?_⟩
        rw [upd_upd]; exact hN
      · rw [hw]
        have l64 : (dedupS (es.map (·.1))).length < 64 := by
          have h1 := dedup_len (es.map (·.1))
          rw [List.length_map] at h1
          have := ok.few
          omega
        refine ⟨_, rfl, _, rfl, D, es.map (·.1), rfl, SqL.of upd_same, ?_, fun l hl => ⟨l, _, rfl, upd_same, l64, fun ys p hp hsrt hp0 => ?_⟩⟩
        · rw [List.length_map]; have := ok.few; omega
        have e : ys = es.map (·.1) := sorted_eq (hp.trans (dedup_nodup ok.once)) hsrt ok.up
        subst e
        have s2 : Same H1 (upd H1 D (.lst ((es.map (·.1)).map V.str))) := same_upd hD
        have hD2 : upd (upd (upd H1 D (.lst ((es.map (·.1)).map V.str))) l (setH P w l (dedupS (es.map (·.1))))) p (.lst ((es.map (·.1)).map V.str)) D = some (.lst ((es.map (·.1)).map V.str)) := (supd (same_upd hl) hp0) _ _ upd_same
        have fl : Flat (.list ((es.map (·.1)).map PyData.str)) 2 := flat_list fun d hd => by
          obtain ⟨x, hx, rfl⟩ := List.mem_map.mp hd
          obtain ⟨e, he, rfl⟩ := List.mem_map.mp hx
          exact flat_str (word_ok (ok.each e he).1)
        refine ⟨.list ((es.map (·.1)).map PyData.str), .list ((es.map (·.1)).map PyData.str), .lst (SqL.of hD2) (dp_strs _), .lst (SqL.of upd_same) (dp_strs _), fl.shaped, fl.shaped, ?_⟩
        rw [fl.refl]
        exact q _ (s1.trans (supd (supd s2 hl) hp0))
/-! ### is_changes -/
/-! ### what refuses -/
def spNeedBook (T : TB) : Sp := fun vs H Q _ => ∃ L es, vs = [.ref L] ∧ BookAt H L es ∧ BookOk es ∧ T.on H ∧ ∀ H', Same H H' → Q .non H'
theorem ok_need_book {f : Addr} {fd : FuncData} {T : TB} (F : Fun K "need_book" "need_book" s_need_book f fd) (c_is_book : Cal P w K mg base "is_book" 50 ["thing"] (spBook T)) : FnOk P w K mg base CX0 60 f fd ["book"] (spNeedBook T) := by
  refine F.ok sc_need_book (fun vs H Q E h => ?_) (fun cdv A outer s H vs Q E hr h => ?_)
  · obtain ⟨v, st, rfl, _⟩ := h; rfl
  · obtain ⟨L, es, rfl, hb, ok, hT, q⟩ := h
    refine ⟨_, (pss_one (ps_if (pt_not (pt_val (pe_cal c_is_book (hr.mono (by decide)) (by rfl) (pa_cons (pv 0) pa_nil)))) (pss_one ps_never) pss_nil)), ?_⟩
    exact ⟨_, rfl, L, es, rfl, hb, ok, hT, fun H' s' => ⟨_, rfl, iteF (q H' s')⟩⟩
end
end MG

set_option Elab.async false
set_option linter.all false
set_option maxHeartbeats 1000000
namespace MG
open PySem PySem.Spec PyProof.Rows L2
/-! ### texts that are read: x.strip(signs), x.removeprefix(y), x.startswith(y) -/
section
variable {X : Cx} {o e : Expr} {to te : TE}
theorem mt1C {id : String} {C : Str → Prop} {g : Str → Str → V} (rule : ∀ (a b : Str) (t u : Tok) (s : Shared) (Q : Value → Shared → Prop), C a → (∀ (v : Value) (k : Nat), RelV (g a b) v → Q v { s with toks := k }) →
    wpAny (model X.prog X.w) X.A (call (.builtin id) [.str a t, .str b u]) Q X.xe s) : MtR X id (fun x xs H Q => ∃ a b, x = .str a ∧ xs = [.str b] ∧ C a ∧ Q (g a b) H) := fun pins s σ H x xs v us Q I rx rs h => by
  obtain ⟨a, b, rfl, rfl, hc, h⟩ := h
  obtain ⟨t, rfl⟩ := rx
  match us, rs with
  | _, .cons r1 .nil =>
    obtain ⟨u, rfl⟩ := r1
    exact rule a b t u s _ hc fun v k r => ⟨g a b, H, I.tok k, r, h⟩
def rStripC : V → List V → Hp → VK → Prop := fun x xs H Q => ∃ a b, x = .str a ∧ xs = [.str b] ∧ a.length ≤ sizeLine ∧ Q (.str (Txt.stripChars a b)) H
def rRmPre : V → List V → Hp → VK → Prop := fun x xs H Q => ∃ a b, x = .str a ∧ xs = [.str b] ∧ a.length ≤ sizeLine ∧ Q (.str (Txt.removeprefix a b)) H
def rStartsW : V → List V → Hp → VK → Prop := fun x xs H Q => ∃ a b, x = .str a ∧ xs = [.str b] ∧ Q (.bl (Txt.startswith a b)) H
theorem mt_stripC : MtR X "str.strip" rStripC := mt1C (C := fun a => a.length ≤ sizeLine) (g := fun a b => .str (Txt.stripChars a b)) fun _ _ _ _ _ _ hc h => PySem.SC.stripChars (fun t' k => h _ k ⟨t', rfl⟩) hc
theorem mt_rmPre : MtR X "str.removeprefix" rRmPre := mt1C (C := fun a => a.length ≤ sizeLine) (g := fun a b => .str (Txt.removeprefix a b)) fun _ _ _ _ _ _ hc h => PySem.SC.removeprefix (fun t' k => h _ k ⟨t', rfl⟩) hc
theorem pe_stripC {apos pos : Pos} (ho : PE X o to) (he : PE X e te) (hs : starEach [e] X.env = [(false, eval e X.env)] := by rfl) (hbase : attributeBase o "strip" X.env (eval o X.env) = eval o X.env := by rfl) (hline : (apos.endLine == pos.line) = true := by rfl) :
    PE X (.Call (.Attribute o "strip" apos) [e] [] pos) (tM1 rStripC to te) := pe_m1 F.slot_str_strip F.type_str_strip mt_stripC ho he hs hbase hline
theorem pe_rmPre {apos pos : Pos} (ho : PE X o to) (he : PE X e te) (hs : starEach [e] X.env = [(false, eval e X.env)] := by rfl) (hbase : attributeBase o "removeprefix" X.env (eval o X.env) = eval o X.env := by rfl) (hline : (apos.endLine == pos.line) = true := by rfl) :
    PE X (.Call (.Attribute o "removeprefix" apos) [e] [] pos) (tM1 rRmPre to te) := pe_m1 F.slot_str_removeprefix F.type_str_removeprefix mt_rmPre ho he hs hbase hline
theorem pe_startsW {apos pos : Pos} (ho : PE X o to) (he : PE X e te) (hs : starEach [e] X.env = [(false, eval e X.env)] := by rfl) (hbase : attributeBase o "startswith" X.env (eval o X.env) = eval o X.env := by rfl) (hline : (apos.endLine == pos.line) = true := by rfl) :
    PE X (.Call (.Attribute o "startswith" apos) [e] [] pos) (tM1 rStartsW to te) := pe_m1 F.slot_str_startswith F.type_str_startswith mt_startswith ho he hs hbase hline
end
/-! ### " " * n -/
def blanks (n : Nat) : Str := ⟨(List.replicate n 32).toArray⟩
theorem blanks_all : ∀ k : Fin 11, (⟨(List.replicate k.val (" " : Str).cps).foldl (· ++ ·) #[]⟩ : Str) = blanks k.val := by decide +kernel
section
variable {X : Cx}
theorem op_blanks : OpR X (binaryOp .Mult) (fun x y H Q => ∃ n : Nat, x = .str " " ∧ y = .int (n : Nat) ∧ n ≤ 10 ∧ Q (.str (blanks n)) H) := fun pins s σ H x y v u Q I rx ry h => by
  obtain ⟨n, rfl, rfl, hn, q⟩ := h
  obtain ⟨t, rfl⟩ := rx
  obtain ⟨t', rfl⟩ := ry
  have e := blanks_all ⟨n, by omega⟩
  have one : (" " : Str).length = 1 := by decide +kernel
  have e1 : blanks 1 = " " := by decide +kernel
  have e0 : blanks 0 = Str.empty := by decide +kernel
  refine PySem.P.mul_str (by simp; omega) (fun h1 h2 => ?_) (fun h1 h2 => ?_) ?_
  · rw [one]
    have : (2 ^ 63 - 1 : Int) / (n : Int) ≥ 1 := by
      have hn0 : (0 : Int) < (n : Int) := by omega
      exact Int.le_ediv_of_mul_le hn0 (by omega)
    omega
  · rw [one]; refine notLong ?_
    show 1 * (n : Int).toNat ≤ _
    rw [Int.toNat_natCast]; omega
  · by_cases h0 : (n : Int) < 1
    · rw [if_pos h0]
      have : n = 0 := by omega
      subst this
      rw [e0] at q
      exact ⟨by decide, ⟨.str Str.empty, H, I.tok _, ⟨_, rfl⟩, q⟩⟩
    · rw [if_neg h0]
      by_cases h1 : n = 1
      · subst h1
        rw [if_pos (by decide +kernel)]
        rw [e1] at q
        exact ⟨.str " ", H, I, ⟨_, rfl⟩, q⟩
      · rw [if_neg (by rw [one]; simp; omega)]
        rw [Int.toNat_natCast, e]
        refine ⟨?_, ⟨.str (blanks n), H, I.tok _, ⟨_, rfl⟩, q⟩⟩
        show (blanks n).length ≤ _
        have : (blanks n).length = n := by show ((List.replicate n 32).toArray).size = n; simp
        rw [this]
        first | omega | (rw [sizeLine_eq]; omega)
end
end MG

set_option Elab.async false
set_option linter.all false
set_option maxRecDepth 100000
/-! sep.join(.. for x in xs): the texts are gathered in a list D that is tracked, like a comprehension's -/
namespace MG
open PySem PySem.Spec PyProof.Rows L2

def tJoinG (a : Str) (P : Addr) (wi : TI) (g : TG) (te : TE) (N : List Str) : TE := fun σ H Q => wi σ H fun J H1 => H1 P = some (tabH P) ∧ ∀ D, H1 D = none → ∃ W : Nat → Nat → Hp → Prop, (∃ m, W 0 m (upd H1 D (.lst []))) ∧ ∀ i m H, W i m H →
  (J.stop i H ∧ ∃ ys : List Str, H D = some (.lst (ys.map V.str)) ∧ (ys.map (·.length)).sum + ys.length * a.length ≤ 16777216 ∧ Q (.str (Txt.join a ys)) H) ∨
  (J.go i H ∧ ∃ Nx : Hp → Prop, (∀ H', Nx H' → ∃ m', m' < m ∧ W (i + 1) m' H') ∧ ∀ x H', J.yld i H x H' → g x (noSt N) H' fun σ2 H2 => te σ2 H2 fun y H3 => ∃ acc, H3 D = some (.lst acc) ∧ acc.length < sizeLine ∧ Nx (upd H3 D (.lst (acc ++ [y]))))

/-- what a turn hands out, and how it is gone on with: the list D has one part more, the pins are kept -/
def protoJ (Xg : Cx) (pin : Addr × Obj) (N : List Str) (D : Addr) : Protocol := fun _ _ v s kap => ∃ y H' pl acc, RelV y v ∧ Inv Xg (pin :: pl) (noSt N) H' s ∧ H' D = some (.lst acc) ∧ acc.length < sizeLine ∧
  ∀ s'' : Shared, Inv Xg (pin :: pl) (noSt N) (upd H' D (.lst (acc ++ [y]))) s'' → kap (.send .none) s''
def endJ (Xg : Cx) (pin : Addr × Obj) (N : List Str) (QD : Hp → Prop) : Nat → Shared → Shared → Prop := fun _ _ s₁ => ∃ H', Inv Xg [pin] (noSt N) H' s₁ ∧ QD H'

theorem seg_genJ {X Xg : Cx} {A2 : Around} {N : List Str} {s0 : Shared} {H0 : Hp} {ce : Env} {fp : List Addr} {it D : Addr} {tn : Nat → Heap → Prop} {J : It} {elt tg iter : Expr} {scope : Scope} {pos : Pos} {g : TG} {te : TE} {pin : Addr × Obj} {QD : Hp → Prop} {W : Nat → Nat → Hp → Prop}
    (hX : Xg = genCx X (A2.over (codeG elt tg iter scope pos it ce) []) N s0 H0 ce fp) (hc : X.calm = true) (T : Turn X.prog X.w X.K tg J fp it tn) (hpin : ∀ b ∈ fp, pin.1 ≠ b) (hDf : D ∉ fp) (pg : PG Xg tg g) (pe : PE Xg elt te) (hco : ce.scope.isCoroutine = false)
    (turn : ∀ i m H, W i m H → (J.stop i H ∧ QD H) ∨ (J.go i H ∧ ∃ Nx : Hp → Prop, (∀ H', Nx H' → ∃ m', m' < m ∧ W (i + 1) m' H') ∧ ∀ x H', J.yld i H x H' → g x (noSt N) H' fun σ2 H2 => te σ2 H2 fun y H3 => ∃ acc, H3 D = some (.lst acc) ∧ acc.length < sizeLine ∧ Nx (upd H3 D (.lst (acc ++ [y]))))) :
    ∀ (m n i : Nat) (sS s : Shared) (H : Hp), m < n → W i m H → Inv Xg [pin] (noSt N) H s → tn i s.heap → (∀ b ∈ fp, H b = none) →
      Seg (model X.prog X.w) A2 (fun n s₀ r s₁ => r = .ok .next ∧ endJ Xg pin N QD n s₀ s₁) (protoJ Xg pin N D) n sS (codeG elt tg iter scope pos it ce) ((model X.prog X.w).den (codeG elt tg iter scope pos it ce)) [] s := by
  have stat : ∀ {σ' : L2.St} {H' : Hp} {s' : Shared}, Inv Xg [pin] σ' H' s' → (∀ b ∈ fp, H' b = none) → ∀ b ∈ fp, FpOk Xg [pin] H' b := fun {σ' H' s'} I' hn b hb => by
    subst hX
    refine ⟨hn b hb, (I'.ok.exf b hb).1, I'.ok.exfs b hb, .inl hb, fun x c e => (I'.ok.exf b hb).2 x c e, fun p hp => ?_⟩
    have e : p = pin := by simpa using hp
    rw [e]; exact hpin b hb
  have hxe : Xg.xe = fun _ _ => False := by rw [hX]
  have hA : Xg.A = A2.over (codeG elt tg iter scope pos it ce) [] := by rw [hX]
  have hP : Xg.prog = X.prog := by rw [hX]
  have hW : Xg.w = X.w := by rw [hX]
  have hKK : Xg.K = X.K := by rw [hX]
  have hcm : Xg.calm = true := by rw [hX]; exact hc
  have hE : Xg.env = ce := by rw [hX]
  intro m
  induction m using Nat.strongRecOn with
  | ind m ih =>
    intro n i sS s H hmn w0 I0 st0 n0
    show Seg _ A2 _ _ _ sS _ ((compTurn (.GeneratorExp elt [⟨tg, iter, [], 0⟩] scope pos) 0 (.ref it) .none ce).onRaise (leaving ce)) [] s
    rw [compTurn_gen, Sem.onRaise_eq_wrap]
    refine seg_bind_wrap (wpAny_standAt ?_)
    rcases turn i m H w0 with ⟨stop, qq⟩ | ⟨go, Nx, hNx, step⟩
    · have td := T.done Xg hP hW hKK hcm i [pin] s _ H (fun _ _ => False) I0 (stat I0 n0) st0 stop
      rw [hA] at td
      refine seg_bind_wrap (thnF td fun r s1 ⟨hr, I1⟩ => ?_)
      subst hr
      exact seg_end (.ok .next) ⟨rfl, H, I1, qq⟩
    · have ti := T.item Xg hP hW hKK hcm i [pin] s _ H (fun _ _ => False) I0 (stat I0 n0) st0 go
      rw [hA] at ti
      refine seg_bind_wrap (thnF ti fun r s1 ⟨u, hr, h1⟩ => ?_)
      subst hr
      refine seg_bind_wrap (thnF h1 fun _ s2 ⟨x, H2, I2, r2, y2, st2, n2⟩ => ?_)
      have I2' := I2.pinned (stat I2 n2) (T.obj _ _ st2)
      have q2 := pg _ s2 _ H2 x u _ I2' r2 (step x H2 y2)
      rw [hA, hP, hW, hxe, hE] at q2
      refine seg_bind_wrap (thnF q2 fun _ s3 ⟨σ3, H3, I3, q3⟩ => ?_)
      refine seg_bind_wrap (wpAny_tests_nil ?_)
      simp only [if_true]
      have hy : ∀ v, yieldOut ce v = yieldValue v := fun v => by simp only [yieldOut, hco, Bool.false_eq_true, if_false]
      simp only [hy]
      rw [Sem.bind_eq_wrap', Sem.bind_eq_wrap', Sem.wrap_wrap, Sem.wrap_wrap]
      have q4 := pe _ s3 σ3 H3 _ I3 q3
      rw [hA, hP, hW, hxe, hE] at q4
      refine seg_wrap (thnF q4 fun y s4 ⟨yv, H4, I4, r4, acc, ha, hz, q5⟩ => ?_)
      obtain ⟨n', rfl⟩ : ∃ n', n = n' + 1 := ⟨n - 1, by omega⟩
      have I4' : Inv Xg (pin :: pinsAt fp s2.heap) (noSt N) H4 s4 := I4.weak (by rw [I4.len, hX]; simp) fun j v e => by
        rw [List.getElem?_replicate] at e
        split at e <;> cases e
      refine seg_at (seg_yield rfl rfl rfl ⟨yv, H4, pinsAt fp s2.heap, acc, r4, I4', ha, hz, fun s5 I5 => ?_⟩)
      obtain ⟨m', hm, w5⟩ := hNx _ q5
      have pin5 : ∀ b ∈ fp, ∀ o, s2.heap.get? b = some o → s5.heap.get? b = some o ∧ upd H4 D (.lst (acc ++ [yv])) b = none := fun b hb o e =>
        let z := I5.pin (b, o) (List.mem_append_right _ (List.mem_cons_of_mem _ (mem_pinsAt hb e)))
        ⟨z.1, z.2.1⟩
      have I5' : Inv Xg [pin] (noSt N) (upd H4 D (.lst (acc ++ [yv]))) s5 := Inv.unpinned (pins := [pin]) I5
      refine seg_again rfl (ih m' hm n' (i + 1) s5 s5 _ (by omega) w5 I5' (T.keep _ _ _ st2 fun b hb o e => (pin5 b hb o e).1) fun b hb => ?_)
      obtain ⟨o, e, _⟩ := T.obj _ _ st2 b hb
      exact (pin5 b hb o e).2

/-- between two turns of the gathering -/
def ReadyJ (X : Cx) (A2 : Around) (Xg : Cx) (pin : Addr × Obj) (N : List Str) (D : Addr) (QD : Hp → Prop) (g n : Nat) (s : Shared) : Prop :=
  ∃ gs H' pl, s.gens[g]? = some gs ∧ Inv Xg (pin :: pl) (noSt N) H' s ∧
    ∀ s'' : Shared, Inv Xg (pin :: pl) (noSt N) H' s'' → gs.Goes (model X.prog X.w) A2 (fun n s₀ r s₁ => r = .ok .next ∧ endJ Xg pin N QD n s₀ s₁) (protoJ Xg pin N D) n (.send .none) s''

theorem ext_loopJ {X Xg : Cx} {A : Around} {N : List Str} {a D : Addr} {g : Nat} {x y res : Value} {QD : Hp → Prop} {R : Result → Shared → Prop} (hh : A.handled = none) (hroom : A.depth < recursionLimit)
    (hR : ∀ (H' : Hp) (s : Shared), Inv Xg [(a, genObj g x y)] (noSt N) H' s → QD H' → R (.ok (.ret res)) s) :
    ∀ (n : Nat) (s : Shared), ReadyJ X A.in1.in1 Xg (a, genObj g x y) N D QD g n s → codeAny (model X.prog X.w) A (.builtin "list.extend.loop" ⟨[.ref D, .ref a, res], []⟩) R s := by
  intro n
  induction n with
  | zero =>
    intro s ⟨gs, H', pl, hgs, I, hgo⟩
    refine codeAny_builtin PySem.F.entry_extend_loop ?_
    rw [Around.under_plainId PySem.F.plain_extend_loop _]
    show wpAny _ A.in1 (pyNext (.ref a) >>= _) _ _ s
    have hgen : s.heap.IsGen a g := ⟨genObj g x y, x, y, (I.pin (a, genObj g x y) (List.mem_append_right _ List.mem_cons_self)).1, rfl, rfl, rfl⟩
    refine wpAny_bind (wpAny_pyNext_genexpQ (A := A.in1) (P := endJ Xg (a, genObj g x y) N QD) (Y := protoJ Xg (a, genObj g x y) N D) (n := 0) hh I.nolimit hroom hgen hgs (hgo _ (inv_gens I rfl rfl (bare_set I.bare rfl))) (fun v s1 gs1 hb hv => ?_) (fun s1 hp h1 hk => ?_))
    · obtain ⟨yv, H1, pl1, acc, r1, I1, ha, hz, q1⟩ := hv
      obtain ⟨z, its, k, r, hl, e⟩ := I1.lstM ha
      exact (q1 { s1 with heap := s1.heap.update D (Obj.mapSeq (·.push v)), toks := s1.toks } (I1.lset (its' := its ++ [v]) ha e (by simp) (r.append (.cons r1 .nil)) (by rw [List.length_append]; exact hz))).elim
    · obtain ⟨H1, I1, q1⟩ := hp
      exact wpAny_pure (hR H1 _ (inv_more I1 hk rfl (bare_set I1.bare rfl)) q1)
  | succ n ih =>
    intro s ⟨gs, H', pl, hgs, I, hgo⟩
    refine codeAny_builtin PySem.F.entry_extend_loop ?_
    rw [Around.under_plainId PySem.F.plain_extend_loop _]
    show wpAny _ A.in1 (pyNext (.ref a) >>= _) _ _ s
    have hgen : s.heap.IsGen a g := ⟨genObj g x y, x, y, (I.pin (a, genObj g x y) (List.mem_append_right _ List.mem_cons_self)).1, rfl, rfl, rfl⟩
    have hlt : g < s.gens.size := by
      rcases Nat.lt_or_ge g s.gens.size with z | z
      · exact z
      · rw [Array.getElem?_eq_none z] at hgs; cases hgs
    refine wpAny_bind (with_gens (Nat.le_refl s.gens.size) ?_)
    refine wpAny_pyNext_genexpQ (A := A.in1) (P := endJ Xg (a, genObj g x y) N QD) (Y := protoJ Xg (a, genObj g x y) N D) (n := n + 1) hh I.nolimit hroom hgen hgs (hgo _ (inv_gens I rfl rfl (bare_set I.bare rfl))) (fun v s1 gs1 hb hv => ?_) (fun s1 hp h1 hk => ?_)
    · intro hsz
      obtain ⟨yv, H1, pl1, acc, r1, I1, ha, hz, q1⟩ := hv
      have z : (s1.setGen g gs1).gens.size = s1.gens.size := by simp [Shared.setGen]
      rw [z] at hsz
      have I2 := inv_gens (s' := s1.setGen g gs1) I1 rfl rfl (bare_set I1.bare hb)
      obtain ⟨z2, its, k, r, hl, e⟩ := I2.lstM ha
      have I3 := I2.lset (its' := its ++ [v]) (f := (·.push v)) (t' := (s1.setGen g gs1).toks) ha e (by simp) (r.append (.cons r1 .nil)) (by rw [List.length_append]; exact hz)
      show wpAny _ A.in1 (updateSeq D (·.push v) >>= _) _ _ _
      refine wpAny_bind (wpAny_updateSeq e rfl (wpAny_pure ⟨plainId_quiet PySem.F.plain_extend_loop _, ih _ ⟨gs1, _, pl1, ?_, I3, q1⟩⟩) ?_ ?_)
      · have hl1 : g < s1.gens.size := Nat.lt_of_lt_of_le hlt hsz
        simp [Shared.setGen, hl1]
      · rw [List.size_toArray]; omega
      · rw [Array.size_push, List.size_toArray]; omega
    · intro hsz
      obtain ⟨H1, I1, q1⟩ := hp
      exact wpAny_pure (hR H1 _ (inv_more I1 hk rfl (bare_set I1.bare rfl)) q1)
end MG

set_option Elab.async false
set_option linter.all false
set_option maxRecDepth 100000
namespace MG
open PySem PySem.Spec PyProof.Rows L2

theorem over_room3 {k : Nat} {A : Around} {elt tg iter : Expr} {scope : Scope} {pos : Pos} {it : Addr} {ce : Env} (r : Room (k + 1) A) : Room k (A.in1.in1.in1.over (codeG elt tg iter scope pos it ce) []) := by
  refine ⟨r.hd, ?_, ?_⟩
  · have := r.dp
    show A.depth + 0 + 1 + 3 * k + 5 < _
    omega
  · have := r.un
    show A.units + 1 + 1 + 1 + 0 + 3 + 16 * k + 200 < _
    omega

/-- the gathering of a generator's texts: the list is laid at the heap's end, tracked from there on -/
theorem collectJ {X Xg : Cx} {A : Around} {N : List Str} {a : Addr} {g n : Nat} {x y : Value} {QD : Addr → Hp → Prop} {H2 : Hp} {s : Shared} {Q : List Value → Shared → Prop} {E : Value → Shared → Prop} (hh : A.handled = none) (hroom : A.depth < recursionLimit)
    {pl : List (Addr × Obj)} (I : Inv Xg ((a, genObj g x y) :: pl) (noSt N) H2 s) (gs : GenState) (hgs : s.gens[g]? = some gs)
    (hgo : ∀ s'' : Shared, Inv Xg ((a, genObj g x y) :: pl) (noSt N) (upd H2 s.heap.objs.size (.lst [])) s'' → gs.Goes (model X.prog X.w) A.in1.in1 (fun n s₀ r s₁ => r = .ok .next ∧ endJ Xg (a, genObj g x y) N (QD s.heap.objs.size) n s₀ s₁) (protoJ Xg (a, genObj g x y) N s.heap.objs.size) n (.send .none) s'')
    (hQD : ∀ H', QD s.heap.objs.size H' → ∃ acc, H' s.heap.objs.size = some (.lst acc))
    (hQ : ∀ (H' : Hp) (s' : Shared) (acc : List V) (its : List Value), Inv Xg [(a, genObj g x y)] (noSt N) H' s' → QD s.heap.objs.size H' → H' s.heap.objs.size = some (.lst acc) → Vals acc its → Q its s') : wpAny (model X.prog X.w) A (collect (.ref a)) Q E s := by
  have hga := (I.pin (a, genObj g x y) (List.mem_append_right _ List.mem_cons_self)).1
  have hlt : a < s.heap.objs.size := Heap.lt_size hga
  have hne : s.heap.objs.size ≠ a := Nat.ne_of_gt hlt
  have I1 := I.lnew (ys := []) (its := []) (t' := s.toks) .nil (Nat.zero_le _)
  have hT : ∀ s' : Shared, s'.heap.get? a = some (genObj g x y) → s'.TypeIs (.ref a) "generator" := fun s' e => ⟨_, e, rfl⟩
  have hga1 := (I1.pin (a, genObj g x y) (List.mem_append_right _ List.mem_cons_self)).1
  unfold collect
  refine wpAny_bind (wpAny_runValue (codeAny_builtin PySem.F.entry_proto_collect ?_))
  rw [Around.under_plainId PySem.F.plain_proto_collect _]
  show wpAny _ A.in1 (newList [] >>= _) _ _ s
  refine wpAny_bind (wpAny_newObj_type (wpAny_pure ⟨plainId_quiet PySem.F.plain_list_iadd _, codeAny_builtin PySem.F.entry_list_iadd ?_⟩))
  rw [Around.under_plainId PySem.F.plain_list_iadd _]
  show wpAny _ A.in1 (Builtin.List.listExtendWith (.ref s.heap.objs.size) (.ref a) (.ref s.heap.objs.size)) _ _ _
  unfold Builtin.List.listExtendWith
  refine wpAny_bind (wpAny_typeOf (hT _ hga1) ?_)
  have e1 : Builtin.List.listSameRef (.ref s.heap.objs.size) (.ref a) = false := by simp [Builtin.List.listSameRef, hne]
  rw [e1]
  show wpAny _ A.in1 (pyIter (.ref a) >>= _) _ _ _
  refine wpAny_bind (wpAny_pyIter_gen (g := g) ⟨genObj g x y, x, y, hga1, rfl, rfl, rfl⟩ (wpAny_bind (wpAny_holding ?_)))
  unfold Builtin.List.listLengthHint
  refine wpAny_bind (wpAny_specialOf (hT _ hga1) PySem.F.gen_no_len ?_)
  show wpAny _ A.in1 (specialOf (Value.ref a) (Str.ofString "__length_hint__") >>= _) _ _ _
  refine wpAny_bind (wpAny_specialOf (hT _ hga1) PySem.F.gen_no_hint (wpAny_pure ?_))
  show wpAny _ A.in1 (rule "list.extend.makes-room" >>= fun _ => Builtin.List.listTouch (.ref s.heap.objs.size) >>= fun _ => again (.builtin "list.extend.loop" ⟨[.ref s.heap.objs.size, .ref a, .ref s.heap.objs.size], []⟩)) _ _ _
  refine wpAny_bind (wpAny_rule (wpAny_bind ?_))
  show wpAny _ A.in1 (updateSeq s.heap.objs.size (·.push .none) >>= fun _ => updateSeq s.heap.objs.size (·.pop)) _ _ _
  have hu : upd H2 s.heap.objs.size (.lst []) s.heap.objs.size = some (.lst []) := upd_same
  obtain ⟨z1, its1, n1, r1, l1, o1⟩ := I1.lstM hu
  have ei1 : its1 = [] := by cases r1; rfl
  subst ei1
  have I2 := I1.lset (ys := [.non]) (its' := [.none]) (f := (·.push .none)) (t' := s.toks) hu o1 (by simp) (.cons rfl .nil) (by decide)
  refine wpAny_bind (wpAny_updateSeq o1 rfl ?_ (by simp) (by simp))
  have hu2 : upd (upd H2 s.heap.objs.size (.lst [])) s.heap.objs.size (.lst [.non]) s.heap.objs.size = some (.lst [.non]) := upd_same
  obtain ⟨z2, its2, n2, r2, l2, o2⟩ := I2.lstM hu2
  obtain ⟨v2, rfl⟩ : ∃ v, its2 = [v] := by
    cases r2 with
    | cons _ t => cases t; exact ⟨_, rfl⟩
  have I3 := I2.lset (ys := []) (its' := []) (f := (·.pop)) (t' := s.toks) hu2 o2 (by simp) .nil (Nat.zero_le _)
  rw [upd_upd, upd_upd] at I3
  refine wpAny_updateSeq o2 rfl ?_ (by simp; decide) (by simp)
  refine wpAny_pure ⟨plainId_quiet PySem.F.plain_extend_loop _, ext_loopJ (X := X) (Xg := Xg) (N := N) (QD := QD s.heap.objs.size) (n := n) hh hroom (fun H' s' I' q => ?_) _ ⟨gs, _, pl, hgs, I3, hgo⟩⟩
  obtain ⟨acc, hacc⟩ := hQD H' q
  obtain ⟨z, its, k, r, hl, e⟩ := I'.lstM hacc
  show wpAny _ A (load s.heap.objs.size >>= _) _ _ s'
  refine wpAny_bind (wpAny_load e ?_)
  refine wpAny_pure ?_
  simpa using hQ H' s' acc its I' q hacc r
theorem strs_values : ∀ {ys : List Str} {us : List Value}, Vals (ys.map V.str) us → ∃ l : List (Str × Tok), strValues l = us ∧ l.map (·.1) = ys
  | [], _, .nil => ⟨[], rfl, rfl⟩
  | y :: ys, _, .cons r t => by
    obtain ⟨k, rfl⟩ := r
    obtain ⟨l, h1, h2⟩ := strs_values t
    exact ⟨(y, k) :: l, by rw [← h1]; rfl, by rw [← h2]; rfl⟩
theorem join_ok {sep : Str} {ys : List Str} (h : (ys.map (·.length)).sum + ys.length * sep.length ≤ 16777216) : JoinOk sep ys = true := by
  unfold JoinOk
  rw [StrLaws.joinTotal, Builtin.Str.tooLong]
  simp only [Bool.not_eq_true', decide_eq_false_iff_not]
  have : (16777216 : Nat) ≤ sizeLine := by decide
  omega

section
variable {X : Cx}
theorem pe_joinG {elt tg iter : Expr} {scope : Scope} {N : List Str} {pos apos pos' spos : Pos} {sj : Nat} {a : Str} {wi : TI} {g : TG} {te : TE} {c P : Addr} {k : Nat} {bm : Addr} {ob : Obj}
    (hc : X.calm = true) (hr : Room (k + 1) X.A) (hcode : X.env.code = .ref c) (hK : PySem.W.codeHdIn X.K c P = true) (hB : BMod X.base mainGlobals X.mg bm ob) (G : GScope N scope) (hi : PI X tg iter wi)
    (hg : ∀ (A' : Around) (s : Shared) (H : Hp) (C : Addr) (code : Value) (fp : List Addr), PG (genCx X A' N s H (genEnv scope [] C code builtinsNs X.env) fp) tg g)
    (he : ∀ (A' : Around) (s : Shared) (H : Hp) (C : Addr) (code : Value) (fp : List Addr), Room k A' → PE (genCx X A' N s H (genEnv scope [] C code builtinsNs X.env) fp) elt te)
    (hs : ∀ x, genFold iter X.env x = pure x := by intro _; rfl) (hline : (apos.endLine == pos'.line) = true := by rfl) :
    PE X (.Call (.Attribute (.Constant (.str a) sj spos) "join" apos) [.GeneratorExp elt [⟨tg, iter, [], 0⟩] scope pos] [] pos') (tJoinG a P wi g te N) := by
  intro pins s σ H Q I h
  refine PySem.Call_method1 rfl rfl hline (thn (pe_str pins s σ H (fun v H' => v = .str a ∧ H' = H) I ⟨rfl, rfl⟩) fun v s0 ⟨x0, H0, I0, r0, e0, e1⟩ => ?_)
  subst e0; subst e1
  obtain ⟨t0, rfl⟩ := r0
  refine ⟨"str", _, F.plainAttrs_str, F.slot_str_join, F.type_str_join, typeIs_str _ _ _, (fun _ e => nomatch e), Calls.callWith_builtin rfl (Calls.evalArgs_plain ?_)⟩
  refine Calls.spliced_cons (wpAny_GeneratorExp_make G.co (G.clo _) G.noc G.dot G.kind hr.depth (thn (hi pins s0 σ H0 _ I0 h) fun xv s1 hx => thn hx fun itv s2 h2 => ?_) hs)
  obtain ⟨it, fp, tn, J, H2, e, I2, T, st2, f2, hP, hW⟩ := h2
  subst e
  refine ⟨I2.nolimit, code_ok I2 hcode hK hP fun code s3 I3 eg eo kp => ?_⟩
  rw [I.ok.glob]
  refine wpAny_builtinsFor (hB.ns.keeps I3.bk) hB.name hB.ne (I3.bk _ _ hB.obj) hB.cls hB.dict hB.data ?_
  intro h' hns hsb
  refine Calls.spliced_nil ?_
  have nP : ∀ b ∈ fp, b ≠ P := fun b hb z => by
    have := (f2 b hb).1
    rw [z, hP] at this; cases this
  have f3 : ∀ b ∈ fp, FpOk X pins H2 b ∧ b < s3.heap.objs.size := fun b hb => by
    obtain ⟨o, e, _⟩ := T.obj _ _ st2 b hb
    exact ⟨f2 b hb, Heap.lt_size (kp b o (nP b hb) e)⟩
  have st3 : tn 0 s3.heap := T.keep _ _ _ st2 fun b hb o e => kp b o (nP b hb) e
  have hhd : X.A.handled = none := hr.hd
  generalize hce : genEnv scope [] s3.heap.objs.size code builtinsNs X.env = ce
  have I5 := gen_start (A' := X.A.in1.in1.in1.over (codeG elt tg iter scope pos it ce) []) (N := N) (code := code) (it := .ref it) (tk := s3.toks + 1 + 1 + 1) (gs := .fresh (.compStart (.GeneratorExp elt [⟨tg, iter, [], 0⟩] scope pos) 0 (.ref it) .none ce)) (x := .str (Str.ofString "<genexpr>") (s3.toks + 1)) (y := .str (X.env.qual ++ Str.ofString "<genexpr>") (s3.toks + 1 + 1))
    I3 G (by rw [hce]; exact over_frames I.ok.frames) (fun _ => hhd) f3 hns hsb rfl
  rw [hce] at I5
  have pg := hg (X.A.in1.in1.in1.over (codeG elt tg iter scope pos it ce) []) s3 H2 s3.heap.objs.size code fp
  have pe := he (X.A.in1.in1.in1.over (codeG elt tg iter scope pos it ce) []) s3 H2 s3.heap.objs.size code fp (over_room3 hr)
  rw [hce] at pg pe
  have hco : ce.scope.isCoroutine = false := by rw [← hce]; exact G.co
  have hsz : h'.objs.size = s3.heap.objs.size + 1 := by rw [hsb.1, Heap.size_push]
  generalize hgo : genObj s3.gens.size (.str (Str.ofString "<genexpr>") (s3.toks + 1)) (.str (X.env.qual ++ Str.ofString "<genexpr>") (s3.toks + 1 + 1)) = go at I5
  have kp5 : ∀ b o, s3.heap.get? b = some o → (h'.push go).get? b = some o := fun b o e =>
    Heap.get?_push_of_some _ (hsb.extBut b o (Nat.ne_of_lt (Heap.lt_size e)) (Heap.get?_push_of_some _ e))
  have st5 : tn 0 (h'.push go) := T.keep _ _ _ st3 fun b _ o e => kp5 b o e
  have nfp : ∀ b ∈ fp, H2 b = none := fun b hb => (f2 b hb).1
  have npin : ∀ b ∈ fp, h'.objs.size ≠ b := fun b hb => Nat.ne_of_gt (by rw [hsz]; exact Nat.lt_succ_of_lt (f3 b hb).2)
  have hD0 : H2 (h'.push go).objs.size = none := I5.hok.fresh (Nat.le_refl _)
  obtain ⟨W, ⟨m0, w0⟩, turn⟩ := hW _ hD0
  have hDsz : (h'.push go).objs.size = s3.heap.objs.size + 2 := by rw [Heap.size_push, hsz]
  have hDf : (h'.push go).objs.size ∉ fp := fun z => by
    have q : (h'.push go).objs.size < s3.heap.objs.size := (f3 _ z).2
    omega
  generalize hXg : genCx X (X.A.in1.in1.in1.over (codeG elt tg iter scope pos it ce) []) N s3 H2 ce fp = Xg at I5 pg pe
  have loop := seg_genJ (A2 := X.A.in1.in1.in1) (pin := (h'.objs.size, go)) (D := (h'.push go).objs.size) (QD := fun H => ∃ ys : List Str, H (h'.push go).objs.size = some (.lst (ys.map V.str)) ∧ (ys.map (·.length)).sum + ys.length * a.length ≤ 16777216 ∧ Q (.str (Txt.join a ys)) H) hXg.symm hc T npin hDf pg pe hco turn
  have hgen : (h'.push go).get? h'.objs.size = some go := Heap.get?_push_size _ (by rw [← hgo]; rfl)
  have I5p : Inv Xg ([(h'.objs.size, go)] ++ pinsAt fp (h'.push go)) (noSt N) H2 _ := I5.pinned (fun b hb => by
    subst hXg
    refine ⟨nfp b hb, (I5.ok.exf b hb).1, I5.ok.exfs b hb, .inl hb, fun x c e => (I5.ok.exf b hb).2 x c e, fun p hp => ?_⟩
    have e : p = (h'.objs.size, go) := by simpa using hp
    rw [e]; exact npin b hb) (T.obj _ _ st5)
  subst hgo
  -- the call of join
  refine wpAny_call (codeAny_call_builtin F.slot_str_join.plain F.entry_str_join (F.slot_str_join.check _ _ _ _ _ _ _ _ (typeIs_str _ _ _) (F.args_str_join_2 _ _) ?_))
  show wpAny _ X.A.in1 (Builtin.«str.join» ⟨[.str a t0, .ref h'.objs.size], []⟩) _ _ _
  rw [join_tree_other]
  refine wpAny_bind (wpAny_typeOf (show Shared.TypeIs _ (.ref h'.objs.size) "generator" from ⟨_, hgen, rfl⟩) ?_)
  show wpAny _ X.A.in1 ((pyIter (.ref h'.objs.size)).tryCatch _ >>= fun it => collect it >>= fun items => joinTail a items) _ _ _
  refine wpAny_bind (wpAny_tryCatch (wpAny_pyIter_gen (g := s3.gens.size) ⟨_, _, _, hgen, rfl, rfl, rfl⟩ ?_))
  refine wpAny_bind (collectJ (X := X) (Xg := Xg) (N := N) (QD := fun D H => ∃ ys : List Str, H D = some (.lst (ys.map V.str)) ∧ (ys.map (·.length)).sum + ys.length * a.length ≤ 16777216 ∧ Q (.str (Txt.join a ys)) H) (n := m0 + 1) hhd hr.depth I5p _ (Array.getElem?_push_size ..) (fun s'' I7 => ⟨rfl, ?_⟩) (fun H' ⟨ys, q, _⟩ => ⟨_, q⟩) fun H' s' acc its I' ⟨ys, q1, q2, q3⟩ ha r => ?_)
  · have st7 : tn 0 s''.heap := T.keep _ _ _ st5 fun b hb o e => (I7.pin (b, o) (List.mem_append_right _ (List.mem_cons_of_mem _ (mem_pinsAt hb e)))).1
    have lp := loop m0 (m0 + 1) 0 s'' s'' _ (Nat.lt_succ_self _) w0 (Inv.unpinned (pins := [_]) I7) st7 fun b hb => by
      rw [upd_ne (fun z => hDf (by rw [← z]; exact hb))]; exact nfp b hb
    show Seg _ X.A.in1.in1.in1 _ _ _ s'' _ ((compStart (.GeneratorExp elt [⟨tg, iter, [], 0⟩] scope pos) 0 (.ref it) .none ce).onRaise (leaving ce)) [] s''
    unfold compStart
    rw [Sem.onRaise_eq_wrap]
    show Seg _ X.A.in1.in1.in1 _ _ _ s'' _ ((ask >>= _).wrap _ _ _ _) [] s''
    refine seg_bind_wrap (wpAny_askSetting ?_)
    split
    · exact seg_again rfl lp
    · first
        | exact seg_bind_wrap (wpAny_rule (seg_bind_wrap (wpAny_standAt (seg_bind_wrap (T.self _ 0 s'' _ _ st7 (seg_again rfl lp))))))
        | (refine seg_bind_wrap (wpAny_rule ?_); show Seg _ X.A.in1.in1.in1 _ _ _ s'' _ ((standAt iter.pos >>= _).wrap _ _ _ _) [] s''; exact seg_bind_wrap (wpAny_standAt (seg_bind_wrap (T.self _ 0 s'' _ _ st7 (seg_again rfl lp)))))
  · rw [ha] at q1
    cases q1
    obtain ⟨l, rfl, hl⟩ := strs_values r
    subst hl
    have hok := join_ok q2
    unfold JoinOk at hok
    rw [Bool.not_eq_true'] at hok
    have g1 : Gives (joinTail a (strValues l)) (joinMade a l) := by
      cases l with
      | nil => exact gives_joinTail a _ hok
      | cons p r' =>
        cases r' with
        | nil => exact gives_joinTail a _ hok
        | cons q r'' => exact gives_joinTail a _ hok
    refine g1 X.prog X.w X.A (wants (EP X pins σ Q) X.xe) s' (post_join l ⟨joinFit_length hok, fun t' k => ?_⟩)
    have I6 : Inv X pins σ H' s' := by
      have b6 := I'.base
      have o6 := I'.os
      have k6 := I'.hok
      subst hXg
      exact I3.call' (ch := fp) o6 b6 k6 I'.bare fun b hb => ⟨(f2 b hb).2.2.2.1, (f2 b hb).2.1, (f2 b hb).2.2.2.2.1, (f2 b hb).2.2.2.2.2⟩
    exact ⟨.str _, H', I6.tok k, ⟨t', rfl⟩, q3⟩
end
end MG

set_option Elab.async false
set_option linter.all false
set_option maxRecDepth 100000
namespace MG
open PySem PySem.Spec PyProof.Rows L2
/-! ### f-strings, part by part -/
theorem joins_mono {M : Model} {A : Around} {E : Value → Shared → Prop} {Q Q' : Str → Shared → Prop} : ∀ (ps : List (Sem Value)) (acc : Str) (s : Shared), Joins M A E ps acc Q s → (∀ o s, Q o s → Q' o s) → Joins M A E ps acc Q' s
  | [], _, _, h, k => k _ _ h
  | x :: r, acc, s, h, k => wpAny_mono h (fun v s1 ⟨y, t, e, l, z⟩ => ⟨y, t, e, l, joins_mono r _ s1 z k⟩) fun _ _ e => e
abbrev TJ := Str → L2.St → Hp → (Str → Hp → Prop) → Prop
def PJ (X : Cx) (es : List Expr) (t : TJ) : Prop := ∀ (pins : List (Addr × Obj)) (s : Shared) (σ : L2.St) (H : Hp) (acc : Str) (Q : Str → Hp → Prop), Inv X pins σ H s → t acc σ H Q →
  Joins (model X.prog X.w) X.A X.xe (evalEach es X.env) acc (fun out s1 => ∃ H1, Inv X pins σ H1 s1 ∧ Q out H1) s
def jNil : TJ := fun acc _ H Q => Q acc H
def jStr (x : Str) (t : TJ) : TJ := fun acc σ H Q => (acc ++ x).length ≤ sizeLine ∧ t (acc ++ x) σ H Q
def jVal (te : TE) (t : TJ) : TJ := fun acc σ H Q => te σ H fun v H1 => ∃ y, v = .str y ∧ y.length ≤ sizeLine ∧ (acc ++ y).length ≤ sizeLine ∧ t (acc ++ y) σ H1 Q
section
variable {X : Cx}
theorem pj_nil : PJ X [] jNil := fun pins s σ H acc Q I h => ⟨H, I, h⟩
theorem pj_str {x : Str} {j : Nat} {pos : Pos} {es : List Expr} {t : TJ} (r : PJ X es t) : PJ X (.Constant (.str x) j pos :: es) (jStr x t) := by
  intro pins s σ H acc Q I h
  refine thn (pe_str pins s σ H (fun v H' => v = .str x ∧ H' = H) I ⟨rfl, rfl⟩) fun v s1 ⟨y, H1, I1, r1, e1, e2⟩ => ?_
  subst e1; subst e2
  obtain ⟨tk, rfl⟩ := r1
  exact ⟨x, tk, rfl, h.1, r pins s1 σ H1 _ Q I1 h.2⟩
theorem pj_val {e : Expr} {te : TE} {pos : Pos} {es : List Expr} {t : TJ} (he : PE X e te) (r : PJ X es t) : PJ X (.FormattedValue e (-1) none pos :: es) (jVal te t) := by
  intro pins s σ H acc Q I h
  refine wpAny_FormattedValue_plain (thn (he pins s σ H _ I h) fun v s1 ⟨x, H1, I1, r1, y, e1, hz, hz2, q⟩ => ?_)
  subst e1
  obtain ⟨tk, rfl⟩ := r1
  exact wpAny_formatField_str ⟨y, tk, rfl, hz2, r pins s1 σ H1 _ Q I1 q⟩ ⟨y, _, rfl, hz2, r pins _ σ H1 _ Q (I1.tok _) q⟩ hz
def tFs (t : TJ) : TE := fun σ H Q => t Str.empty σ H fun out H1 => out.length ≤ sizeLine ∧ Q (.str out) H1
theorem pe_fstr {v₁ v₂ : Expr} {rest : List Expr} {pos : Pos} {t : TJ} (h : PJ X (v₁ :: v₂ :: rest) t) : PE X (.JoinedStr (v₁ :: v₂ :: rest) pos) (tFs t) := by
  intro pins s σ H Q I q
  have z := h pins s σ H _ _ I q
  refine wpAny_JoinedStr ?_
  exact joins_mono _ _ _ z fun out s1 ⟨H1, I1, l, q1⟩ => ⟨l, .str out, H1, I1.tok _, ⟨_, rfl⟩, q1⟩
/-! ### str(a text | a number) -/
theorem call_str_any : CallR X (.type "str") (fun xs H Q => (∃ i, xs = [.int i] ∧ i.natAbs.log2 < 1920 ∧ Q (.str (toString i)) H) ∨ ∃ y, xs = [.str y] ∧ Q (.str y) H) := by
  intro pins s σ H xs us Q I r h
  rcases h with h | ⟨y, rfl, q⟩
  · exact call_str_int pins s σ H xs us Q I r h
  · obtain ⟨u, rfl, t, rfl⟩ := vals1 r
    exact PySem.P.str_of_str ⟨.str y, H, I, ⟨t, rfl⟩, q⟩
end
end MG

set_option Elab.async false
set_option linter.all false
set_option maxRecDepth 100000
namespace MG
open PySem PySem.Spec PyProof.Rows L2
/-- for over enumerate(a list) -/
theorem for_enumL {K : PySem.W.Frag} {a : Addr} {xs : List V} {g : TG} {tb : TS} {D : Ends} {σ : L2.St} {H : Hp} (Pv : Nat → L2.St → Hp → Prop) (h0 : Pv 0 σ H) (hl : ∀ i σ H, i ≤ xs.length → Pv i σ H → SqL K H a xs)
    (hs : ∀ i x σ H T, xs[i]? = some x → Pv i σ H → H T = none → g (.ref T) σ (upd H T (.tup [.int (i : Nat), x])) fun σ2 H2 => tb { D with nx := Pv (i + 1), ct := Pv (i + 1), bk := D.nx } σ2 H2) (hd : ∀ σ H, Pv xs.length σ H → D.nx σ H) :
    ∃ W : Nat → Nat → L2.St → Hp → Prop, (∃ m, W 0 m σ H) ∧ ∀ i m σ H, W i m σ H →
      ((Ite K a).stop i H ∧ D.nx σ H) ∨ ((Ite K a).go i H ∧ ∃ N : L2.St → Hp → Prop, (∀ σ' H', N σ' H' → ∃ m', m' < m ∧ W (i + 1) m' σ' H') ∧ ∀ x H', (Ite K a).yld i H x H' → g x σ H' fun σ2 H2 => tb { D with nx := N, ct := N, bk := D.nx } σ2 H2) := by
  refine ⟨fun i m σ H => m = xs.length - i ∧ i ≤ xs.length ∧ Pv i σ H, ⟨xs.length, by simp, Nat.zero_le _, h0⟩, ?_⟩
  rintro i m σ H ⟨rfl, hi, p⟩
  have q := hl i σ H hi p
  by_cases hlt : i < xs.length
  · refine .inr ⟨⟨xs, xs[i], q, by simp [hlt]⟩, Pv (i + 1), fun σ' H' p' => ⟨xs.length - (i + 1), by omega, rfl, hlt, p'⟩, fun x H' y => ?_⟩
    obtain ⟨T, x', rfl, hT, rfl, y⟩ := y
    exact hs i x' σ H T (y xs q) p hT
  · have e : i = xs.length := by omega
    subst e
    exact .inl ⟨⟨xs, q, Nat.le_refl _⟩, hd σ H p⟩
end MG

set_option Elab.async false
set_option linter.all false
set_option maxRecDepth 100000
namespace MG
open PySem PySem.Spec PyProof.Rows L2
theorem bookD_of {fs gs : List Ent} (h : fs.map entSB = gs.map entSB) : fs.map entD = gs.map entD := by
  have e : ∀ l : List Ent, l.map entD = (l.map entSB).map fun p => PyData.tuple [.str p.1, bodyD p.2] := fun l => by rw [List.map_map]; rfl
  rw [e, e, h]
/-! ### joining -/
theorem tj_eq (sep : Str) (ys : List Str) : Txt.join sep ys = Str.join sep ys := StrLaws.glued_eq_join sep ys
theorem join_snoc (sep y : Str) : ∀ (xs : List Str), xs ≠ [] → Str.join sep (xs ++ [y]) = Str.join sep xs ++ sep ++ y
  | [], h => absurd rfl h
  | [x], _ => rfl
  | x :: z :: r, _ => by
    show x ++ sep ++ Str.join sep ((z :: r) ++ [y]) = x ++ sep ++ Str.join sep (z :: r) ++ sep ++ y
    rw [join_snoc sep y (z :: r) (by simp)]
    simp only [Str.append_assoc]
theorem sum_le {B : Nat} : ∀ {ys : List Str}, (∀ y ∈ ys, y.length ≤ B) → (ys.map (·.length)).sum ≤ ys.length * B
  | [], _ => Nat.zero_le _
  | y :: r, h => by
    have h1 := h y (List.mem_cons_self ..)
    have h2 := sum_le (ys := r) fun z hz => h z (List.mem_cons_of_mem _ hz)
    rw [List.map_cons, List.sum_cons, List.length_cons, Nat.add_mul]
    omega
theorem join_le {sep : Str} {B m : Nat} {ys : List Str} (h : ∀ y ∈ ys, y.length ≤ B) (hm : ys.length ≤ m) : (Txt.join sep ys).length ≤ m * B + m * sep.length ∧ (ys.map (·.length)).sum + ys.length * sep.length ≤ m * B + m * sep.length := by
  have h1 := sum_le h
  have h2 := StrLaws.join_length_le sep ys
  have h3 : ys.length * B ≤ m * B := Nat.mul_le_mul_right _ hm
  have h4 : ys.length * sep.length ≤ m * sep.length := Nat.mul_le_mul_right _ hm
  rw [tj_eq]
  constructor <;> omega
/-! ### the texts of steps, bodies, rows, books -/
abbrev numT (n : Int) : Str := Str.ofString (toString n)
def Stp.parts : Stp → List Str
  | .say => ["say"] | .hear => ["hear"] | .fin => ["end"]
  | .plus n => ["plus", numT n] | .times n => ["times", numT n] | .turn n => ["turn", numT n]
  | .ask w => ["ask", w] | .odd w => ["odd", w]
def stepT (s : Stp) : Str := Txt.join " " s.parts
def bodyT (ss : Body) : Str := Txt.join "; " (ss.map stepT)
def rowT (x : Str) (ss : Body) : Str := match ss with
  | [] => x ++ ":\n"
  | s :: r => x ++ ": " ++ bodyT (s :: r) ++ "\n"
def rowE (e : Ent) : Str := rowT e.1 e.2.2
def bookT (es : List Ent) : Str := Txt.join "" (es.map rowE)
theorem numT_all : ∀ k : Fin 199, (numT ((k.val : Int) - 99)).length ≤ 3 := by decide +kernel
theorem numT_len {n : Int} (h1 : -99 ≤ n) (h2 : n ≤ 99) : (numT n).length ≤ 3 := by
  have := numT_all ⟨(n + 99).toNat, by omega⟩
  have e : (((n + 99).toNat : Nat) : Int) - 99 = n := by omega
  rw [e] at this; exact this
theorem num_log {n : Int} (h1 : -99 ≤ n) (h2 : n ≤ 99) : n.natAbs.log2 < 1920 := by
  have h := Nat.log2_le_self n.natAbs
  omega
theorem parts_len {s : Stp} (h : s.ok) : (∀ y ∈ s.parts, y.length ≤ 8) ∧ s.parts.length ≤ 2 := by
  have two : ∀ {a b : Str}, a.length ≤ 8 → b.length ≤ 8 → ∀ y ∈ [a, b], y.length ≤ 8 := fun h1 h2 y hy => by
    rcases List.mem_cons.mp hy with e | hy
    · rw [e]; exact h1
    · rw [List.mem_singleton.mp hy]; exact h2
  have one : ∀ {a : Str}, a.length ≤ 8 → ∀ y ∈ [a], y.length ≤ 8 := fun h1 y hy => by rw [List.mem_singleton.mp hy]; exact h1
  cases s with
  | say => exact ⟨one (by decide +kernel), by decide⟩
  | hear => exact ⟨one (by decide +kernel), by decide⟩
  | fin => exact ⟨one (by decide +kernel), by decide⟩
  | plus n => exact ⟨two (by decide +kernel) (Nat.le_trans (numT_len h.1 h.2) (by decide)), by simp [Stp.parts]⟩
  | times n => exact ⟨two (by decide +kernel) (Nat.le_trans (numT_len h.1 h.2) (by decide)), by simp [Stp.parts]⟩
  | turn n => exact ⟨two (by decide +kernel) (Nat.le_trans (numT_len h.1 h.2) (by decide)), by simp [Stp.parts]⟩
  | ask w => exact ⟨two (by decide +kernel) h.2.1, by simp [Stp.parts]⟩
  | odd w => exact ⟨two (by decide +kernel) h.2.1, by simp [Stp.parts]⟩
theorem stepT_len {s : Stp} (h : s.ok) : (stepT s).length ≤ 18 := (join_le (sep := " ") (parts_len h).1 (parts_len h).2).1
theorem stepTs_len {ss : Body} (h : BodyOk ss) : ∀ y ∈ ss.map stepT, y.length ≤ 18 := fun y hy => by
  obtain ⟨s, hs, rfl⟩ := List.mem_map.mp hy
  exact stepT_len (h.2 s hs)
theorem bodyT_len {ss : Body} (h : BodyOk ss) : (bodyT ss).length ≤ 180 := (join_le (sep := "; ") (stepTs_len h) (by rw [List.length_map]; exact h.1)).1
theorem rowT_len {x : Str} {ss : Body} (hx : WordOk x) (h : BodyOk ss) : (rowT x ss).length ≤ 200 := by
  have h1 := hx.2.1
  cases ss with
  | nil =>
    show (x ++ ":\n").length ≤ 200
    rw [strLen_append]
    have : (":\n" : Str).length = 2 := by decide +kernel
    omega
  | cons s r =>
    show (x ++ ": " ++ bodyT (s :: r) ++ "\n").length ≤ 200
    rw [strLen_append, strLen_append, strLen_append]
    have e1 : (": " : Str).length = 2 := by decide +kernel
    have e2 : ("\n" : Str).length = 1 := by decide +kernel
    have h2 := bodyT_len h
    omega
theorem rows_len {es : List Ent} (h : ∀ e ∈ es, EntOk e) : ∀ y ∈ es.map rowE, y.length ≤ 200 := fun y hy => by
  obtain ⟨e, he, rfl⟩ := List.mem_map.mp hy
  exact rowT_len (h e he).1 (h e he).2
theorem bookT_len {es : List Ent} (h : ∀ e ∈ es, EntOk e) (hn : es.length ≤ 20) : (bookT es).length ≤ 4000 := by
  have := (join_le (sep := "") (m := 20) (rows_len h) (by rw [List.length_map]; exact hn)).1
  have e : ("" : Str).length = 0 := by decide +kernel
  rw [e] at this
  unfold bookT
  omega
/-- a step's text: its name, and its part behind one blank -/
theorem stepT_one {s : Stp} {n : Str} (h : s.parts = [n]) : stepT s = n := by unfold stepT; rw [h, tj_eq]; rfl
theorem stepT_two {s : Stp} {n y : Str} (h : s.parts = [n, y]) : stepT s = n ++ " " ++ y := by unfold stepT; rw [h, tj_eq]; rfl
/-- what stands behind the colon, for the first steps -/
def preT (ss : Body) : Str := if ss = [] then "" else " " ++ bodyT ss
theorem preT_row (x : Str) (ss : Body) : x ++ ":" ++ preT ss ++ "\n" = rowT x ss := by
  cases ss with
  | nil =>
    show x ++ ":" ++ "" ++ "\n" = x ++ ":\n"
    have e1 : (x ++ (":" : Str)) ++ ("" : Str) = x ++ ":" := Str.append_empty _
    rw [e1, Str.append_assoc]
    rfl
  | cons s r =>
    show x ++ ":" ++ (" " ++ bodyT (s :: r)) ++ "\n" = x ++ ": " ++ bodyT (s :: r) ++ "\n"
    have e : (": " : Str) = ":" ++ " " := by decide +kernel
    rw [e]
    simp only [Str.append_assoc]
/-! ### join over a list, over a tuple, each turn by its own text -/
theorem joinG_core {a : Str} {J : It} {g : TG} {te : TE} {N : List Str} {Q : VK} {H : Hp} {us : List V} (ys : List Str) (len : us.length = ys.length) (hn : ys.length < sizeLine) (hz : (ys.map (·.length)).sum + ys.length * a.length ≤ 16777216)
    (hgo : ∀ i H', i < us.length → Same H H' → J.go i H') (hst : ∀ H', Same H H' → J.stop us.length H') (hy : ∀ i H' x H'', Same H H' → J.yld i H' x H'' → H'' = H' ∧ us[i]? = some x)
    (hs : ∀ (i : Nat) v y H' (Q' : VK), us[i]? = some v → ys[i]? = some y → Same H H' → (∀ H'', Same H' H'' → Q' (.str y) H'') → g v (noSt N) H' fun σ2 H2 => te σ2 H2 Q')
    (hd : ∀ H', Same H H' → Q (.str (Txt.join a ys)) H') :
    ∀ D, H D = none → ∃ W : Nat → Nat → Hp → Prop, (∃ m, W 0 m (upd H D (.lst []))) ∧ ∀ i m H, W i m H →
      (J.stop i H ∧ ∃ ys : List Str, H D = some (.lst (ys.map V.str)) ∧ (ys.map (·.length)).sum + ys.length * a.length ≤ 16777216 ∧ Q (.str (Txt.join a ys)) H) ∨
      (J.go i H ∧ ∃ Nx : Hp → Prop, (∀ H', Nx H' → ∃ m', m' < m ∧ W (i + 1) m' H') ∧ ∀ x H', J.yld i H x H' → g x (noSt N) H' fun σ2 H2 => te σ2 H2 fun y H3 => ∃ acc, H3 D = some (.lst acc) ∧ acc.length < sizeLine ∧ Nx (upd H3 D (.lst (acc ++ [y])))) := by
  intro D hD
  refine ⟨fun i m H' => i + m = us.length ∧ Same H H' ∧ H' D = some (.lst ((ys.take i).map V.str)), ⟨us.length, by omega, same_upd hD, upd_same⟩, ?_⟩
  rintro i m H' ⟨e, s1, hl⟩
  rcases Nat.lt_or_ge i us.length with z | z
  · refine .inr ⟨hgo i H' z s1, fun H3 => Same H H3 ∧ H3 D = some (.lst ((ys.take (i + 1)).map V.str)), fun H3 ⟨p1, p2⟩ => ⟨m - 1, by omega, by omega, p1, p2⟩, fun x H2 y => ?_⟩
    obtain ⟨rfl, hx⟩ := hy i H' x H2 s1 y
    have hi : i < ys.length := by omega
    refine hs i x ys[i] H2 _ hx (List.getElem?_eq_getElem hi) s1 fun H3 s3 => ?_
    refine ⟨_, s3 _ _ hl, ?_, fun b u eb => ?_, ?_⟩
    · rw [List.length_map, List.length_take]; omega
    · rw [upd_ne (ne_of_none eb hD)]; exact s3 _ _ (s1 _ _ eb)
    · rw [upd_same, List.take_succ, List.getElem?_eq_getElem hi, List.map_append]; rfl
  · have ei : i = us.length := by omega
    subst ei
    rw [len, List.take_length] at hl
    exact .inl ⟨hst H' s1, ys, hl, hz, hd H' s1⟩
theorem joinG_by {K : PySem.W.Frag} {a : Str} {Pt L : Addr} {j : Nat} {N : List Str} {us : List V} {g : TG} {te : TE} {σ : L2.St} {H : Hp} {Q : VK} (ys : List Str) (h1 : σ[j]? = some (some (.ref L))) (hl : H L = some (.lst us)) (hP : H Pt = some (tabH Pt)) (len : us.length = ys.length) (hn : ys.length < sizeLine) (hz : (ys.map (·.length)).sum + ys.length * a.length ≤ 16777216)
    (hs : ∀ (i : Nat) v y H' (Q' : VK), us[i]? = some v → ys[i]? = some y → Same H H' → (∀ H'', Same H' H'' → Q' (.str y) H'') → g v (noSt N) H' fun σ2 H2 => te σ2 H2 Q')
    (hd : ∀ H', Same H H' → Q (.str (Txt.join a ys)) H') : tJoinG a Pt (iList K (tVar j)) g te N σ H Q :=
  ⟨_, h1, L, rfl, ⟨_, SqL.of hl⟩, hP, joinG_core (J := Itl K L) ys len hn hz (fun i H' hi s => ⟨_, _, SqL.of (s _ _ hl), List.getElem?_eq_getElem hi⟩) (fun H' s => ⟨_, SqL.of (s _ _ hl), Nat.le_refl _⟩) (fun i H' x H'' s ⟨e, y⟩ => ⟨e, y _ (SqL.of (s _ _ hl))⟩) hs hd⟩
theorem joinG_byT {K : PySem.W.Frag} {a : Str} {Pt L : Addr} {j : Nat} {N : List Str} {us : List V} {g : TG} {te : TE} {σ : L2.St} {H : Hp} {Q : VK} (ys : List Str) (h1 : σ[j]? = some (some (.ref L))) (hl : H L = some (.tup us)) (hP : H Pt = some (tabH Pt)) (len : us.length = ys.length) (hn : ys.length < sizeLine) (hz : (ys.map (·.length)).sum + ys.length * a.length ≤ 16777216)
    (hs : ∀ (i : Nat) v y H' (Q' : VK), us[i]? = some v → ys[i]? = some y → Same H H' → (∀ H'', Same H' H'' → Q' (.str y) H'') → g v (noSt N) H' fun σ2 H2 => te σ2 H2 Q')
    (hd : ∀ H', Same H H' → Q (.str (Txt.join a ys)) H') : tJoinG a Pt (iTup K (tVar j)) g te N σ H Q :=
  ⟨_, h1, L, rfl, ⟨_, SqT.of hl⟩, hP, joinG_core (J := Itt K L) ys len hn hz (fun i H' hi s => ⟨_, _, SqT.of (s _ _ hl), List.getElem?_eq_getElem hi⟩) (fun H' s => ⟨_, SqT.of (s _ _ hl), Nat.le_refl _⟩) (fun i H' x H'' s ⟨e, y⟩ => ⟨e, y _ (SqT.of (s _ _ hl))⟩) hs hd⟩
end MG

set_option Elab.async false
set_option linter.all false
set_option maxHeartbeats 1000000
namespace MG
open PySem PySem.Spec PyProof.Rows L2 TL
/-! ### blanks around a text -/
theorem tw_rep {g : Nat → Bool} (h : g 32 = true) : ∀ (a : Nat) (l : List Nat), (List.replicate a 32 ++ l).takeWhile g = List.replicate a 32 ++ l.takeWhile g
  | 0, l => rfl
  | a + 1, l => by rw [List.replicate_succ, List.cons_append, List.takeWhile_cons_of_pos h, tw_rep h a l]; rfl
theorem str_ext {x y : Str} (h : tl x = tl y) : x = y := by
  obtain ⟨⟨l⟩⟩ := x
  obtain ⟨⟨m⟩⟩ := y
  have h : l = m := h
  rw [h]
/-- x.strip(" ") of blanks, a text, blanks -/
theorem strip_mid {x c : Str} {a b : Nat} (hx : tl x = List.replicate a 32 ++ tl c ++ List.replicate b 32) (hc : tl c = [] ∨ ∃ y l m z, tl c = y :: l ∧ y ≠ 32 ∧ tl c = m ++ [z] ∧ z ≠ 32) : Txt.stripChars x " " = c := by
  have g32 : ((" " : Str).cps.contains) 32 = true := by decide +kernel
  have gno : ∀ y, y ≠ 32 → ((" " : Str).cps.contains) y = false := fun y h => by
    have e : (" " : Str).cps = #[32] := by decide +kernel
    rw [e]
    simp [h]
  have xl : x.length = a + (tl c).length + b := by
    show (tl x).length = _
    rw [hx, List.length_append, List.length_append, List.length_replicate, List.length_replicate]
  unfold Txt.stripChars
  rw [PySem.W.stripBy_eq]
  generalize ((" " : Str).cps.contains) = g at g32 gno
  apply str_ext
  show tl (Builtin.Str.strSub x (x.cps.toList.takeWhile g).length (x.length - ((x.cps.toList.drop (x.cps.toList.takeWhile g).length).reverse.takeWhile g).length)) = _
  rw [tl_strSub]
  have hx' : x.cps.toList = List.replicate a 32 ++ tl c ++ List.replicate b 32 := hx
  rw [hx', hx, xl]
  rcases hc with hc | ⟨y, l, m, z, h1, h2, h3, h4⟩
  · rw [hc, List.append_nil, tw_rep g32]
    have : (List.replicate b 32).takeWhile g = List.replicate b 32 := by have := tw_rep g32 b []; simpa using this
    rw [this]
    simp
  · have e1 : (List.replicate a 32 ++ tl c ++ List.replicate b 32).takeWhile g = List.replicate a 32 := by
      rw [List.append_assoc, tw_rep g32, h1, List.cons_append, List.takeWhile_cons_of_neg (by rw [gno y h2]; decide), List.append_nil]
    rw [e1, List.length_replicate, List.append_assoc, List.drop_append_of_le_length (by simp), List.drop_of_length_le (by simp), List.nil_append]
    have e2 : (tl c ++ List.replicate b 32).reverse.takeWhile g = List.replicate b 32 := by
      rw [List.reverse_append, List.reverse_replicate, h3, List.reverse_append, List.reverse_singleton, List.singleton_append, tw_rep g32, List.takeWhile_cons_of_neg (by rw [gno z h4]; decide), List.append_nil]
    rw [e2, List.length_replicate]
    have : a + (tl c).length + b - b - a = (tl c).length := by omega
    rw [this, List.take_left]
/-! ### numbers read -/
theorem int_all : ∀ k : Fin 199, PySem.intText? (numT ((k.val : Int) - 99)) = some ((k.val : Int) - 99) ∧ (let f := Txt.removeprefix (numT ((k.val : Int) - 99)) "-"; 1 ≤ f.length ∧ f.length ≤ 2 ∧ f.cps.toList.all (fun c => decide (48 ≤ c) && decide (c ≤ 57)) = true) := by decide +kernel
theorem int_of {n : Int} (h1 : -99 ≤ n) (h2 : n ≤ 99) : PySem.intText? (numT n) = some n ∧ 1 ≤ (Txt.removeprefix (numT n) "-").length ∧ (Txt.removeprefix (numT n) "-").length ≤ 2 ∧ (Txt.removeprefix (numT n) "-").cps.toList.all (fun c => decide (48 ≤ c) && decide (c ≤ 57)) = true := by
  have := int_all ⟨(n + 99).toNat, by omega⟩
  have e : (((n + 99).toNat : Nat) : Int) - 99 = n := by omega
  simp only [e] at this
  exact this
end MG

set_option Elab.async false
set_option linter.all false
set_option maxRecDepth 100000
set_option maxHeartbeats 1000000
namespace MG
open PySem PySem.Spec PyProof.Rows L2 TL
theorem num_no : ∀ k : Fin 199, (numT ((k.val : Int) - 99)).cps.toList.all (fun c => decide (c = 45) || (decide (48 ≤ c) && decide (c ≤ 57))) = true := by decide +kernel
theorem num_sign {n : Int} (h1 : -99 ≤ n) (h2 : n ≤ 99) : ∀ c ∈ tl (numT n), c = 45 ∨ (48 ≤ c ∧ c ≤ 57) := by
  have := num_no ⟨(n + 99).toNat, by omega⟩
  have e : (((n + 99).toNat : Nat) : Int) - 99 = n := by omega
  simp only [e] at this
  intro c hc
  have := List.all_eq_true.mp this c hc
  simpa using this
theorem word_sign {x : Str} (h : WordOk x) : ∀ c ∈ tl x, 97 ≤ c ∧ c ≤ 122 := fun c hc => by
  have := List.all_eq_true.mp h.2.2 c hc
  simpa [isLow] using this
/-- the signs of a step's parts: letters, figures, a minus -/
theorem parts_sign {s : Stp} (h : s.ok) : ∀ p ∈ s.parts, tl p ≠ [] ∧ ∀ c ∈ tl p, c = 45 ∨ (48 ≤ c ∧ c ≤ 57) ∨ (97 ≤ c ∧ c ≤ 122) := by
  have kw : ∀ p ∈ (["say", "hear", "end", "plus", "times", "turn", "ask", "odd"] : List Str), WordOk p := by
    intro p hp
    simp only [List.mem_cons, List.not_mem_nil, or_false] at hp
    rcases hp with rfl | rfl | rfl | rfl | rfl | rfl | rfl | rfl <;> exact ⟨by decide +kernel, by decide +kernel, by decide +kernel⟩
  have wd : ∀ p, WordOk p → tl p ≠ [] ∧ ∀ c ∈ tl p, c = 45 ∨ (48 ≤ c ∧ c ≤ 57) ∨ (97 ≤ c ∧ c ≤ 122) := fun p hp => ⟨fun z => by have := hp.1; have e : p.length = (tl p).length := rfl; rw [e, z] at this; simp at this, fun c hc => .inr (.inr (word_sign hp c hc))⟩
  have nm : ∀ n : Int, -99 ≤ n → n ≤ 99 → tl (numT n) ≠ [] ∧ ∀ c ∈ tl (numT n), c = 45 ∨ (48 ≤ c ∧ c ≤ 57) ∨ (97 ≤ c ∧ c ≤ 122) := fun n h1 h2 => ⟨fun z => by
    have := (int_of h1 h2).2.1
    have e : numT n = ⟨#[]⟩ := str_ext (by rw [z])
    rw [e] at this
    revert this
    decide +kernel, fun c hc => by rcases num_sign h1 h2 c hc with h | h; exact .inl h; exact .inr (.inl h)⟩
  have two : ∀ {a b : Str} {Pp : Str → Prop}, Pp a → Pp b → ∀ y ∈ [a, b], Pp y := fun {a b Pp} h1 h2 y hy => by
    rcases List.mem_cons.mp hy with e | hy
    · rw [e]; exact h1
    · rw [List.mem_singleton.mp hy]; exact h2
  have one : ∀ {a : Str} {Pp : Str → Prop}, Pp a → ∀ y ∈ [a], Pp y := fun {a Pp} h1 y hy => by rw [List.mem_singleton.mp hy]; exact h1
  cases s with
  | say => exact one (wd _ (kw _ (by simp)))
  | hear => exact one (wd _ (kw _ (by simp)))
  | fin => exact one (wd _ (kw _ (by simp)))
  | plus n => exact two (wd _ (kw _ (by simp))) (nm n h.1 h.2)
  | times n => exact two (wd _ (kw _ (by simp))) (nm n h.1 h.2)
  | turn n => exact two (wd _ (kw _ (by simp))) (nm n h.1 h.2)
  | ask x => exact two (wd _ (kw _ (by simp))) (wd x h)
  | odd x => exact two (wd _ (kw _ (by simp))) (wd x h)
theorem split_step {s : Stp} (h : s.ok) : Txt.split (stepT s) " " = s.parts := by
  refine split_join (s := 32) (S := []) (by decide +kernel) (by decide +kernel) (by cases s <;> simp [Stp.parts]) fun p hp hc => ?_
  have := (parts_sign h p hp).2 32 hc
  omega
/-- a step's text with blanks around -/
def PadS (p : Str) (s : Stp) : Prop := ∃ a b, a ≤ 10 ∧ b ≤ 10 ∧ tl p = List.replicate a 32 ++ tl (stepT s) ++ List.replicate b 32
theorem step_ends {s : Stp} (h : s.ok) : ∃ y l m z, tl (stepT s) = y :: l ∧ y ≠ 32 ∧ tl (stepT s) = m ++ [z] ∧ z ≠ 32 := by
  have key : ∀ p : Str, tl p ≠ [] → (∀ c ∈ tl p, c = 45 ∨ (48 ≤ c ∧ c ≤ 57) ∨ (97 ≤ c ∧ c ≤ 122)) → ∃ y l m z, tl p = y :: l ∧ y ≠ 32 ∧ tl p = m ++ [z] ∧ z ≠ 32 := fun p ne k => by
    obtain ⟨m, z, e⟩ : ∃ m z, tl p = m ++ [z] := ⟨_, _, (List.dropLast_concat_getLast ne).symm⟩
    cases hp : tl p with
    | nil => exact absurd hp ne
    | cons y l =>
      refine ⟨y, l, m, z, rfl, fun q => ?_, by rw [← hp]; exact e, fun q => ?_⟩
      · have := k y (by rw [hp]; exact List.mem_cons_self ..); omega
      · have := k z (by rw [e]; exact List.mem_append_right _ (List.mem_singleton.mpr rfl)); omega
  have ps := parts_sign h
  have j1 : ∀ a : Str, s.parts = [a] → tl (stepT s) = tl a := fun a e => by
    unfold stepT; rw [e, join_eq, tl_join]; rfl
  have j2 : ∀ a c : Str, s.parts = [a, c] → tl (stepT s) = tl a ++ [32] ++ tl c := fun a c e => by
    unfold stepT; rw [e, join_eq, tl_join]
    show tl a ++ (tl (" " : Str) ++ tl c) = _
    rw [show tl (" " : Str) = [32] from by decide +kernel, List.append_assoc]
  have two : ∀ a c : Str, s.parts = [a, c] → ∃ y l m z, tl (stepT s) = y :: l ∧ y ≠ 32 ∧ tl (stepT s) = m ++ [z] ∧ z ≠ 32 := fun a c e => by
    obtain ⟨y, l, _, _, h1, h2, _, _⟩ := key a (ps a (by rw [e]; simp)).1 (ps a (by rw [e]; simp)).2
    obtain ⟨_, _, m, z, _, _, h3, h4⟩ := key c (ps c (by rw [e]; simp)).1 (ps c (by rw [e]; simp)).2
    refine ⟨y, l ++ [32] ++ tl c, tl a ++ [32] ++ m, z, by rw [j2 a c e, h1]; rfl, h2, by rw [j2 a c e, h3]; simp [List.append_assoc], h4⟩
  have one : ∀ a : Str, s.parts = [a] → ∃ y l m z, tl (stepT s) = y :: l ∧ y ≠ 32 ∧ tl (stepT s) = m ++ [z] ∧ z ≠ 32 := fun a e => by
    rw [j1 a e]; exact key a (ps a (by rw [e]; simp)).1 (ps a (by rw [e]; simp)).2
  cases s with
  | say => exact one _ rfl
  | hear => exact one _ rfl
  | fin => exact one _ rfl
  | plus n => exact two _ _ rfl
  | times n => exact two _ _ rfl
  | turn n => exact two _ _ rfl
  | ask x => exact two _ _ rfl
  | odd x => exact two _ _ rfl
theorem PadS.strip {p : Str} {s : Stp} (h : PadS p s) (ok : s.ok) : Txt.stripChars p " " = stepT s := let ⟨_, _, _, _, e⟩ := h; strip_mid e (.inr (step_ends ok))
theorem stepT_sign {s : Stp} (h : s.ok) : ∀ c ∈ tl (stepT s), c = 32 ∨ c = 45 ∨ (48 ≤ c ∧ c ≤ 57) ∨ (97 ≤ c ∧ c ≤ 122) := by
  have ps := parts_sign h
  have one : ∀ a : Str, s.parts = [a] → ∀ c ∈ tl (stepT s), c = 32 ∨ c = 45 ∨ (48 ≤ c ∧ c ≤ 57) ∨ (97 ≤ c ∧ c ≤ 122) := fun a e c hc => by
    have : tl (stepT s) = tl a := by unfold stepT; rw [e, join_eq, tl_join]; rfl
    rw [this] at hc
    exact .inr ((ps a (by rw [e]; simp)).2 c hc)
  have two : ∀ a d : Str, s.parts = [a, d] → ∀ c ∈ tl (stepT s), c = 32 ∨ c = 45 ∨ (48 ≤ c ∧ c ≤ 57) ∨ (97 ≤ c ∧ c ≤ 122) := fun a d e c hc => by
    have : tl (stepT s) = tl a ++ (tl (" " : Str) ++ tl d) := by unfold stepT; rw [e, join_eq, tl_join]; rfl
    rw [this, show tl (" " : Str) = [32] from by decide +kernel] at hc
    rcases List.mem_append.mp hc with hc | hc
    · exact .inr ((ps a (by rw [e]; simp)).2 c hc)
    · rcases List.mem_append.mp hc with hc | hc
      · exact .inl (List.mem_singleton.mp hc)
      · exact .inr ((ps d (by rw [e]; simp)).2 c hc)
  cases s with
  | say => exact one _ rfl
  | hear => exact one _ rfl
  | fin => exact one _ rfl
  | plus n => exact two _ _ rfl
  | times n => exact two _ _ rfl
  | turn n => exact two _ _ rfl
  | ask x => exact two _ _ rfl
  | odd x => exact two _ _ rfl
theorem PadS.sign {p : Str} {s : Stp} (h : PadS p s) (ok : s.ok) : ∀ c ∈ tl p, c = 32 ∨ c = 45 ∨ (48 ≤ c ∧ c ≤ 57) ∨ (97 ≤ c ∧ c ≤ 122) := fun c hc => by
  obtain ⟨a, b, _, _, e⟩ := h
  rw [e] at hc
  rcases List.mem_append.mp hc with hc | hc
  · rcases List.mem_append.mp hc with hc | hc
    · exact .inl (List.mem_replicate.mp hc).2
    · exact stepT_sign ok c hc
  · exact .inl (List.mem_replicate.mp hc).2
theorem split_body {ps : List Str} {ss : Body} (h : Paired PadS ps ss) (ok : ∀ s ∈ ss, s.ok) (ne : ss ≠ []) : Txt.split (Txt.join ";" ps) ";" = ps := by
  refine split_join (s := 59) (S := []) (by decide +kernel) (by decide +kernel) (fun z => ne (by have := h.length; rw [z] at this; exact List.length_eq_zero_iff.mp this.symm)) fun p hp hc => ?_
  obtain ⟨s, hs, hps⟩ := paired_mem h hp
  have := hps.sign (ok s hs) 59 hc
  omega
section
variable {P : Program} {w : World} {K : PySem.W.Frag} {mg : Str → Option Value} {base : Heap}
/-- all(.. for sign in a text) -/
theorem allG_str {Pt : Addr} {j : Nat} {N : List Str} {x : Str} {g : TG} {te : TE} {σ : L2.St} {H : Hp} {Q : VK} (h1 : σ[j]? = some (some (.str x))) (hP : H Pt = some (tabH Pt)) (hs : ∀ c ∈ x.cps.toList, g (.str ⟨#[c]⟩) (noSt N) H fun σ2 H2 => te σ2 H2 fun y H3 => ∃ b, y = .bl b ∧ if b = true then H3 = H else Q (.bl false) H3) (hd : Q (.bl true) H) :
    tAllG Pt (iStr (tVar j)) g te N σ H Q := by
  refine ⟨_, h1, _, rfl, hP, all_by (J := Its x) (fun _ H' => H' = H) x.cps.size rfl (fun i H' hi e => ⟨hi, ?_⟩) (fun H' e => ⟨Nat.le_refl _, by rw [e]; exact hd⟩)⟩
  subst e
  rintro y H2 ⟨rfl, c, hc, rfl⟩
  exact hs c (by rw [← Array.getElem?_toList] at hc; exact List.mem_of_getElem? hc)
/-! ### read_number -/
def spReadNum (Pn : Addr) : Sp := fun vs H Q _ => ∃ n : Int, vs = [.str (numT n)] ∧ -99 ≤ n ∧ n ≤ 99 ∧ H Pn = some (tabH Pn) ∧ Q (.int n) H
theorem ok_read_number {f c Pn bm : Addr} {fd : FuncData} {ob : Obj} {t8 : Tok} (F : FunG K "read_number" "read_number" s_read_number f fd c Pn) (b : ∀ x ∈ blts, mg x = none) (hB : BMod base mainGlobals mg bm ob) (g_MOST_FIGURES : mg "MOST_FIGURES" = some (.int 2 t8)) :
    FnOk P w K mg base CX0 10 f fd ["text"] (spReadNum Pn) := by
  refine F.ok sc_read_number (fun vs H Q E h => ?_) (fun A outer s H vs Q E hr h => ?_)
  · obtain ⟨i, rfl, _⟩ := h; rfl
  · obtain ⟨n, rfl, lo, hi, hP, q⟩ := h
    obtain ⟨hint, l1, l2, dig⟩ := int_of lo hi
    have hl := numT_len lo hi
    refine ⟨_, (pss_cons (ps_set (i := 1) sc_read_number.nd rfl (by first | exact Or.inl rfl | exact Or.inr rfl) (pe_rmPre (pv 0) pe_str)) (pss_cons (ps_if (PW.pt (pw_or (pt_not (pt_chain op_le op_le pe_int (pe_callB call_len_str (by rfl) (b "len" (by decide +kernel)) (by decide +kernel) (pa_cons (pv 1) pa_nil)) (pe_glob (v := .int 2) (by rfl) g_MOST_FIGURES ⟨_, rfl⟩))) (pw_or1 (pt_not (pt_val (pe_allG (N := ["sign"]) rfl hr (by rfl) (b "all" (by decide +kernel)) rfl F.hd hB ⟨rfl, rfl, by decide +kernel, by decide +kernel, by decide +kernel, by decide +kernel⟩ (pi_str (pv 1)) (fun _ _ _ _ _ _ => (pg_name (i := 0) (show (["sign"] : List Str).Nodup from by decide +kernel) rfl (by first | exact Or.inl rfl | exact Or.inr rfl))) (fun _ _ _ _ _ _ hr => (pe_chain op_le_str op_le_str pe_str (pv 0) pe_str)))))))) (pss_one (ps_ret pe_non)) pss_nil) (pss_cons (ps_set (i := 2) sc_read_number.nd rfl (by first | exact Or.inl rfl | exact Or.inr rfl) (pe_callTy call_int_str (by rfl) (b "int" (by decide +kernel)) (by decide +kernel) (pa_cons (pv 0) pa_nil))) (pss_one (ps_ret (pe_ifExp (pt_cmpR op_eq (pe_callTy call_str_any (by rfl) (b "str" (by decide +kernel)) (by decide +kernel) (pa_cons (pv 2) pa_nil)) (pv 0) (nomark _)) (pv 2) pe_non)))))), ?_⟩
    refine ⟨_, rfl, ⟨_, rfl⟩, _, _, rfl, rfl, by rw [sizeLine_eq]; omega, ?_⟩
    generalize Txt.removeprefix (numT n) "-" = fg at l1 l2 dig
    have d1 : decide ((1 : Int) ≤ (fg.length : Int)) = true := decide_eq_true (by omega)
    have d2 : decide ((fg.length : Int) ≤ 2) = true := decide_eq_true (by omega)
    refine ⟨_, rfl, _, rfl, by rw [sizeLine_eq]; omega, _, _, rfl, rfl, _, rfl, ?_⟩
    rw [d1]
    refine iteT ⟨_, _, rfl, rfl, _, rfl, ?_⟩
    rw [d2]
    refine iteF ?_
    dsimp only [tNot, tB]
    refine allG_str rfl hP (fun c hc => ?_) ?_
    · have hl := List.all_eq_true.mp dig c hc
      simp only [Bool.and_eq_true, decide_eq_true_eq] at hl
      have e1 : (!decide ((⟨#[c]⟩ : Str).cps.toList < ("0" : Str).cps.toList)) = true := by
        show (!decide ([c] < [48])) = true
        simp only [Bool.not_eq_true', decide_eq_false_iff_not]
        intro z
        have z : [c] < [48] := z
        simp [List.cons_lt_cons_iff] at z
        omega
      have e2 : (!decide (("9" : Str).cps.toList < (⟨#[c]⟩ : Str).cps.toList)) = true := by
        show (!decide ([57] < [c])) = true
        simp only [Bool.not_eq_true', decide_eq_false_iff_not]
        intro z
        have z : [57] < [c] := z
        simp [List.cons_lt_cons_iff] at z
        omega
      refine ⟨_, rfl, _, _, rfl, rfl, _, rfl, ?_⟩
      rw [e1]
      refine iteT ⟨_, _, rfl, rfl, _, rfl, ?_⟩
      rw [e2]
      exact iteT rfl
    · refine ⟨_, rfl, iteF ?_⟩
      try dsimp only [tNext]
      refine ⟨_, rfl, _, n, rfl, hint, by omega, ?_⟩
      have hz : n.natAbs.log2 < 1920 := by
        have : n.natAbs ≤ 99 := by omega
        by_cases h0 : n.natAbs = 0
        · rw [h0]; decide
        · have := (Nat.log2_lt h0).mpr (show n.natAbs < 2 ^ 1920 from Nat.lt_of_le_of_lt this (by decide +kernel))
          exact this
      refine ⟨_, rfl, .inl ⟨n, rfl, hz, _, rfl, rfl, _, rfl, ?_⟩⟩
      rw [decide_eq_true (show V.str (Str.ofString (toString n)) = V.str (numT n) from rfl)]
      exact iteT ⟨_, rfl, q⟩
/-! ### read_step -/
def spReadStep (Pn : Addr) : Sp := fun vs H Q _ => ∃ s, vs = [.str (stepT s)] ∧ s.ok ∧ H Pn = some (tabH Pn) ∧ ∀ H' v, Same H H' → StepAt H' v s → Q v H'
theorem ok_read_step {f Pn a_NUMBER_STEPS : Addr} {fd : FuncData} (F : Fun K "read_step" "read_step" s_read_step f fd) (b : ∀ x ∈ blts, mg x = none) (g_NUMBER_STEPS : mg "NUMBER_STEPS" = some (.ref a_NUMBER_STEPS)) (q_NUMBER_STEPS : ∀ H, SqT K H a_NUMBER_STEPS [.str "plus", .str "times", .str "turn"]) (c_read_number : Cal P w K mg base "read_number" 10 ["text"] (spReadNum Pn)) : FnOk P w K mg base CX0 15 f fd ["text"] (spReadStep Pn) := by
  refine F.ok sc_read_step (fun vs H Q E h => ?_) (fun cdv A outer s H vs Q E hr h => ?_)
  · obtain ⟨s, rfl, _⟩ := h; rfl
  · obtain ⟨st, rfl, ok, hP, q⟩ := h
    refine ⟨_, (pss_cons (ps_set (i := 1) sc_read_step.nd rfl (by first | exact Or.inl rfl | exact Or.inr rfl) (pe_split (pv 0) pe_str)) (pss_cons (ps_if (PW.pt (pw_and (pt_cmpR op_eq (pe_callB call_len_seq (by rfl) (b "len" (by decide +kernel)) (by decide +kernel) (pa_cons (pv 1) pa_nil)) pe_int (nomark _)) (pw_and1 (pt_cmpR op_in_seq (pe_ix ix_list (pv 1) pe_int (fun _ _ => rfl)) (pe_glob (v := .ref a_NUMBER_STEPS) (by rfl) g_NUMBER_STEPS rfl) (by rfl))))) (pss_one (ps_ret (pe_tup (pa_cons (pe_ix ix_list (pv 1) pe_int (fun _ _ => rfl)) (pa_cons (pe_cal c_read_number (hr.mono (by decide)) (by rfl) (pa_cons (pe_ix ix_list (pv 1) pe_int (fun _ _ => rfl)) pa_nil)) pa_nil))))) pss_nil) (pss_one (ps_ret (pe_callTy call_tuple_of (by rfl) (b "tuple" (by decide +kernel)) (by decide +kernel) (pa_cons (pv 1) pa_nil)))))), ?_⟩
    have two2 : 2 ≤ sizeLine := by decide
    have hl := stepT_len ok
    refine ⟨_, rfl, ⟨_, rfl⟩, _, _, rfl, rfl, by decide +kernel, by rw [sizeLine_eq]; omega, fun p hp => ?_⟩
    rw [split_step ok]
    have x1 := same_upd (o := .lst (st.parts.map V.str)) hp
    have e1 := upd_same (H := H) (a := p) (o := .lst (st.parts.map V.str))
    generalize upd H p (.lst (st.parts.map V.str)) = H1 at x1 e1 ⊢
    have kind : (∃ k n, st.parts = [k, numT n] ∧ st.vals = [.str k, .int n] ∧ inV (.str k) [.str "plus", .str "times", .str "turn"] = true ∧ -99 ≤ n ∧ n ≤ 99) ∨ (∃ k, st.parts = [k] ∧ st.vals = [.str k]) ∨ (∃ k x, st.parts = [k, x] ∧ st.vals = [.str k, .str x] ∧ inV (.str k) [.str "plus", .str "times", .str "turn"] = false) := by
      cases st with
      | say => exact .inr (.inl ⟨_, rfl, rfl⟩)
      | hear => exact .inr (.inl ⟨_, rfl, rfl⟩)
      | fin => exact .inr (.inl ⟨_, rfl, rfl⟩)
      | plus n => exact .inl ⟨_, n, rfl, rfl, by decide +kernel, ok.1, ok.2⟩
      | times n => exact .inl ⟨_, n, rfl, rfl, by decide +kernel, ok.1, ok.2⟩
      | turn n => exact .inl ⟨_, n, rfl, rfl, by decide +kernel, ok.1, ok.2⟩
      | ask x => exact .inr (.inr ⟨_, x, rfl, rfl, by decide +kernel⟩)
      | odd x => exact .inr (.inr ⟨_, x, rfl, rfl, by decide +kernel⟩)
    refine ⟨_, rfl, p, _, rfl, .inl (SqL.of e1), rfl, _, rfl, ?_⟩
    rcases kind with ⟨k, n, hp1, hv, hin, lo, hi⟩ | ⟨k, hp1, hv⟩ | ⟨k, x, hp1, hv, hin⟩
    · rw [hp1] at e1 ⊢
      rw [show decide (V.int (([k, numT n].map V.str).length : Nat) = V.int 2) = true from decide_eq_true rfl]
      refine iteT ⟨_, rfl, p, _, _, _, rfl, rfl, SqL.of e1, atI_nat (j := 0) rfl, a_NUMBER_STEPS, _, rfl, .inr (q_NUMBER_STEPS _), rfl, rfl, _, rfl, ?_⟩
      refine (show (if inV (.str k) [.str "plus", .str "times", .str "turn"] = true then _ else _) from ?_)
      rw [hin]
      refine iteT ⟨_, rfl, p, _, _, _, rfl, rfl, SqL.of e1, atI_nat (j := 0) rfl, _, rfl, p, _, _, _, rfl, rfl, SqL.of e1, atI_nat (j := 1) rfl, n, rfl, lo, hi, x1 _ _ hP, two2, fun t ht => ?_⟩
      exact q _ _ (x1.trans (same_upd ht)) ⟨t, rfl, by rw [hv]; exact upd_same⟩
    · rw [hp1] at e1 ⊢
      rw [show decide (V.int (([k].map V.str).length : Nat) = V.int 2) = false from decide_eq_false (fun z => by have := V.int.inj z; revert this; show ¬ ((1 : Int) = 2); decide)]
      refine iteF ?_
      try dsimp only [tNext]
      exact ⟨_, rfl, p, _, rfl, .inl ⟨SqL.of e1, fun t ht => q _ _ (x1.trans (same_upd ht)) ⟨t, rfl, by rw [hv]; exact upd_same⟩⟩⟩
    · rw [hp1] at e1 ⊢
      rw [show decide (V.int (([k, x].map V.str).length : Nat) = V.int 2) = true from decide_eq_true rfl]
      refine iteT ⟨_, rfl, p, _, _, _, rfl, rfl, SqL.of e1, atI_nat (j := 0) rfl, a_NUMBER_STEPS, _, rfl, .inr (q_NUMBER_STEPS _), rfl, rfl, _, rfl, ?_⟩
      refine (show (if inV (.str k) [.str "plus", .str "times", .str "turn"] = true then _ else _) from ?_)
      rw [hin]
      refine iteF ?_
      try dsimp only [tNext]
      exact ⟨_, rfl, p, _, rfl, .inl ⟨SqL.of e1, fun t ht => q _ _ (x1.trans (same_upd ht)) ⟨t, rfl, by rw [hv]; exact upd_same⟩⟩⟩
/-! ### read_body -/
def BodyIn (x : Str) (ss : Body) : Prop := (ss = [] ∧ x = "") ∨ (ss ≠ [] ∧ tl x ≠ [] ∧ ∃ ps, x = Txt.join ";" ps ∧ Paired PadS ps ss)
def spReadBody (T : TB) (Pn : Addr) : Sp := fun vs H Q _ => ∃ x ss, vs = [.str x] ∧ BodyIn x ss ∧ BodyOk ss ∧ x.length ≤ 1000 ∧ T.on H ∧ H Pn = some (tabH Pn) ∧ ∀ H' D, Same H H' → H D = none → BodyAt H' D ss → Q (.ref D) H'
theorem ok_read_body {f Pn : Addr} {fd : FuncData} {T : TB} (F : Fun K "read_body" "read_body" s_read_body f fd) (b : ∀ x ∈ blts, mg x = none) (c_read_step : Cal P w K mg base "read_step" 15 ["text"] (spReadStep Pn)) (c_is_body : Cal P w K mg base "is_body" 30 ["thing"] (spBody T.w T.b)) : FnOk P w K mg base CX0 35 f fd ["text"] (spReadBody T Pn) := by
  refine F.ok sc_read_body (fun vs H Q E h => ?_) (fun cdv A outer s H vs Q E hr h => ?_)
  · obtain ⟨x, ss, rfl, _⟩ := h; rfl
  · obtain ⟨x, ss, rfl, hx, ok, hl, hT, hPn, q⟩ := h
    refine ⟨_, (pss_cons (ps_if (pt_cmpR op_eq (pv 0) pe_str (nomark _)) (pss_one (ps_ret (pe_lst pa_nil))) pss_nil) (pss_cons (ps_setLc (i := 1) (own := [("step", 2)]) rfl sc_read_body.nd rfl rfl (sw_true rfl rfl rfl (by decide +kernel)) (pi_list (pe_split (pv 0) pe_str)) (blkOk_by (own := [("step", 2)]) (N := N_read_body) (sc := defScope s_read_body) (by decide +kernel)) (fun _ _ _ _ _ => (pg_name (i := 2) sc_read_body.nd rfl (by first | exact Or.inl rfl | exact Or.inr rfl))) (fun _ _ _ _ _ => pts_nil) (fun _ _ _ _ _ => (pe_cal c_read_step (hr.mono (by decide)) (by rfl) (pa_cons (pe_stripC (pv 2) pe_str) pa_nil)))) (pss_cons (ps_if (pt_not (pt_val (pe_cal c_is_body (hr.mono (by decide)) (by rfl) (pa_cons (pv 1) pa_nil)))) (pss_one ps_never) pss_nil) (pss_one (ps_ret (pv 1)))))), ?_⟩
    have zero : 0 ≤ sizeLine := Nat.zero_le _
    refine ⟨_, rfl, rfl, _, rfl, ?_⟩
    rcases hx with ⟨rfl, rfl⟩ | ⟨ne, nx, ps, rfl, hP⟩
    · rw [show decide (V.str ("" : Str) = V.str "") = true from by decide +kernel]
      exact iteT ⟨zero, fun D hD => q _ D (same_upd hD) hD ⟨[], upd_same, .nil⟩⟩
    · rw [decide_eq_false (show ¬ V.str (Txt.join ";" ps) = V.str "" from fun z => nx (by rw [V.str.inj z]; rfl))]
      refine iteF ?_
      try dsimp only [tNext]
      refine ⟨_, rfl, ⟨_, rfl⟩, _, _, rfl, rfl, by decide +kernel, by rw [sizeLine_eq]; omega, fun p hp => ?_⟩
      rw [split_body hP ok.2 ne]
      have x1 := same_upd (o := .lst (ps.map V.str)) hp
      have e1 := upd_same (H := H) (a := p) (o := .lst (ps.map V.str))
      generalize upd H p (.lst (ps.map V.str)) = H1 at x1 e1 ⊢
      have lps := hP.length
      have few := ok.1
      refine ⟨p, rfl, ⟨_, SqL.of e1⟩, ?_⟩
      refine lc_by (fun D i Hc => Same H1 Hc ∧ ∃ vs, Hc D = some (.lst vs) ∧ Paired (StepAt Hc) vs (ss.take i)) (fun D hD => ⟨same_upd hD, [], upd_same, .nil⟩) (fun D i Hc _ h => SqL.of (h.1 _ _ e1)) (fun D i y Hc hD hy ⟨sc, vs, hDc, hPv⟩ => ?_) (fun D Hc hD ⟨sc, vs, hDc, hPv⟩ => ?_)
      · rw [List.getElem?_map] at hy
        obtain ⟨pt, hpt, rfl⟩ := Option.map_eq_some_iff.mp hy
        obtain ⟨st, hst, pad⟩ := paired_at hP hpt
        have oks := ok.2 st (List.mem_of_getElem? hst)
        obtain ⟨a1, b1, ha1, hb1, ep⟩ := id pad
        have lp : pt.length ≤ 100 := by
          show (tl pt).length ≤ 100
          rw [ep]
          have := stepT_len oks
          have e : (stepT st).length = (tl (stepT st)).length := rfl
          rw [List.length_append, List.length_append, List.length_replicate, List.length_replicate]
          omega
        refine ⟨rfl, ?_⟩
        dsimp only [tYes]
        refine iteT ⟨_, rfl, ⟨_, rfl⟩, _, _, rfl, rfl, by rw [sizeLine_eq]; omega, ?_⟩
        rw [pad.strip oks]
        refine ⟨st, rfl, oks, (x1.trans sc) _ _ hPn, fun H2 v2 s2 h2 => ?_⟩
        have hD2 := s2 _ _ hDc
        have lv := hPv.length
        rw [List.length_take] at lv
        have nt : ∀ xs, H2 D ≠ some (.tup xs) := fun xs y => by rw [hD2] at y; cases y
        have up : ∀ {v : V} {s : Stp} {o : HO}, StepAt H2 v s → StepAt (upd H2 D o) v s := fun {v s o} ⟨t, e, h⟩ => ⟨t, e, by rw [upd_ne (fun z => nt _ (by rw [← z]; exact h))]; exact h⟩
        refine ⟨vs, hD2, by rw [sizeLine_eq]; omega, fun b o z => ?_, _, upd_same, ?_⟩
        · rw [upd_ne (ne_of_none z hD)]; exact s2 _ _ (sc _ _ z)
        · rw [List.take_succ, hst]
          exact paired_snoc (up h2) (L2.Paired.mapP hPv fun _ _ z => up (StepAt.same z s2))
      · rw [List.length_map, lps, List.take_length] at hPv
        have s0 := x1.trans sc
        refine ⟨_, rfl, D, ss, rfl, ⟨vs, hDc, hPv⟩, ok, s0 _ _ hT.1, s0 _ _ hT.2.1, fun H2 s2 => ⟨_, rfl, iteF ?_⟩⟩
        try dsimp only [tNext]
        exact ⟨_, rfl, q _ D (s0.trans s2) (x1.free hD) (BodyAt.same ⟨vs, hDc, hPv⟩ s2)⟩
/-! ### tells_nothing -/
def nothingT (x : Str) : Bool := decide (x = "") || Txt.startswith x "--"
def spTells : Sp := fun vs H Q _ => ∃ x, vs = [.str x] ∧ Q (.bl (nothingT x)) H
theorem ok_tells_nothing {f : Addr} {fd : FuncData} (F : Fun K "tells_nothing" "tells_nothing" s_tells_nothing f fd) : FnOk P w K mg base CX0 5 f fd ["row"] spTells := by
  refine F.ok sc_tells_nothing (fun vs H Q E h => ?_) (fun cdv A outer s H vs Q E hr h => ?_)
  · obtain ⟨x, rfl, _⟩ := h; rfl
  · obtain ⟨x, rfl, q⟩ := h
    refine ⟨_, (pss_one (ps_ret (pe_or (pe_cmpR op_eq (pv 0) pe_str (nomark _)) (pe_one (pe_startsW (pv 0) pe_str))))), ?_⟩
    unfold nothingT at q
    refine ⟨_, rfl, rfl, _, rfl, ?_⟩
    by_cases hx : x = ""
    · rw [decide_eq_true (show V.str x = V.str "" from by rw [hx])]
      rw [decide_eq_true hx, Bool.true_or] at q
      exact iteT q
    · rw [decide_eq_false (show ¬ V.str x = V.str "" from fun z => hx (V.str.inj z))]
      rw [decide_eq_false hx, Bool.false_or] at q
      exact iteF ⟨_, rfl, ⟨_, rfl⟩, _, _, rfl, rfl, q⟩
/-! ### read_row -/
def Pads (p x : Str) : Prop := ∃ a b, a ≤ 20 ∧ b ≤ 20 ∧ tl p = List.replicate a 32 ++ tl x ++ List.replicate b 32
structure RowIn (row w : Str) (ss : Body) : Prop where
  ex : ∃ l r x, row = Txt.join ":" [l, r] ∧ Pads l w ∧ Pads r x ∧ BodyIn x ss ∧ (tl x = [] ∨ ∃ y k m z, tl x = y :: k ∧ y ≠ 32 ∧ tl x = m ++ [z] ∧ z ≠ 32) ∧ x.length ≤ 500 ∧ 58 ∉ tl l ∧ 58 ∉ tl r
  word : WordOk w
  body : BodyOk ss
theorem Pads.len {p x : Str} (h : Pads p x) : p.length ≤ x.length + 40 := by
  obtain ⟨a, b, h1, h2, e⟩ := h
  show (tl p).length ≤ (tl x).length + 40
  rw [e, List.length_append, List.length_append, List.length_replicate, List.length_replicate]
  omega
theorem word_ends {x : Str} (h : WordOk x) : ∃ y k m z, tl x = y :: k ∧ y ≠ 32 ∧ tl x = m ++ [z] ∧ z ≠ 32 := by
  have ne : tl x ≠ [] := fun z => by have := h.1; have e : x.length = (tl x).length := rfl; rw [e, z] at this; simp at this
  obtain ⟨m, z, e⟩ : ∃ m z, tl x = m ++ [z] := ⟨_, _, (List.dropLast_concat_getLast ne).symm⟩
  cases hp : tl x with
  | nil => exact absurd hp ne
  | cons y l =>
    refine ⟨y, l, m, z, rfl, fun q => ?_, by rw [← hp]; exact e, fun q => ?_⟩
    · have := word_sign h y (by rw [hp]; exact List.mem_cons_self ..); omega
    · have := word_sign h z (by rw [e]; exact List.mem_append_right _ (List.mem_singleton.mpr rfl)); omega
def spReadRow (T : TB) (Pn : Addr) : Sp := fun vs H Q _ => ∃ row w ss, vs = [.str row] ∧ RowIn row w ss ∧ T.on H ∧ H Pn = some (tabH Pn) ∧ ∀ H' t D, Same H H' → H' t = some (.tup [.str w, .ref D]) → H D = none → BodyAt H' D ss → Q (.ref t) H'
theorem ok_read_row {f Pn : Addr} {fd : FuncData} {T : TB} (F : Fun K "read_row" "read_row" s_read_row f fd) (b : ∀ x ∈ blts, mg x = none) (c_is_word : Cal P w K mg base "is_word" 10 ["thing"] (spWord T.w)) (c_read_body : Cal P w K mg base "read_body" 35 ["text"] (spReadBody T Pn)) : FnOk P w K mg base CX0 40 f fd ["row"] (spReadRow T Pn) := by
  refine F.ok sc_read_row (fun vs H Q E h => ?_) (fun cdv A outer s H vs Q E hr h => ?_)
  · obtain ⟨row, w, ss, rfl, _⟩ := h; rfl
  · obtain ⟨row, wd, ss, rfl, hR, hT, hPn, q⟩ := h
    obtain ⟨l, r, x, rfl, hl, hr', hx, xe, xl, nl, nr⟩ := hR.ex
    refine ⟨_, (pss_cons (ps_set (i := 1) sc_read_row.nd rfl (by first | exact Or.inl rfl | exact Or.inr rfl) (pe_split (pv 0) pe_str)) (pss_cons (ps_if (pt_cmpR op_ne (pe_callB call_len_seq (by rfl) (b "len" (by decide +kernel)) (by decide +kernel) (pa_cons (pv 1) pa_nil)) pe_int (nomark _)) (pss_one ps_never) pss_nil) (pss_cons (ps_set (i := 2) sc_read_row.nd rfl (by first | exact Or.inl rfl | exact Or.inr rfl) (pe_stripC (pe_ix ix_list (pv 1) pe_int (fun _ _ => rfl)) pe_str)) (pss_cons (ps_if (pt_not (pt_val (pe_cal c_is_word (hr.mono (by decide)) (by rfl) (pa_cons (pv 2) pa_nil)))) (pss_one ps_never) pss_nil) (pss_one (ps_ret (pe_tup (pa_cons (pv 2) (pa_cons (pe_cal c_read_body (hr.mono (by decide)) (by rfl) (pa_cons (pe_stripC (pe_ix ix_list (pv 1) pe_int (fun _ _ => rfl)) pe_str) pa_nil)) pa_nil))))))))), ?_⟩
    have two2 : 2 ≤ sizeLine := by decide
    have ll := hl.len
    have lr := hr'.len
    have lw := hR.word.2.1
    have jl : (Txt.join ":" [l, r]).length ≤ 1000 := by
      show (tl (Txt.join ":" [l, r])).length ≤ 1000
      rw [join_eq, tl_join]
      show (tl l ++ (tl (":" : Str) ++ tl r)).length ≤ 1000
      rw [List.length_append, List.length_append, show tl (":" : Str) = [58] from by decide +kernel]
      have e1 : l.length = (tl l).length := rfl
      have e2 : r.length = (tl r).length := rfl
      show _ + (1 + _) ≤ _
      omega
    have sp : Txt.split (Txt.join ":" [l, r]) ":" = [l, r] := split_join (s := 58) (S := []) (by decide +kernel) (by decide +kernel) (by simp) fun p hp hc => by
      rcases List.mem_cons.mp hp with rfl | hp
      · exact nl hc
      · rw [List.mem_singleton.mp hp] at hc; exact nr hc
    refine ⟨_, rfl, ⟨_, rfl⟩, _, _, rfl, rfl, by decide +kernel, by rw [sizeLine_eq]; omega, fun p hp => ?_⟩
    rw [sp]
    have x1 := same_upd (o := .lst [.str l, .str r]) hp
    have e1 := upd_same (H := H) (a := p) (o := .lst [.str l, .str r])
    refine (show (fun (Hz : Hp) => _) (upd H p (.lst [.str l, .str r])) from ?_)
    generalize upd H p (.lst [.str l, .str r]) = H1 at x1 e1 ⊢
    refine ⟨_, rfl, p, _, rfl, .inl (SqL.of e1), rfl, _, rfl, iteF ?_⟩
    try dsimp only [tNext]
    refine ⟨_, rfl, p, _, _, _, rfl, rfl, SqL.of e1, atI_nat (j := 0) rfl, ⟨_, rfl⟩, _, _, rfl, rfl, by rw [sizeLine_eq]; omega, ?_⟩
    have hw : Txt.stripChars l " " = wd := let ⟨_, _, _, _, e⟩ := hl; strip_mid e (.inr (word_ends hR.word))
    rw [hw]
    refine ⟨_, rfl, wd, rfl, hR.word, x1 _ _ hT.1, _, rfl, iteF ?_⟩
    try dsimp only [tNext]
    have hb : Txt.stripChars r " " = x := let ⟨_, _, _, _, e⟩ := hr'; strip_mid e xe
    refine ⟨_, rfl, _, rfl, p, _, _, _, rfl, rfl, SqL.of e1, atI_nat (j := 1) rfl, ⟨_, rfl⟩, _, _, rfl, rfl, by rw [sizeLine_eq]; omega, ?_⟩
    rw [hb]
    refine ⟨x, ss, rfl, hx, hR.body, by omega, hT.same x1, x1 _ _ hPn, fun H2 D s2 nD hB => ⟨two2, fun t ht => ?_⟩⟩
    exact q _ t D (x1.trans (s2.trans (same_upd ht))) upd_same (x1.free nD) (hB.same (same_upd ht))
end
end MG

set_option Elab.async false
set_option linter.all false
set_option maxRecDepth 100000
namespace MG
open PySem PySem.Spec PyProof.Rows L2
/-! ### many things laid at once -/
def lays (H : Hp) (L : List (Addr × HO)) : Hp := L.foldl (fun H e => upd H e.1 e.2) H
section
variable {X : Cx} {pins : List (Addr × Obj)} {σ : L2.St} {H : Hp} {s : Shared} {h' : Heap}
/-! ### list(d.items()) -/
end
end MG

set_option Elab.async false
set_option linter.all false
set_option maxRecDepth 100000
set_option maxHeartbeats 1000000
namespace MG
open PySem PySem.Spec PyProof.Rows L2
/-! ### changes -/
structure BuiltC (H0 : Hp) (D : Addr) (H : Hp) (cs : List Cha) : Prop where
  same : Same H0 H
  fresh : H0 D = none
  here : ChgAt H D cs
  new : ∀ e ∈ cs, ∀ b ss, e.2 = some (b, ss) → H0 b = none ∧ b ≠ D
  nd : (cs.filterMap fun e => e.2.map (·.1)).Nodup
theorem BuiltC.start {H0 : Hp} {D : Addr} (h : H0 D = none) : BuiltC H0 D (upd H0 D (.lst [])) [] := ⟨same_upd h, h, ⟨[], upd_same, .nil⟩, by simp, List.nodup_nil⟩
theorem BuiltC.grow {H0 H H' : Hp} {D : Addr} {cs : List Cha} (h : BuiltC H0 D H cs) (k : Same H H') : BuiltC H0 D H' cs := ⟨h.same.trans k, h.fresh, h.here.same k, h.new, h.nd⟩
theorem BuiltC.weaken {H0 H1 H : Hp} {D : Addr} {cs : List Cha} (h : BuiltC H1 D H cs) (k : Same H0 H1) : BuiltC H0 D H cs := ⟨k.trans h.same, k.free h.fresh, h.here, fun e he b ss z => ⟨k.free (h.new e he b ss z).1, (h.new e he b ss z).2⟩, h.nd⟩
theorem BuiltC.push {H0 H H1 : Hp} {D p : Addr} {cs : List Cha} {e : Cha} {vs : List V} (h : BuiltC H0 D H cs) (hv : H D = some (.lst vs)) (k : Same H H1) (hb : ∀ b ss, e.2 = some (b, ss) → H b = none ∧ BodyAt H1 b ss) (hp : H1 p = none) :
    BuiltC H0 D (upd (upd H1 p (.tup [.str e.1, chaV e.2])) D (.lst (vs ++ [.ref p]))) (cs ++ [e]) := by
  have s1 : Same H (upd H1 p (.tup [.str e.1, chaV e.2])) := k.trans (same_upd hp)
  have hD2 := s1 _ _ hv
  have Ls : Lists [D] (upd H1 p (.tup [.str e.1, chaV e.2])) := fun a ha => by rw [List.mem_singleton.mp ha]; exact ⟨_, hD2⟩
  have B := But.upd (H := upd H1 p (.tup [.str e.1, chaV e.2])) (a := D) (o := .lst (vs ++ [.ref p]))
  have hpb : upd H1 p (.tup [.str e.1, chaV e.2]) p = some (.tup [.str e.1, chaV e.2]) := upd_same
  have nD : ∀ b ss, e.2 = some (b, ss) → b ≠ D := fun b ss z q => by
    have := (hb b ss z).1
    rw [q, hv] at this; cases this
  refine ⟨fun b u e => ?_, h.fresh, ⟨_, upd_same, ?_⟩, ?_, ?_⟩
  · have e1 := s1 _ _ (h.same b u e)
    exact B _ _ (by simpa using ne_of_none e h.fresh) e1
  · obtain ⟨us, hu, hP⟩ := h.here
    rw [hv] at hu
    cases hu
    refine paired_snoc ⟨p, rfl, tup_but hpb Ls B, fun b ss z => ((hb b ss z).2.same (same_upd hp)).but Ls B (by simpa using nD b ss z)⟩ (paired_imp hP fun v e he q => (q.same s1).but Ls B fun b ss z => ?_)
    simpa using (h.new e he b ss z).2
  · intro c hc b ss z
    rcases List.mem_append.mp hc with hc | hc
    · exact h.new c hc b ss z
    · rw [List.mem_singleton.mp hc] at z
      exact ⟨h.same.free (hb b ss z).1, nD b ss z⟩
  · rw [List.filterMap_append, List.nodup_append]
    refine ⟨h.nd, ?_, fun a ha a' ha' => ?_⟩
    · cases e2 : e.2 with
      | none => simp [e2]
      | some b => simp [e2]
    · cases e2 : e.2 with
      | none => simp [e2] at ha'
      | some b =>
        have ha' : a' = b.1 := by simpa [e2] using ha'
        obtain ⟨c, hc, ec⟩ := List.mem_filterMap.mp ha
        obtain ⟨⟨b', ss'⟩, e3, e4⟩ := Option.map_eq_some_iff.mp ec
        have e4 : b' = a := e4
        obtain ⟨us, hu, hP⟩ := h.here
        obtain ⟨v, _, t, _, _, q⟩ := paired_memR hP hc
        obtain ⟨ws, hw, _⟩ := q b' ss' e3
        intro z
        have := (hb b.1 b.2 e2).1
        rw [← ha', ← z, ← e4, hw] at this
        cases this
end MG

set_option Elab.async false
set_option linter.all false
set_option maxRecDepth 100000
namespace MG
open PySem PySem.Spec PyProof.Rows L2
section
variable {X : Cx}
end
end MG

set_option Elab.async false
set_option linter.all false
set_option maxRecDepth 100000
set_option maxHeartbeats 1000000
namespace MG
open PySem PySem.Spec PyProof.Rows L2
/-! ### a dict of bodies by their words, in its own turn -/
def kvE (e : Ent) : Key × V := (Sum.inr e.1, V.ref e.2.1)
structure DicM (H : Hp) (d : Addr) (fs : List Ent) : Prop where
  at_ : H d = some (.dK (fs.map kvE))
  nd : (fs.map (·.1)).Nodup
  bo : ∀ e ∈ fs, BodyAt H e.2.1 e.2.2
theorem DicM.same {H H' : Hp} {d : Addr} {fs : List Ent} (h : DicM H d fs) (k : Same H H') : DicM H' d fs := ⟨k _ _ h.at_, h.nd, fun e he => (h.bo e he).same k⟩
theorem val_kvE {x : Str} : ∀ (fs : List Ent), valV (fs.map kvE) (Sum.inr x) = (bodyOf fs x).map fun b => V.ref b.1
  | [] => rfl
  | e :: r => by
    rw [List.map_cons]
    by_cases h : e.1 = x
    · rw [valV_pos (by show Sum.inr e.1 = _; rw [h])]
      unfold bodyOf
      rw [List.find?_cons_of_pos (by simpa using h)]; rfl
    · rw [valV_neg (fun z => h (Sum.inr.inj z)), val_kvE r]
      unfold bodyOf
      rw [List.find?_cons_of_neg (by simpa using h)]
theorem dOf_fold : ∀ (ps acc : List Ent), ((acc ++ ps).map (·.1)).Nodup → (ps.map entP).foldl putS (acc.map kvE) = (acc ++ ps).map kvE
  | [], acc, _ => by rw [List.append_nil]; rfl
  | p :: ps, acc, h => by
    rw [List.map_cons, List.foldl_cons]
    have hn : p.1 ∉ acc.map (·.1) := by
      rw [List.map_append, List.nodup_append] at h
      intro m
      exact h.2.2 _ m p.1 (List.mem_map.mpr ⟨p, List.mem_cons_self .., rfl⟩) rfl
    have e : putS (acc.map kvE) (entP p) = (acc ++ [p]).map kvE := by
      show putK (acc.map kvE) (Sum.inr p.1) (.ref p.2.1) = _
      rw [putK_new _ (by rw [val_kvE]; cases e : bodyOf acc p.1 with
        | none => rfl
        | some b => exact absurd (List.mem_map.mpr ⟨_, bodyOf_some e, rfl⟩) hn), List.map_append]
      rfl
    rw [e, dOf_fold ps (acc ++ [p]) (by rw [List.append_assoc]; exact h), List.append_assoc]
    rfl
theorem dOf_nd {fs : List Ent} (h : (fs.map (·.1)).Nodup) : dOf (fs.map entP) = fs.map kvE := dOf_fold fs [] h
theorem sb_words {fs es : List Ent} (h : fs.map entSB = es.map entSB) : fs.map (·.1) = es.map (·.1) := by
  have e : ∀ l : List Ent, l.map (·.1) = (l.map entSB).map (·.1) := fun l => by rw [List.map_map]; rfl
  rw [e, e, h]
theorem DicAt.m {H : Hp} {d : Addr} {es : List Ent} (h : DicAt H d es) (nd : (es.map (·.1)).Nodup) : ∃ fs, DicM H d fs ∧ fs.map entSB = es.map entSB := by
  obtain ⟨fs, h1, h2, h3⟩ := h
  have nd' : (fs.map (·.1)).Nodup := by rw [sb_words h2]; exact nd
  exact ⟨fs, ⟨by rw [h1, dOf_nd nd'], nd', h3⟩, h2⟩
theorem DicM.at {H : Hp} {d : Addr} {fs : List Ent} (h : DicM H d fs) : DicAt H d fs := ⟨fs, by rw [dOf_nd h.nd]; exact h.at_, rfl, h.bo⟩
/-! ### changes, one by one -/
def putE : List Ent → Str → Addr × Body → List Ent
  | [], x, b => [(x, b)]
  | e :: r, x, b => if e.1 = x then (x, b) :: r else e :: putE r x b
theorem putK_hd {k : Key} {v v0 : V} {r : List (Key × V)} (h : ∀ e ∈ r, e.1 ≠ k) : putK ((k, v0) :: r) k v = (k, v) :: r := by
  unfold putK
  rw [if_pos (by simp)]
  rw [List.map_cons, if_pos (by simp)]
  congr 1
  refine (List.map_congr_left fun e he => ?_).trans (List.map_id r)
  rw [if_neg (by simpa using h e he)]; rfl
theorem putK_tl {e : Key × V} {k : Key} {v : V} {r : List (Key × V)} (h : e.1 ≠ k) : putK (e :: r) k v = e :: putK r k v := by
  have hb : ∀ p : Key × V → Bool, p e = false → (e :: r).any p = r.any p := fun p hp => by rw [List.any_cons, hp, Bool.false_or]
  unfold putK
  rw [hb _ (by simpa using h)]
  split
  · rw [List.map_cons, if_neg (by simpa using h)]
  · rfl
theorem putE_kv {x : Str} {b : Addr × Body} : ∀ (fs : List Ent), (fs.map (·.1)).Nodup → putK (fs.map kvE) (Sum.inr x) (.ref b.1) = (putE fs x b).map kvE
  | [], _ => rfl
  | e :: r, hd => by
    rw [List.map_cons, List.nodup_cons] at hd
    rw [List.map_cons]
    unfold putE
    by_cases h : e.1 = x
    · rw [if_pos h, List.map_cons, show kvE e = (Sum.inr x, V.ref e.2.1) from by rw [← h]; rfl]
      refine putK_hd fun q hq => ?_
      obtain ⟨f, hf, rfl⟩ := List.mem_map.mp hq
      intro z
      exact hd.1 (by rw [h, ← Sum.inr.inj z]; exact List.mem_map.mpr ⟨f, hf, rfl⟩)
    · rw [if_neg h, List.map_cons, ← putE_kv r hd.2]
      exact putK_tl (fun z => h (Sum.inr.inj z))
theorem putE_mem {x y : Str} {b : Addr × Body} : ∀ (fs : List Ent), y ∈ (putE fs x b).map (·.1) ↔ y ∈ fs.map (·.1) ∨ y = x
  | [] => by unfold putE; simp
  | e :: r => by
    unfold putE
    by_cases h : e.1 = x
    · rw [if_pos h]
      simp only [List.map_cons, List.mem_cons]
      constructor
      · rintro (h1 | h1)
        · exact .inr h1
        · exact .inl (.inr h1)
      · rintro ((h1 | h1) | h1)
        · exact .inl (h1.trans h)
        · exact .inr h1
        · exact .inl h1
    · rw [if_neg h]
      simp only [List.map_cons, List.mem_cons, putE_mem r, or_assoc]
theorem putE_nd {x : Str} {b : Addr × Body} : ∀ {fs : List Ent}, (fs.map (·.1)).Nodup → ((putE fs x b).map (·.1)).Nodup
  | [], _ => by unfold putE; simp
  | e :: r, h => by
    rw [List.map_cons, List.nodup_cons] at h
    unfold putE
    by_cases k : e.1 = x
    · rw [if_pos k, List.map_cons, List.nodup_cons]; exact ⟨by rw [← k]; exact h.1, h.2⟩
    · rw [if_neg k, List.map_cons, List.nodup_cons]
      refine ⟨fun m => ?_, putE_nd h.2⟩
      rcases (putE_mem r).mp m with m | m
      · exact h.1 m
      · exact k m
end MG

set_option Elab.async false
set_option linter.all false
set_option maxRecDepth 100000
set_option maxHeartbeats 1000000
namespace MG
open PySem PySem.Spec PyProof.Rows L2 TL
/-- a row that tells nothing, or a word and its body -/
def RowK (row : Str) (o : Option (Str × Body)) : Prop := row.length ≤ 2000 ∧ 10 ∉ tl row ∧ ((o = none ∧ nothingT (Txt.stripChars row " ") = true) ∨ ∃ e, o = some e ∧ RowIn row e.1 e.2 ∧ nothingT (Txt.stripChars row " ") = false)
theorem putE_new {x : Str} {b : Addr × Body} : ∀ (gs : List Ent), x ∉ gs.map (·.1) → putE gs x b = gs ++ [(x, b)]
  | [], _ => rfl
  | e :: r, h => by
    have h1 : e.1 ≠ x := fun z => h (by rw [← z]; simp)
    have ih := putE_new (b := b) r fun z => h (by rw [List.map_cons]; exact List.mem_cons_of_mem _ z)
    unfold putE
    first
      | rw [if_neg h1, ih]; rfl
      | rw [if_neg (Ne.symm h1), ih]; rfl
theorem perm_lift {α β : Type} {f : α → β} {l1 l2 : List β} (h : l1.Perm l2) : ∀ gs : List α, gs.map f = l2 → ∃ fs : List α, fs.Perm gs ∧ fs.map f = l1 := by
  induction h with
  | nil => intro gs e; exact ⟨gs, .refl _, e⟩
  | cons x _ ih =>
    intro gs e
    cases gs with
    | nil => cases e
    | cons g gs =>
      obtain ⟨h1, h2⟩ := List.cons.inj e
      obtain ⟨fs, p, q⟩ := ih gs h2
      exact ⟨g :: fs, p.cons _, by rw [List.map_cons, h1, q]⟩
  | swap x y l =>
    intro gs e
    cases gs with
    | nil => cases e
    | cons g gs =>
      cases gs with
      | nil => cases (List.cons.inj e).2
      | cons k gs =>
        obtain ⟨h1, h2⟩ := List.cons.inj e
        obtain ⟨h3, h4⟩ := List.cons.inj h2
        exact ⟨k :: g :: gs, .swap _ _ _, by rw [List.map_cons, List.map_cons, h1, h3, h4]⟩
  | trans _ _ ih1 ih2 =>
    intro gs e
    obtain ⟨fs, p, q⟩ := ih2 gs e
    obtain ⟨fs2, p2, q2⟩ := ih1 fs q
    exact ⟨fs2, p2.trans p, q2⟩
theorem eq_of_fst {α β : Type} : ∀ {l m : List (α × β)}, l.Perm m → l.map (·.1) = m.map (·.1) → (m.map (·.1)).Nodup → l = m
  | [], [], _, _, _ => rfl
  | [], b :: m, p, _, _ => absurd p.length_eq (by simp)
  | a :: l, [], p, _, _ => absurd p.length_eq (by simp)
  | a :: l, b :: m, p, e, n => by
    obtain ⟨e1, e2⟩ := List.cons.inj e
    rw [List.map_cons, List.nodup_cons] at n
    have ha : a ∈ b :: m := p.subset (List.mem_cons_self ..)
    have hab : a = b := by
      rcases List.mem_cons.mp ha with h | h
      · exact h
      · exact absurd (List.mem_map.mpr ⟨a, h, e1⟩) n.1
    subst hab
    rw [eq_of_fst p.cons_inv e2 n.2]
theorem bodyOf_ndE : ∀ {gs : List Ent} {e : Ent}, (gs.map (·.1)).Nodup → e ∈ gs → bodyOf gs e.1 = some e.2 := fun {gs e} nd he => by
  obtain ⟨bd, hb⟩ := bodyOf_in (List.mem_map.mpr ⟨e, he, rfl⟩)
  have hm := bodyOf_some hb
  have : (e.1, bd) = e := by
    clear hb
    induction gs with
    | nil => cases he
    | cons g r ih =>
      rw [List.map_cons, List.nodup_cons] at nd
      rcases List.mem_cons.mp he with h1 | h1
      · rcases List.mem_cons.mp hm with h2 | h2
        · exact h2.trans h1.symm
        · exact absurd (List.mem_map.mpr ⟨_, h2, rfl⟩) (by rw [h1]; exact nd.1)
      · rcases List.mem_cons.mp hm with h2 | h2
        · have hg : e.1 = g.1 := by rw [← h2]
          have hh : g.1 ∈ r.map (·.1) := by rw [← hg]; exact List.mem_map.mpr ⟨e, h1, rfl⟩
          exact absurd hh nd.1
        · exact ih nd.2 h1 h2
  rw [hb, ← this]
theorem paired_mapU {α β : Type} {F G : α → β → Prop} : ∀ {l : List α} {m : List β}, (∀ a b, b ∈ m → F a b → G a b) → Paired F l m → Paired G l m
  | _, _, _, .nil => .nil
  | _, _, h, .cons r t => .cons (h _ _ (List.mem_cons_self ..) r) (paired_mapU (fun a b hb => h a b (List.mem_cons_of_mem _ hb)) t)
section
variable {P : Program} {w : World} {K : PySem.W.Frag} {mg : Str → Option Value} {base : Heap}
/-! ### read -/
def spRead (T : TB) (Pn : Addr) : Sp := fun vs H Q _ => ∃ rows os, ∃ es : List (Str × Body), vs = [.str (Txt.join "\n" rows)] ∧ rows ≠ [] ∧ Paired RowK rows os ∧ rows.length ≤ 60 ∧ (Txt.join "\n" rows).length ≤ 200000 ∧ (os.filterMap id).Perm es ∧ (es.map (·.1)).Nodup ∧ sortedS (es.map (·.1)) = true ∧ es.length ≤ 50 ∧ T.on H ∧ H Pn = some (tabH Pn) ∧
  ∀ H' D fs, Same H H' → H D = none → BookAt H' D fs → fs.map entSB = es → (fs.map (·.2.1)).Nodup → (∀ e ∈ fs, H e.2.1 = none ∧ e.2.1 ≠ D) → Q (.ref D) H'
theorem ok_read {f Pn : Addr} {fd : FuncData} {T : TB} (F : Fun K "read" "read" s_read f fd) (b : ∀ x ∈ blts, mg x = none) (c_tells_nothing : Cal P w K mg base "tells_nothing" 5 ["row"] spTells) (c_read_row : Cal P w K mg base "read_row" 40 ["row"] (spReadRow T Pn)) : FnOk P w K mg base CX0 50 f fd ["text"] (spRead T Pn) := by
  refine F.ok sc_read (fun vs H Q E h => ?_) (fun cdv A outer s H vs Q E hr h => ?_)
  · obtain ⟨rows, os, es, rfl, _⟩ := h; rfl
  · obtain ⟨rows, os, es, rfl, ne, hP, few, hl, pm, nd, srt, fewe, hT, hPn, q⟩ := h
    refine ⟨_, (pss_cons (ps_if (pt_not (pt_val (pe_callB call_isi (by rfl) (b "isinstance" (by decide +kernel)) (by decide +kernel) (pa_cons (pv 0) (pa_cons (pe_bltn (v := .ty "str") (by rfl) (b "str" (by decide +kernel)) (by decide +kernel) rfl) pa_nil))))) (pss_one ps_never) pss_nil) (pss_cons (ps_set (i := 1) sc_read.nd rfl (by first | exact Or.inl rfl | exact Or.inr rfl) pe_dnewK) (pss_cons (ps_for PassesOwn.never rfl (pi_list (pe_split (pv 0) pe_str)) (pg_name (i := 2) sc_read.nd rfl (by first | exact Or.inl rfl | exact Or.inr rfl)) (pss_cons (ps_if (pt_val (pe_cal c_tells_nothing (hr.mono (by decide)) (by rfl) (pa_cons (pe_stripC (pv 2) pe_str) pa_nil))) (pss_one ps_continue) pss_nil) (pss_cons (ps_asg (pe_cal c_read_row (hr.mono (by decide)) (by rfl) (pa_cons (pv 2) pa_nil)) (pg_tup (by rfl) (pgs_cons (pg_name (i := 3) sc_read.nd rfl (by first | exact Or.inl rfl | exact Or.inr rfl)) (pgs_cons (pg_name (i := 4) sc_read.nd rfl (by first | exact Or.inl rfl | exact Or.inr rfl)) pgs_nil)))) (pss_cons (ps_if (pt_cmp (pc_din (hu_of hr) (pv 3) (pv 1)) (by rfl)) (pss_one ps_never) pss_nil) (pss_one (ps_dput (hu_of hr) (pv 1) (pv 3) (pv 4) (by rfl))))))) (pss_one (ps_ret (pe_lc (own := [("word", 3)]) rfl sc_read.nd (pi_list (pe_callB (cr_sortedD rfl) (by rfl) (b "sorted" (by decide +kernel)) (by decide +kernel) (pa_cons (pv 1) pa_nil))) (blkOk_by (own := [("word", 3)]) (N := N_read) (sc := defScope s_read) (by decide +kernel)) (fun _ _ _ _ _ => (pg_name (i := 3) sc_read.nd rfl (by first | exact Or.inl rfl | exact Or.inr rfl))) (fun _ _ _ _ _ => pts_nil) (fun _ _ _ _ _ => (pe_tup (pa_cons (pv 3) (pa_cons (pe_dget (hu_of hr) (pv 1) (pv 3) (fun _ _ => rfl)) pa_nil)))))))))), ?_⟩
    have two2 : 2 ≤ sizeLine := by decide
    have sp : Txt.split (Txt.join "\n" rows) "\n" = rows := split_join (s := 10) (S := []) (by decide +kernel) (by decide +kernel) ne fun p hp hc => by
      obtain ⟨o, _, hk⟩ := paired_mem hP hp
      exact hk.2.1 hc
    generalize Txt.join "\n" rows = x at hl sp
    refine ⟨_, rfl, _, _, _, _, rfl, TyOf.str _, rfl, _, rfl, iteF ?_⟩
    try dsimp only [tNext]
    intro d hd
    have x0 := same_upd (o := .dK []) hd
    have e0 := upd_same (H := H) (a := d) (o := .dK [])
    generalize upd H d (.dK []) = H0 at x0 e0 ⊢
    refine ⟨_, rfl, ⟨_, rfl⟩, _, _, rfl, rfl, by decide +kernel, by rw [sizeLine_eq]; omega, fun p hp => ?_⟩
    rw [sp]
    have x1 := same_upd (o := .lst (rows.map V.str)) hp
    have e1 := upd_same (H := H0) (a := p) (o := .lst (rows.map V.str))
    generalize upd H0 p (.lst (rows.map V.str)) = H1 at x1 e1 ⊢
    have lro := hP.length
    have npd : p ≠ d := fun z => by rw [z, e0] at hp; cases hp
    refine ⟨p, rfl, ⟨_, SqL.of e1⟩, ?_⟩
    refine for_list (xs := rows.map V.str) (fun j σ Hc => (∃ c2 c3 c4, σ = [some (.str x), some (.ref d), c2, c3, c4]) ∧ Same H Hc ∧ Hc p = some (.lst (rows.map V.str)) ∧ ∃ gs, DicM Hc d gs ∧ gs.map entSB = (os.take j).filterMap id ∧ (gs.map (·.2.1)).Nodup ∧ ∀ e ∈ gs, H e.2.1 = none) ⟨⟨_, _, _, rfl⟩, x0.trans x1, e1, [], ⟨x1 _ _ e0, List.nodup_nil, fun e he => absurd he (by simp)⟩, rfl, List.nodup_nil, fun e he => absurd he (by simp)⟩ (fun j σ Hc _ h => SqL.of h.2.2.1) ?_ ?_
    · rintro j v σ Hc hv ⟨⟨c2, c3, c4, rfl⟩, sc, hpc, gs, hD, hg, ndg, newg⟩
      rw [List.getElem?_map] at hv
      obtain ⟨row, hrow, rfl⟩ := Option.map_eq_some_iff.mp hv
      obtain ⟨o, ho, rl, _, hk⟩ := paired_at hP hrow
      have et : (os.take (j + 1)).filterMap id = (os.take j).filterMap id ++ o.toList := by
        rw [List.take_succ, ho, List.filterMap_append]
        cases o <;> rfl
      refine ⟨_, rfl, ⟨_, rfl⟩, _, _, rfl, rfl, by rw [sizeLine_eq]; omega, _, rfl, _, rfl, ?_⟩
      rcases hk with ⟨rfl, hn⟩ | ⟨e, rfl, hR, hn⟩
      · rw [hn]
        exact iteT ⟨⟨_, _, _, rfl⟩, sc, hpc, gs, hD, by rw [et, hg]; exact (List.append_nil _).symm, ndg, newg⟩
      · rw [hn]
        refine iteF ?_
        try dsimp only [tNext]
        refine ⟨_, rfl, row, e.1, e.2, rfl, hR, hT.same sc, sc _ _ hPn, fun H2 t D2 s2 ht nD hB => ⟨t, _, rfl, SqT.of ht, rfl, _, _, rfl, _, _, rfl, rfl, ?_⟩⟩
        have hD2 := hD.same s2
        have sc2 := sc.trans s2
        have nw : e.1 ∉ gs.map (·.1) := fun z => by
          have e1' : gs.map (·.1) = ((os.take j).filterMap id).map (·.1) := by rw [← hg, List.map_map]; rfl
          rw [e1'] at z
          have sub : ((os.take (j + 1)).filterMap id).Sublist (os.filterMap id) := (List.take_sublist _ _).filterMap _
          have nd2 : ((os.take (j + 1)).filterMap id |>.map (·.1)).Nodup := ((pm.map (·.1)).nodup_iff.mpr nd).sublist (sub.map _)
          rw [et, List.map_append] at nd2
          exact (List.nodup_append.mp nd2).2.2 _ z _ (by simp) rfl
        have hval : DGet H2 d (.str e.1) none := by
          have := DGet.k (k := Sum.inr e.1) hD2.at_
          rw [val_kvE] at this
          have hn : bodyOf gs e.1 = none := by
            cases hb : bodyOf gs e.1 with
            | none => rfl
            | some bd => exact absurd (List.mem_map.mpr ⟨_, bodyOf_some hb, rfl⟩) nw
          rw [hn] at this
          exact this
        refine ⟨_, rfl, _, rfl, d, _, rfl, hval, _, rfl, iteF ?_⟩
        try dsimp only [tNext]
        have lg : gs.length ≤ 60 := by
          have := congrArg List.length hg
          rw [List.length_map] at this
          have h2 := List.length_filterMap_le id (os.take j)
          rw [List.length_take] at h2
          omega
        refine ⟨_, rfl, _, rfl, _, rfl, d, _, rfl, DPut.k (k := Sum.inr e.1) hD2.at_ (by rw [List.length_map, sizeLine_eq]; omega), ⟨_, _, _, rfl⟩, ?_, ?_, gs ++ [(e.1, D2, e.2)], ?_, ?_, ?_, ?_⟩
        · exact same_new sc2 hd
        · rw [upd_ne npd]; exact s2 _ _ hpc
        · have kv := putE_kv (b := (D2, e.2)) gs hD.nd (x := e.1)
          rw [putE_new gs nw] at kv
          refine ⟨by rw [upd_same]; exact congrArg (fun z => some (HO.dK z)) kv, ?_, fun g hg' => ?_⟩
          · have := putE_nd (x := e.1) (b := (D2, e.2)) hD.nd
            rwa [putE_new gs nw] at this
          · have bd : BodyAt H2 g.2.1 g.2.2 := by
              rcases List.mem_append.mp hg' with h | h
              · exact hD2.bo g h
              · rw [List.mem_singleton.mp h]; exact hB
            obtain ⟨vs, h1, h2⟩ := bd
            have nt : ∀ xs, H2 d ≠ some (.tup xs) := fun xs y => by rw [hD2.at_] at y; cases y
            refine ⟨vs, by rw [upd_ne (fun z => by rw [z, hD2.at_] at h1; cases h1)]; exact h1, L2.Paired.mapP h2 fun _ _ z => ?_⟩
            obtain ⟨t', q1, q2⟩ := z
            exact ⟨t', q1, by rw [upd_ne (fun z => nt _ (by rw [← z]; exact q2))]; exact q2⟩
        · rw [List.map_append, hg, et]; rfl
        · rw [List.map_append, List.nodup_append]
          refine ⟨ndg, by simp, fun a ha c hc => ?_⟩
          rw [List.mem_singleton.mp hc]
          obtain ⟨g, hg', rfl⟩ := List.mem_map.mp ha
          obtain ⟨vs, h1, _⟩ := hD.bo g hg'
          exact fun z => by rw [z, nD] at h1; cases h1
        · intro g hg'
          rcases List.mem_append.mp hg' with h | h
          · exact newg g h
          · rw [List.mem_singleton.mp h]; exact sc.free nD
    · rintro σ Hc ⟨⟨c2, c3, c4, rfl⟩, sc, hpc, gs, hD, hg, ndg, newg⟩
      rw [List.length_map, lro, List.take_length] at hg
      have hgn : gs.map (·.1) = (os.filterMap id).map (·.1) := by rw [← hg, List.map_map]; rfl
      have lg : gs.length ≤ 50 := by
        have := congrArg List.length hg
        rw [List.length_map, pm.length_eq] at this
        omega
      refine ⟨_, rfl, d, _, gs.map (·.1), rfl, hD.at_, by rw [List.map_map, List.map_map]; rfl, by rw [List.length_map]; omega, fun ys p2 hpm hsrt hp2 => ⟨p2, rfl, ⟨_, SqL.of upd_same⟩, ?_⟩⟩
      have x2 := same_upd (o := .lst (ys.map V.str)) hp2
      have e2 := upd_same (H := Hc) (a := p2) (o := .lst (ys.map V.str))
      generalize upd Hc p2 (.lst (ys.map V.str)) = H2 at x2 e2 ⊢
      have hye : ys = es.map (·.1) := sorted_eq (hpm.trans (by rw [hgn]; exact pm.map _)) hsrt srt
      obtain ⟨fs, pf, ef⟩ := perm_lift hpm gs rfl
      have hsb : fs.map entSB = es := eq_of_fst ((pf.map entSB).trans (by rw [hg]; exact pm)) (by rw [List.map_map, ← hye]; exact ef) nd
      have inF : ∀ e ∈ fs, e ∈ gs := fun e he => pf.subset he
      have lf : fs.length ≤ 50 := by rw [pf.length_eq]; exact lg
      have hD2 := hD.same x2
      have lys : ys.length = fs.length := by rw [← ef, List.length_map]
      refine lc_by (fun D i Hd => Same H2 Hd ∧ ∃ vs, Hd D = some (.lst vs) ∧ Paired (EntAt Hd) vs (fs.take i)) (fun D hD' => ⟨same_upd hD', [], upd_same, .nil⟩) (fun D i Hd _ h => SqL.of (h.1 _ _ e2)) (fun D i y Hd hDn hy ⟨sd, vs, hDd, hPv⟩ => ?_) (fun D Hd hDn ⟨sd, vs, hDd, hPv⟩ => ?_)
      · rw [List.getElem?_map, ← ef, List.getElem?_map, Option.map_map] at hy
        obtain ⟨e, he, hye'⟩ := Option.map_eq_some_iff.mp hy
        obtain rfl : y = V.str e.1 := hye'.symm
        have heg := inF e (List.mem_of_getElem? he)
        have hval : DGet Hd d (.str e.1) (some (.ref e.2.1)) := by
          have := DGet.k (k := Sum.inr e.1) (hD2.same sd).at_
          rw [val_kvE, bodyOf_ndE hD.nd heg] at this
          exact this
        refine ⟨rfl, ?_⟩
        dsimp only [tYes]
        refine iteT ⟨_, rfl, _, rfl, _, rfl, d, _, rfl, hval, two2, fun t2 ht2 => ?_⟩
        have x3 := same_upd (o := .tup [.str e.1, .ref e.2.1]) ht2
        have e3 := upd_same (H := Hd) (a := t2) (o := .tup [.str e.1, .ref e.2.1])
        generalize upd Hd t2 (.tup [.str e.1, .ref e.2.1]) = H3 at x3 e3 ⊢
        have hD3 := x3 _ _ hDd
        have lv := hPv.length
        rw [List.length_take] at lv
        have nt : ∀ xs, H3 D ≠ some (.tup xs) := fun xs y => by rw [hD3] at y; cases y
        have up : ∀ {v : V} {g : Ent} {o : HO}, g ∈ gs → EntAt H3 v g → EntAt (upd H3 D o) v g := fun {v g o} hgm ⟨t, q1, q2, vs', q3, q4⟩ => by
          obtain ⟨vs0, h0, _⟩ := hD2.bo g hgm
          refine ⟨t, q1, by rw [upd_ne (fun z => nt _ (by rw [← z]; exact q2))]; exact q2, vs', by rw [upd_ne (fun z => by rw [z, hDn] at h0; cases h0)]; exact q3, L2.Paired.mapP q4 fun _ _ z => ?_⟩
          obtain ⟨t', r1, r2⟩ := z
          exact ⟨t', r1, by rw [upd_ne (fun z => nt _ (by rw [← z]; exact r2))]; exact r2⟩
        refine ⟨vs, hD3, by rw [sizeLine_eq]; omega, fun c o z => ?_, _, upd_same, ?_⟩
        · rw [upd_ne (ne_of_none z hDn)]; exact x3 _ _ (sd _ _ z)
        · rw [List.take_succ, he]
          have new : EntAt H3 (.ref t2) e := ⟨t2, rfl, e3, (hD2.bo e heg).same (sd.trans x3)⟩
          refine paired_snoc (up heg new) (paired_mapU (fun v g hm z => up (inF g (List.mem_of_mem_take hm)) (EntAt.same z x3)) hPv)
      · rw [List.length_map, lys, List.take_length] at hPv
        refine q _ D fs (sc.trans (x2.trans sd)) (sc.free (x2.free hDn)) ⟨vs, hDd, hPv⟩ hsb ((pf.map _).nodup_iff.mpr ndg) fun e he => ⟨newg e (inF e he), fun z => ?_⟩
        obtain ⟨vs0, h0, _⟩ := hD2.bo e (inF e he)
        rw [z, hDn] at h0; cases h0
end
end MG

set_option Elab.async false
set_option linter.all false
set_option maxHeartbeats 1000000
namespace MG
open PySem PySem.Spec PyProof.Rows L2 TL
/-! ### a wide join is a narrow one of wider parts -/
def padTail (g h : List Nat) : List Nat → List (List Nat) → List (List Nat)
  | cur, [] => [cur]
  | cur, b :: r => (cur ++ g) :: padTail g h (h ++ b) r
theorem joinL_pre (y g b : List Nat) : ∀ r : List (List Nat), joinL y ((g ++ b) :: r) = g ++ joinL y (b :: r)
  | [] => rfl
  | c :: r => by show (g ++ b) ++ (y ++ joinL y (c :: r)) = g ++ (b ++ (y ++ joinL y (c :: r))); rw [List.append_assoc]
theorem join_pad (g h : List Nat) (z : List Nat) : ∀ (r : List (List Nat)) (cur : List Nat), joinL z (padTail g h cur r) = joinL (g ++ z ++ h) (cur :: r)
  | [], cur => rfl
  | b :: r, cur => by
    have ih := join_pad g h z r (h ++ b)
    have ne : ∃ c t, padTail g h (h ++ b) r = c :: t := by cases r <;> exact ⟨_, _, rfl⟩
    obtain ⟨c, t, e⟩ := ne
    show joinL z ((cur ++ g) :: padTail g h (h ++ b) r) = cur ++ ((g ++ z ++ h) ++ joinL (g ++ z ++ h) (b :: r))
    rw [joinL_pre (g ++ z ++ h) h b r] at ih
    rw [e] at ih ⊢
    show (cur ++ g) ++ (z ++ joinL z (c :: t)) = _
    rw [ih]
    simp only [List.append_assoc]
/-- a part's first and last signs are no blanks -/
def NbEnds (l : List Nat) : Prop := ∃ y k m z, l = y :: k ∧ y ≠ 32 ∧ l = m ++ [z] ∧ z ≠ 32
theorem NbEnds.mid {a b : List Nat} (c : List Nat) (h1 : NbEnds a) (h2 : NbEnds b) : NbEnds (a ++ (c ++ b)) := by
  obtain ⟨y, k, _, _, e1, n1, _, _⟩ := h1
  obtain ⟨_, _, m, z, _, _, e2, n2⟩ := h2
  exact ⟨y, k ++ (c ++ b), a ++ (c ++ m), z, by rw [e1]; rfl, n1, by rw [e2]; simp only [List.append_assoc], n2⟩
theorem joinL_ends {sep : List Nat} : ∀ (l : List (List Nat)), l ≠ [] → (∀ a ∈ l, NbEnds a) → NbEnds (joinL sep l)
  | [], h, _ => absurd rfl h
  | [a], _, h => h a (List.mem_cons_self ..)
  | a :: b :: r, _, h => NbEnds.mid sep (h a (List.mem_cons_self ..)) (joinL_ends (b :: r) (by simp) fun x hx => h x (List.mem_cons_of_mem _ hx))
theorem joinL_mem {sep : List Nat} : ∀ (l : List (List Nat)) (c : Nat), c ∈ joinL sep l → c ∈ sep ∨ ∃ a ∈ l, c ∈ a
  | [], c, h => absurd h (by simp [joinL])
  | [a], c, h => .inr ⟨a, List.mem_cons_self .., h⟩
  | a :: b :: r, c, h => by
    have h : c ∈ a ++ (sep ++ joinL sep (b :: r)) := h
    rcases List.mem_append.mp h with h | h
    · exact .inr ⟨a, List.mem_cons_self .., h⟩
    · rcases List.mem_append.mp h with h | h
      · exact .inl h
      · rcases joinL_mem (b :: r) c h with h | ⟨x, hx, hc⟩
        · exact .inl h
        · exact .inr ⟨x, List.mem_cons_of_mem _ hx, hc⟩
theorem joinL_len {sep : List Nat} {B : Nat} : ∀ (l : List (List Nat)), (∀ a ∈ l, a.length ≤ B) → (joinL sep l).length ≤ l.length * (B + sep.length)
  | [], _ => by simp [joinL]
  | [a], h => by
    have := h a (List.mem_cons_self ..)
    show a.length ≤ 1 * (B + sep.length)
    omega
  | a :: b :: r, h => by
    have h1 := h a (List.mem_cons_self ..)
    have h2 := joinL_len (sep := sep) (b :: r) fun x hx => h x (List.mem_cons_of_mem _ hx)
    show (a ++ (sep ++ joinL sep (b :: r))).length ≤ ((b :: r).length + 1) * (B + sep.length)
    rw [List.length_append, List.length_append, Nat.add_mul]
    omega
theorem joinL_nl : ∀ ls : List (List Nat), joinL [10] (ls ++ [[]]) = joinL [] (ls.map (· ++ [10]))
  | [] => rfl
  | [a] => by show a ++ ([10] ++ []) = a ++ [10]; simp
  | a :: b :: r => by
    have ih := joinL_nl (b :: r)
    show a ++ ([10] ++ joinL [10] ((b :: r) ++ [[]])) = (a ++ [10]) ++ ([] ++ joinL [] ((b :: r).map (· ++ [10])))
    rw [ih, List.nil_append, List.append_assoc]
end MG

set_option Elab.async false
set_option linter.all false
set_option maxRecDepth 100000
set_option maxHeartbeats 1000000
namespace MG
open PySem PySem.Spec PyProof.Rows L2 TL
abbrev bl32 (n : Nat) : List Nat := List.replicate n 32
abbrev mkT (l : List Nat) : Str := ⟨l.toArray⟩
theorem pad_pairs {p q : Nat} (hp : p ≤ 10) (hq : q ≤ 10) : ∀ (ss : Body) (s : Stp) (cur : List Nat) (a : Nat), a ≤ 10 → cur = bl32 a ++ tl (stepT s) → ∃ ps : List Str, ps.map tl = padTail (bl32 p) (bl32 q) cur (ss.map fun s => tl (stepT s)) ∧ Paired PadS ps (s :: ss)
  | [], s, cur, a, ha, e => ⟨[mkT cur], rfl, .cons ⟨a, 0, ha, by omega, by show cur = _; rw [e]; simp⟩ .nil⟩
  | s2 :: ss, s, cur, a, ha, e => by
    obtain ⟨ps, h1, h2⟩ := pad_pairs hp hq ss s2 (bl32 q ++ tl (stepT s2)) q hq rfl
    exact ⟨mkT (cur ++ bl32 p) :: ps, by rw [List.map_cons, h1]; rfl, .cons ⟨a, p, ha, hp, by show cur ++ bl32 p = _; rw [e]⟩ h2⟩
/-- a row of a word and its body, with blanks at all places -/
def RowOf (row x : Str) (ss : Body) : Prop := ∃ n1 n2 n3 n4 p q, n1 ≤ 3 ∧ n2 ≤ 3 ∧ n3 ≤ 3 ∧ n4 ≤ 3 ∧ p ≤ 3 ∧ q ≤ 3 ∧ tl row = bl32 n1 ++ tl x ++ bl32 n2 ++ [58] ++ (bl32 n3 ++ joinL (bl32 p ++ [59] ++ bl32 q) (ss.map fun s => tl (stepT s)) ++ bl32 n4)
theorem bl32_mem {n c : Nat} (h : c ∈ bl32 n) : c = 32 := (List.mem_replicate.mp h).2
theorem RowOf.rowK {row x : Str} {ss : Body} (h : RowOf row x ss) (hx : WordOk x) (hs : BodyOk ss) : RowK row (some (x, ss)) ∧ row.length ≤ 400 := by
  obtain ⟨n1, n2, n3, n4, p, q, l1, l2, l3, l4, lp, lq, e⟩ := h
  have js : ∀ c ∈ joinL (bl32 p ++ [59] ++ bl32 q) (ss.map fun s => tl (stepT s)), c = 32 ∨ c = 59 ∨ c = 45 ∨ (48 ≤ c ∧ c ≤ 57) ∨ (97 ≤ c ∧ c ≤ 122) := fun c hc => by
    rcases joinL_mem _ c hc with h | ⟨a, ha, h⟩
    · rcases List.mem_append.mp h with h | h
      · rcases List.mem_append.mp h with h | h
        · exact .inl (bl32_mem h)
        · exact .inr (.inl (List.mem_singleton.mp h))
      · exact .inl (bl32_mem h)
    · obtain ⟨s, hm, rfl⟩ := List.mem_map.mp ha
      rcases stepT_sign (hs.2 s hm) c h with h | h
      · exact .inl h
      · exact .inr (.inr h)
  have jl : (joinL (bl32 p ++ [59] ++ bl32 q) (ss.map fun s => tl (stepT s))).length ≤ 9 * 27 := by
    refine Nat.le_trans (joinL_len (B := 18) _ fun a ha => ?_) ?_
    · obtain ⟨s, hm, rfl⟩ := List.mem_map.mp ha
      exact stepT_len (hs.2 s hm)
    · rw [List.length_map]
      have h1 := hs.1
      have h2 : 18 + (bl32 p ++ [59] ++ bl32 q).length ≤ 27 := by simp [bl32]; omega
      exact Nat.mul_le_mul h1 h2
  have je : ss ≠ [] → NbEnds (joinL (bl32 p ++ [59] ++ bl32 q) (ss.map fun s => tl (stepT s))) := fun ne => joinL_ends _ (by simpa using ne) fun a ha => by
    obtain ⟨s, hm, rfl⟩ := List.mem_map.mp ha
    exact step_ends (hs.2 s hm)
  have jp : ss ≠ [] → ∃ ps, mkT (joinL (bl32 p ++ [59] ++ bl32 q) (ss.map fun s => tl (stepT s))) = Txt.join ";" ps ∧ Paired PadS ps ss := fun ne => by
    cases ss with
    | nil => exact absurd rfl ne
    | cons s ss =>
      obtain ⟨ps, h1, h2⟩ := pad_pairs (p := p) (q := q) (by omega) (by omega) ss s (tl (stepT s)) 0 (by omega) (by simp)
      refine ⟨ps, str_ext ?_, h2⟩
      rw [join_eq, tl_join, h1, show tl (";" : Str) = [59] from by decide +kernel, join_pad]
      rfl
  have j0 : ss = [] → joinL (bl32 p ++ [59] ++ bl32 q) (ss.map fun s => tl (stepT s)) = [] := fun z => by rw [z]; rfl
  generalize joinL (bl32 p ++ [59] ++ bl32 q) (ss.map fun s => tl (stepT s)) = J at e js jl je jp j0
  have lx : (tl x).length ≤ 8 := hx.2.1
  have len : row.length ≤ 400 := by
    show (tl row).length ≤ 400
    rw [e]
    simp only [List.length_append, List.length_replicate, List.length_singleton]
    omega
  have ws := word_sign hx
  have signs : ∀ c ∈ tl row, c = 32 ∨ c = 58 ∨ c = 59 ∨ c = 45 ∨ (48 ≤ c ∧ c ≤ 57) ∨ (97 ≤ c ∧ c ≤ 122) := fun c hc => by
    rw [e] at hc
    simp only [List.mem_append, List.mem_singleton] at hc
    rcases hc with (((h | h) | h) | h) | ((h | h) | h)
    · exact .inl (bl32_mem h)
    · have := ws c h; omega
    · exact .inl (bl32_mem h)
    · exact .inr (.inl h)
    · exact .inl (bl32_mem h)
    · have := js c h; omega
    · exact .inl (bl32_mem h)
  refine ⟨⟨by omega, fun hc => by have := signs 10 hc; omega, .inr ⟨_, rfl, ⟨⟨mkT (bl32 n1 ++ tl x ++ bl32 n2), mkT (bl32 n3 ++ J ++ bl32 n4), mkT J, ?_, ⟨n1, n2, by omega, by omega, rfl⟩, ⟨n3, n4, by omega, by omega, rfl⟩, ?_, ?_, by show J.length ≤ 500; omega, fun hc => ?_, fun hc => ?_⟩, hx, hs⟩, ?_⟩⟩, len⟩
  · apply str_ext
    rw [e, join_eq, tl_join]
    show _ = (bl32 n1 ++ tl x ++ bl32 n2) ++ (tl (":" : Str) ++ (bl32 n3 ++ J ++ bl32 n4))
    rw [show tl (":" : Str) = [58] from by decide +kernel]
    simp only [List.append_assoc]
  · by_cases z : ss = []
    · exact .inl ⟨z, str_ext (by show J = _; rw [j0 z]; rfl)⟩
    · obtain ⟨y, k, _, _, e1, _⟩ := je z
      obtain ⟨ps, h1, h2⟩ := jp z
      exact .inr ⟨z, by show J ≠ []; rw [e1]; simp, ps, h1, h2⟩
  · by_cases z : ss = []
    · exact .inl (j0 z)
    · exact .inr (je z)
  · have hc : 58 ∈ bl32 n1 ++ tl x ++ bl32 n2 := hc
    simp only [List.mem_append] at hc
    rcases hc with (h | h) | h
    · have := bl32_mem h; omega
    · have := ws _ h; omega
    · have := bl32_mem h; omega
  · have hc : 58 ∈ bl32 n3 ++ J ++ bl32 n4 := hc
    simp only [List.mem_append] at hc
    rcases hc with (h | h) | h
    · have := bl32_mem h; omega
    · have := js _ h; omega
    · have := bl32_mem h; omega
  · obtain ⟨c, b, e2, ec⟩ : ∃ (c : List Nat) (b : Nat), tl row = bl32 n1 ++ c ++ bl32 b ∧ ∃ d, c = tl x ++ d ∧ NbEnds c := by
      have wx : NbEnds (tl x) := word_ends hx
      by_cases z : ss = []
      · refine ⟨tl x ++ (bl32 n2 ++ [58]), n3 + n4, ?_, _, rfl, wx.mid _ ⟨58, [], [], 58, rfl, by decide, rfl, by decide⟩⟩
        rw [e, j0 z, show bl32 (n3 + n4) = bl32 n3 ++ bl32 n4 from (List.replicate_append_replicate).symm]
        simp only [List.append_assoc, List.nil_append]
      · refine ⟨tl x ++ ((bl32 n2 ++ [58] ++ bl32 n3) ++ J), n4, ?_, _, rfl, wx.mid _ (je z)⟩
        rw [e]
        simp only [List.append_assoc]
    obtain ⟨d, ed, ends⟩ := ec
    rw [strip_mid (x := row) (c := mkT c) e2 (.inr ends)]
    obtain ⟨y, k, ek⟩ : ∃ y k, tl x = y :: k := let ⟨y, k, _, _, h, _⟩ := word_ends hx; ⟨y, k, h⟩
    have hy := ws y (by rw [ek]; exact List.mem_cons_self ..)
    unfold nothingT
    have n1' : decide (mkT c = "") = false := decide_eq_false fun z => by
      have : c = tl ("" : Str) := congrArg tl z
      rw [ed, ek] at this
      cases this
    rw [n1', Bool.false_or]
    unfold Txt.startswith
    have : Builtin.Str.subAt (mkT c) "--" 0 = false := by
      unfold Builtin.Str.subAt
      rw [beq_eq_false_iff_ne]
      intro z
      have z := congrArg Array.toList z
      rw [show ("--" : Str).cps.toList = [45, 45] from by decide +kernel, show ("--" : Str).length = 2 from by decide +kernel, ed, ek] at z
      simp at z
      omega
    rw [this, Bool.and_false]
/-! ### texts of books -/
/-- a text that tells these entries, in any turn -/
def TextOf (x : Str) (es : List (Str × Body)) : Prop := ∃ rows os, x = Txt.join "\n" rows ∧ rows ≠ [] ∧ Paired RowK rows os ∧ rows.length ≤ 60 ∧ x.length ≤ 200000 ∧ (os.filterMap id).Perm es
theorem rowK_none (x : Str) (h1 : x.length ≤ 2000) (h2 : 10 ∉ tl x) (h : nothingT (Txt.stripChars x " ") = true) : RowK x none := ⟨h1, h2, .inl ⟨rfl, h⟩⟩
theorem rowK_nil : RowK "" none := rowK_none _ (by decide +kernel) (by decide +kernel) (by decide +kernel)
def row0 (x : Str) (ss : Body) : Str := x ++ ":" ++ preT ss
theorem row0_of (x : Str) (ss : Body) : RowOf (row0 x ss) x ss := by
  cases ss with
  | nil =>
    refine ⟨0, 0, 0, 0, 0, 0, by omega, by omega, by omega, by omega, by omega, by omega, ?_⟩
    unfold row0 preT
    rw [if_pos rfl, tl_append, tl_append, show tl (":" : Str) = [58] from by decide +kernel, show tl ("" : Str) = [] from by decide +kernel]
    simp [joinL, bl32]
  | cons s ss =>
    refine ⟨0, 0, 1, 0, 0, 1, by omega, by omega, by omega, by omega, by omega, by omega, ?_⟩
    unfold row0 preT bodyT
    rw [if_neg (by simp), tl_append, tl_append, tl_append, join_eq, tl_join, show tl (":" : Str) = [58] from by decide +kernel, show tl (" " : Str) = [32] from by decide +kernel, show tl ("; " : Str) = [59, 32] from by decide +kernel, List.map_map]
    simp [bl32, Function.comp_def, List.replicate]
theorem rows_paired {es : List Ent} (h : ∀ e ∈ es, EntOk e) : Paired RowK (es.map fun e => row0 e.1 e.2.2) (es.map fun e => some (entSB e)) := by
  induction es with
  | nil => exact .nil
  | cons e r ih => exact .cons ((row0_of e.1 e.2.2).rowK (h e (List.mem_cons_self ..)).1 (h e (List.mem_cons_self ..)).2).1 (ih fun x hx => h x (List.mem_cons_of_mem _ hx))
theorem filterMap_some {α β : Type} (f : α → β) : ∀ l : List α, (l.map fun e => some (f e)).filterMap id = l.map f
  | [] => rfl
  | a :: r => congrArg (f a :: ·) (filterMap_some f r)
theorem bookT_text {es : List Ent} (h : ∀ e ∈ es, EntOk e) (hn : es.length ≤ 20) : TextOf (bookT es) (es.map entSB) := by
  refine ⟨es.map (fun e => row0 e.1 e.2.2) ++ [("" : Str)], es.map (fun e => some (entSB e)) ++ [none], str_ext ?_, by simp, paired_app (.cons rowK_nil .nil) (rows_paired h), by rw [List.length_append, List.length_map]; show es.length + 1 ≤ 60; omega, by have := bookT_len h hn; omega, ?_⟩
  · unfold bookT
    rw [join_eq, join_eq, tl_join, tl_join, List.map_append, show tl ("\n" : Str) = [10] from by decide +kernel, show tl ("" : Str) = [] from by decide +kernel, show [("" : Str)].map tl = [[]] from by decide +kernel, joinL_nl, List.map_map, List.map_map, List.map_map]
    congr 1
    refine List.map_congr_left fun e _ => ?_
    show tl (rowT e.1 e.2.2) = tl (row0 e.1 e.2.2) ++ [10]
    rw [← preT_row, tl_append]
    rfl
  · rw [List.filterMap_append, filterMap_some]
    show (es.map entSB ++ []).Perm _
    rw [List.append_nil]
end MG

set_option Elab.async false
set_option linter.all false
set_option maxRecDepth 100000
namespace MG
open PySem PySem.Spec PyProof.Rows L2
section
variable {P : Program} {w : World} {K : PySem.W.Frag} {mg : Str → Option Value} {base : Heap}
/-! ### written_step -/
def spWStep (Ps : Addr) : Sp := fun vs H Q _ => ∃ v st, vs = [v] ∧ StepAt H v st ∧ st.ok ∧ H Ps = some (tabH Ps) ∧ ∀ H', Same H H' → Q (.str (stepT st)) H'
/-- a step's parts, each with its text -/
theorem parts_at {st : Stp} (ok : st.ok) : st.vals.length = st.parts.length ∧ ∀ (i : Nat) v y, st.vals[i]? = some v → st.parts[i]? = some y → (v = .str y) ∨ ∃ n, v = .int n ∧ y = numT n ∧ -99 ≤ n ∧ n ≤ 99 := by
  have one : ∀ {n : Str} (i : Nat) v y, ([.str n] : List V)[i]? = some v → ([n] : List Str)[i]? = some y → (v = .str y) ∨ ∃ n, v = .int n ∧ y = numT n ∧ -99 ≤ n ∧ n ≤ 99 := by
    intro n i v y h1 h2
    cases i with
    | zero => cases h1; cases h2; exact .inl rfl
    | succ i => simp at h1
  have num : ∀ {n : Str} {k : Int}, -99 ≤ k ∧ k ≤ 99 → ∀ (i : Nat) v y, ([.str n, .int k] : List V)[i]? = some v → ([n, numT k] : List Str)[i]? = some y → (v = .str y) ∨ ∃ n, v = .int n ∧ y = numT n ∧ -99 ≤ n ∧ n ≤ 99 := by
    intro n k hk i v y h1 h2
    match i, h1, h2 with
    | 0, h1, h2 => cases h1; cases h2; exact .inl rfl
    | 1, h1, h2 => cases h1; cases h2; exact .inr ⟨k, rfl, rfl, hk⟩
    | i + 2, h1, h2 => simp at h1
  have wrd : ∀ {n x : Str} (i : Nat) v y, ([.str n, .str x] : List V)[i]? = some v → ([n, x] : List Str)[i]? = some y → (v = .str y) ∨ ∃ n, v = .int n ∧ y = numT n ∧ -99 ≤ n ∧ n ≤ 99 := by
    intro n x i v y h1 h2
    match i, h1, h2 with
    | 0, h1, h2 => cases h1; cases h2; exact .inl rfl
    | 1, h1, h2 => cases h1; cases h2; exact .inl rfl
    | i + 2, h1, h2 => simp at h1
  cases st with
  | say => exact ⟨rfl, one⟩
  | hear => exact ⟨rfl, one⟩
  | fin => exact ⟨rfl, one⟩
  | plus n => exact ⟨rfl, num ok⟩
  | times n => exact ⟨rfl, num ok⟩
  | turn n => exact ⟨rfl, num ok⟩
  | ask x => exact ⟨rfl, wrd⟩
  | odd x => exact ⟨rfl, wrd⟩
theorem ok_written_step {f c Ps bm : Addr} {fd : FuncData} {ob : Obj} (F : FunG K "written_step" "written_step" s_written_step f fd c Ps) (b : ∀ x ∈ blts, mg x = none) (hB : BMod base mainGlobals mg bm ob) : FnOk P w K mg base CX0 10 f fd ["step"] (spWStep Ps) := by
  refine F.ok sc_written_step (fun vs H Q E h => ?_) (fun A outer s H vs Q E hr h => ?_)
  · obtain ⟨v, st, rfl, _⟩ := h; rfl
  · obtain ⟨v, st, rfl, ⟨t, rfl, ht⟩, ok, hP, q⟩ := h
    refine ⟨_, (pss_one (ps_ret (pe_joinG (N := ["part"]) rfl hr rfl F.hd hB ⟨rfl, rfl, by decide +kernel, by decide +kernel, by decide +kernel, by decide +kernel⟩ (pi_tup (pv 0)) (fun _ _ _ _ _ _ => (pg_name (i := 0) (show (["part"] : List Str).Nodup from by decide +kernel) rfl (by first | exact Or.inl rfl | exact Or.inr rfl))) (fun _ _ _ _ _ _ hr => (pe_callTy call_str_any (by rfl) (b "str" (by decide +kernel)) (by decide +kernel) (pa_cons (pv 0) pa_nil)))))), ?_⟩
    obtain ⟨len, hat⟩ := parts_at ok
    obtain ⟨pl, pn⟩ := parts_len ok
    refine joinG_byT (K := K) st.parts rfl ht hP len ?_ ?_ (fun i v y H1 Q1 hv hy s1 k => ?_) q
    · rw [sizeLine_eq]; omega
    · exact Nat.le_trans (join_le (sep := " ") pl pn).2 (by decide)
    · rcases hat i v y hv hy with rfl | ⟨n, rfl, rfl, n1, n2⟩
      · exact ⟨_, rfl, .inr ⟨_, rfl, k _ (Same.refl _)⟩⟩
      · exact ⟨_, rfl, .inl ⟨_, rfl, num_log n1 n2, k _ (Same.refl _)⟩⟩
/-! ### written_row -/
def spWRow (Ps Pr : Addr) : Sp := fun vs H Q _ => ∃ x bd ss, vs = [.str x, .ref bd] ∧ WordOk x ∧ BodyAt H bd ss ∧ BodyOk ss ∧ H Ps = some (tabH Ps) ∧ H Pr = some (tabH Pr) ∧ ∀ H', Same H H' → Q (.str (rowT x ss)) H'
theorem ok_written_row {f c Ps Pr bm : Addr} {fd : FuncData} {ob : Obj} (F : FunG K "written_row" "written_row" s_written_row f fd c Pr) (b : ∀ x ∈ blts, mg x = none) (hB : BMod base mainGlobals mg bm ob)
    (c_written_step : Cal P w K mg base "written_step" 10 ["step"] (spWStep Ps)) : FnOk P w K mg base CX0 20 f fd ["word", "body"] (spWRow Ps Pr) := by
  refine F.ok sc_written_row (fun vs H Q E h => ?_) (fun A outer s H vs Q E hr h => ?_)
  · obtain ⟨v, st, ss, rfl, _⟩ := h; rfl
  · obtain ⟨x, bd, ss, rfl, hx, ⟨us, hl, hv⟩, ok, hs, hP, q⟩ := h
    have len := hv.length
    have hx8 := hx.2.1
    refine ⟨_, (pss_cons (ps_if (pt_not (pt_truth (pv 1) (fun _ => rfl))) (pss_one (ps_ret (pe_fstr (pj_val (pv 0) (pj_str pj_nil))))) pss_nil) (pss_cons (ps_set (i := 2) sc_written_row.nd rfl (by first | exact Or.inl rfl | exact Or.inr rfl) (pe_joinG (N := ["step"]) rfl hr rfl F.hd hB ⟨rfl, rfl, by decide +kernel, by decide +kernel, by decide +kernel, by decide +kernel⟩ (pi_list (pv 1)) (fun _ _ _ _ _ _ => (pg_name (i := 0) (show (["step"] : List Str).Nodup from by decide +kernel) rfl (by first | exact Or.inl rfl | exact Or.inr rfl))) (fun _ _ _ _ _ _ hr => (pe_cal c_written_step (hr.mono (by decide)) (by rfl) (pa_cons (pv 0) pa_nil))))) (pss_one (ps_ret (pe_fstr (pj_val (pv 0) (pj_str (pj_val (pv 2) (pj_str pj_nil))))))))), ?_⟩
    have l2 : (":\n" : Str).length = 2 := by decide +kernel
    have l3 : (": " : Str).length = 2 := by decide +kernel
    have l1 : ("\n" : Str).length = 1 := by decide +kernel
    refine ⟨_, rfl, _, .inl ⟨us, SqL.of hl, rfl⟩, ?_⟩
    cases hv with
    | nil =>
      refine iteT ⟨_, rfl, x, rfl, ?_⟩
      rw [Str.empty_append]
      refine ⟨by rw [sizeLine_eq]; omega, by rw [sizeLine_eq]; omega, ?_⟩
      have lz : (x ++ (":\n" : Str)).length ≤ sizeLine := by rw [strLen_append, sizeLine_eq]; omega
      exact ⟨lz, lz, q _ (Same.refl _)⟩
    | @cons u st us' ss' r t =>
      refine iteF ?_
      dsimp only [tNext, tSeq, tAsg]
      have bl := bodyT_len ok
      have sl := join_le (sep := "; ") (stepTs_len ok) (by rw [List.length_map]; exact ok.1)
      refine joinG_by (K := K) ((st :: ss').map stepT) rfl hl hP (by rw [List.length_map]; exact len) ?_ (Nat.le_trans sl.2 (by decide +kernel)) (fun i v y H1 Q1 hv hy s1 k => ?_) (fun H1 s1 => ?_)
      · rw [List.length_map, sizeLine_eq]; have := ok.1; omega
      · obtain ⟨st1, h1, h2⟩ := paired_at (.cons r t) hv
        rw [List.getElem?_map, h1] at hy
        cases hy
        exact ⟨_, rfl, v, st1, rfl, h2.same s1, ok.2 st1 (List.mem_of_getElem? h1), s1 _ _ hs, k⟩
      · refine ⟨_, rfl, x, rfl, ?_⟩
        rw [Str.empty_append]
        have e : Txt.join "; " ((st :: ss').map stepT) = bodyT (st :: ss') := rfl
        refine ⟨by rw [sizeLine_eq]; omega, by rw [sizeLine_eq]; omega, by rw [strLen_append, sizeLine_eq]; omega, _, rfl, _, rfl, ?_⟩
        rw [e]
        refine ⟨by rw [sizeLine_eq]; omega, by rw [strLen_append, strLen_append, sizeLine_eq]; omega, ?_⟩
        have lz : (x ++ (": " : Str) ++ bodyT (st :: ss') ++ ("\n" : Str)).length ≤ sizeLine := by rw [strLen_append, strLen_append, strLen_append, sizeLine_eq]; omega
        exact ⟨lz, lz, q _ s1⟩
/-! ### written -/
def spWritten (T : TB) (Ps Pr : Addr) : Sp := fun vs H Q _ => ∃ L es, vs = [.ref L] ∧ BookAt H L es ∧ BookOk es ∧ T.on H ∧ H Ps = some (tabH Ps) ∧ H Pr = some (tabH Pr) ∧ ∀ H', Same H H' → Q (.str (bookT es)) H'
theorem ok_written {f c Ps Pr bm : Addr} {fd : FuncData} {ob : Obj} {T : TB} (F : FunG K "written" "written" s_written f fd c T.c) (b : ∀ x ∈ blts, mg x = none) (hB : BMod base mainGlobals mg bm ob)
    (c_need_book : Cal P w K mg base "need_book" 60 ["book"] (spNeedBook T)) (c_written_row : Cal P w K mg base "written_row" 20 ["word", "body"] (spWRow Ps Pr)) : FnOk P w K mg base CX0 70 f fd ["book"] (spWritten T Ps Pr) := by
  refine F.ok sc_written (fun vs H Q E h => ?_) (fun A outer s H vs Q E hr h => ?_)
  · obtain ⟨v, st, rfl, _⟩ := h; rfl
  · obtain ⟨L, es, rfl, hb, ok, hT, hs, hr', q⟩ := h
    refine ⟨_, (pss_cons (ps_expr (pe_cal c_need_book (hr.mono (by decide)) (by rfl) (pa_cons (pv 0) pa_nil))) (pss_one (ps_ret (pe_joinG (N := ["word", "body"]) rfl hr rfl F.hd hB ⟨rfl, rfl, by decide +kernel, by decide +kernel, by decide +kernel, by decide +kernel⟩ (pi_list (pv 0)) (fun _ _ _ _ _ _ => (pg_tupK (K := K) (n := 2) rfl (by rfl) (pgs_cons (pg_name (i := 0) (show (["word", "body"] : List Str).Nodup from by decide +kernel) rfl (by first | exact Or.inl rfl | exact Or.inr rfl)) (pgs_cons (pg_name (i := 1) (show (["word", "body"] : List Str).Nodup from by decide +kernel) rfl (by first | exact Or.inl rfl | exact Or.inr rfl)) pgs_nil)))) (fun _ _ _ _ _ _ hr => (pe_cal c_written_row (hr.mono (by decide)) (by rfl) (pa_cons (pv 0) (pa_cons (pv 1) pa_nil)))))))), ?_⟩
    refine ⟨_, rfl, L, es, rfl, hb, ok, hT, fun H1 s1 => ?_⟩
    obtain ⟨us, hl, hv⟩ := hb.same s1
    have len := hv.length
    have few := ok.few
    have sl := join_le (sep := "") (m := 20) (rows_len ok.each) (by rw [List.length_map]; exact few)
    refine joinG_by (K := K) (es.map rowE) rfl hl (s1 _ _ hT.2.2.2) (by rw [List.length_map]; exact len) ?_ (Nat.le_trans sl.2 (by decide +kernel)) (fun i v y H2 Q2 hx hy s2 k => ?_) (fun H2 s2 => q _ (s1.trans s2))
    · rw [List.length_map, sizeLine_eq]; omega
    · obtain ⟨e, h1, t, rfl, ht, hbd⟩ := paired_at hv hx
      rw [List.getElem?_map, h1] at hy
      cases hy
      have oke := ok.each e (List.mem_of_getElem? h1)
      refine ⟨t, _, rfl, SqT.of (s2 _ _ ht), rfl, _, _, rfl, _, _, rfl, rfl, ?_⟩
      exact ⟨_, rfl, _, rfl, e.1, e.2.1, e.2.2, rfl, oke.1, hbd.same s2, oke.2, s2 _ _ (s1 _ _ hs), s2 _ _ (s1 _ _ hr'), k⟩
end
end MG

set_option Elab.async false
set_option linter.all false
set_option maxRecDepth 100000
set_option maxHeartbeats 1000000
set_option exponentiation.threshold 1100
namespace MG
open PySem PySem.Spec PyProof.Rows L2
def constInts : List Expr → Option (List V)
  | [] => some []
  | .Constant (.int i) _ _ :: r => (constInts r).map (V.int i :: ·)
  | _ => none
theorem pa_ints {X : Cx} : ∀ {es : List Expr} {vs : List V}, constInts es = some vs → PA X es (fun _ H Q => Q vs H)
  | [], vs, h => by
    have e : [] = vs := Option.some.inj h
    subst e
    exact pa_nil
  | e :: r, vs, h => by
    unfold constInts at h
    split at h
    · rename_i h1; cases h1
    · rename_i i j p r' h1
      cases h1
      obtain ⟨ws, h2, rfl⟩ := Option.map_eq_some_iff.mp h
      exact pa_cons (te := tC (.int i)) pe_int (pa_ints h2) rfl
    · cases h
/-- a statement's rule, not to be looked into -/
@[irreducible] def PSi (X : Cx) (st : Stmt) (t : TS) : Prop := PS X st t
theorem PSi.mk {X : Cx} {st : Stmt} {t : TS} (h : PS X st t) : PSi X st t := by unfold PSi; exact h
theorem PSi.out {X : Cx} {st : Stmt} {t : TS} (h : PSi X st t) : PS X st t := by unfold PSi at h; exact h
@[irreducible] def PSsi (X : Cx) (sts : List Stmt) (t : TS) : Prop := PSs X sts t
theorem PSsi.mk {X : Cx} {sts : List Stmt} {t : TS} (h : PSs X sts t) : PSsi X sts t := by unfold PSsi; exact h
theorem PSsi.out {X : Cx} {sts : List Stmt} {t : TS} (h : PSsi X sts t) : PSs X sts t := by unfold PSsi at h; exact h
theorem pss_consI {X : Cx} {st : Stmt} {rest : List Stmt} {t u : TS} (h : PSi X st t) (r : PSs X rest u) : PSsi X (st :: rest) (tSeq t u) := .mk (pss_cons h.out r)
theorem ps_setT {X : Cx} {i : Nat} {x : Str} {es : List Expr} {vs : List V} {k : Nat} {pos pos' p2 : Pos} (hN : X.N.Nodup) (hi : X.N[i]? = some x) (hx : Loc X.env.scope x) (h : constInts es = some vs)
    (hs : swapsWith (.Tuple es k p2) (some (.Name x pos')) pos.line X.env = pure false) (hf : X.fn x = true ∨ X.env.scope.names.lookup x = some .local) :
    PSi X (.Assign [.Name x pos'] (.Tuple es k p2) pos) (tAsg (tTup fun _ H Q => Q vs H) (gName i)) := .mk (ps_set hN hi hx (pe_tup (pa_ints h)) hs hf)
theorem Fun.okI {P : Program} {w : World} {K : PySem.W.Frag} {mg : Str → Option Value} {base : Heap} {x qual : Str} {st : Stmt} {f : Addr} {fd : FuncData} {N ps : List Str} {k : Nat} {sp : Sp} (F : Fun K x qual st f fd) (S : FnScope N ps (defScope st)) (len : ∀ vs H Q E, sp vs H Q E → vs.length = ps.length)
    (hbody : ∀ (cdv : Value) (A : Around) (outer : List Env) (s : Shared) (H : Hp) (vs : List V) (Q : VK) (E : XK), Room k (A.deeper (envOfC qual (defScope st) s.heap.objs.size f cdv)) → sp vs H Q E →
      ∃ t, PSsi (cxOf CX0 P w K mg base N qual (defScope st) f cdv A outer s H E).nox (defBody st) t ∧ t { nx := fun _ H' => Q .non H', rt := Q } (start N vs) H) : FnOk P w K mg base CX0 (k + 1) f fd ps sp :=
  F.ok S len fun cdv A outer s H vs Q E hr hsp => let ⟨t, h1, h2⟩ := hbody cdv A outer s H vs Q E hr hsp; ⟨t, h1.out, h2⟩
/-! ### displays within displays, not to be looked into -/
@[irreducible] def PEi (X : Cx) (e : Expr) (t : TE) : Prop := PE X e t
theorem PEi.mk {X : Cx} {e : Expr} {t : TE} (h : PE X e t) : PEi X e t := by unfold PEi; exact h
theorem PEi.out {X : Cx} {e : Expr} {t : TE} (h : PEi X e t) : PE X e t := by unfold PEi at h; exact h
@[irreducible] def PAi (X : Cx) (es : List Expr) (t : TA) : Prop := PA X es t
theorem PAi.mk {X : Cx} {e : List Expr} {t : TA} (h : PA X e t) : PAi X e t := by unfold PAi; exact h
theorem PAi.out {X : Cx} {e : List Expr} {t : TA} (h : PAi X e t) : PA X e t := by unfold PAi at h; exact h
section
variable {X : Cx}
theorem pai_nil : PAi X [] tNil := .mk pa_nil
theorem pai_str {x : Str} {j : Nat} {pos : Pos} {es : List Expr} {t : TA} (r : PAi X es t) : PAi X (.Constant (.str x) j pos :: es) (tCons (tC (.str x)) t) := .mk (pa_cons pe_str r.out)
theorem pai_int {i : Int} {j : Nat} {pos : Pos} {es : List Expr} {t : TA} (r : PAi X es t) : PAi X (.Constant (.int i) j pos :: es) (tCons (tC (.int i)) t) := .mk (pa_cons pe_int r.out)
theorem pai_tup {es rest : List Expr} {k : Nat} {p : Pos} {t u : TA} (h : PAi X es t) (r : PAi X rest u) : PAi X (.Tuple es k p :: rest) (tCons (tTup t) u) := .mk (pa_consT (pe_tup h.out) r.out)
theorem pai_lst {es rest : List Expr} {p : Pos} {t u : TA} (h : PAi X es t) (r : PAi X rest u) : PAi X (.List es p :: rest) (tCons (tLst t) u) := .mk (pa_consL (pe_lst h.out) r.out)
theorem pss_cons2 {st : Stmt} {rest : List Stmt} {t u : TS} (h : PS X st t) (r : PSsi X rest u) : PSsi X (st :: rest) (tSeq t u) := .mk (pss_cons h r.out)
end
end MG

set_option Elab.async false
set_option linter.all false
set_option maxRecDepth 100000
set_option maxHeartbeats 1000000
set_option exponentiation.threshold 1100
namespace MG
open PySem PySem.Spec PyProof.Rows L2
section
variable {P : Program} {w : World} {K : PySem.W.Frag} {mg : Str → Option Value} {base : Heap}
/-! ### the law's numbers -/
def IntsAt (K : PySem.W.Frag) (H : Hp) (S : Addr) : Prop := ∃ zs : List Int, (∃ o, H S = some (.frz o (.lst (zs.map V.int)))) ∨ ∀ H', SqL K H' S (zs.map V.int)
theorem IntsAt.sq {K : PySem.W.Frag} {H : Hp} {S : Addr} (h : IntsAt K H S) : ∃ zs : List Int, SqL K H S (zs.map V.int) := by
  obtain ⟨zs, ⟨o, e⟩ | e⟩ := h
  · exact ⟨zs, .inl (.inr ⟨o, e⟩)⟩
  · exact ⟨zs, e H⟩
theorem IntsAt.same {K : PySem.W.Frag} {H H' : Hp} {S : Addr} (h : IntsAt K H S) (k : Same H H') : IntsAt K H' S := by
  obtain ⟨zs, ⟨o, e⟩ | e⟩ := h
  · exact ⟨zs, .inl ⟨o, k _ _ e⟩⟩
  · exact ⟨zs, .inr e⟩
theorem IntsAt.but {K : PySem.W.Frag} {U : List Addr} {H H' : Hp} {S : Addr} (h : IntsAt K H S) (l : Lists U H) (k : But U H H') : IntsAt K H' S := by
  obtain ⟨zs, ⟨o, e⟩ | e⟩ := h
  · refine ⟨zs, .inl ⟨o, k _ _ (fun m => ?_) e⟩⟩
    obtain ⟨xs, q⟩ := l S m
    rw [e] at q; cases q
  · exact ⟨zs, .inr e⟩
def spCell (K : PySem.W.Frag) : Sp := fun vs H Q _ => ∃ S k, vs = [.ref S, .int k] ∧ IntsAt K H S ∧ 0 ≤ k ∧ ∀ c, Q (.int c) H
theorem ok_cell_at {f : Addr} {fd : FuncData} (F : Fun K "_law_cell_at" "_law_cell_at" s_law_cell_at f fd) (b : ∀ x ∈ blts, mg x = none) : FnOk P w K mg base CX0 5 f fd ["_law_script", "_law_k"] (spCell K) := by
  refine F.ok sc_law_cell_at (fun vs H Q E h => ?_) (fun cdv A outer s H vs Q E hr h => ?_)
  · obtain ⟨i, k, rfl, _⟩ := h; rfl
  · obtain ⟨S, k, rfl, hS0, hk, q⟩ := h
    obtain ⟨zs, hS⟩ := hS0.sq
    refine ⟨_, (pss_cons (ps_if (pt_cmpR op_lt (pv 1) (pe_callB call_len_seq (by rfl) (b "len" (by decide +kernel)) (by decide +kernel) (pa_cons (pv 0) pa_nil)) (nomark _)) (pss_one (ps_ret (pe_ix ix_list (pv 0) (pv 1) (fun _ _ => rfl)))) pss_nil) (pss_one (ps_ret pe_int))), ?_⟩
    refine ⟨_, rfl, _, rfl, S, _, rfl, .inl (hS), _, _, rfl, rfl, _, rfl, ?_⟩
    rw [List.length_map]
    by_cases h : k < (zs.length : Int)
    · rw [decide_eq_true h]
      obtain ⟨n, rfl⟩ := Int.eq_ofNat_of_zero_le hk
      have hn : n < zs.length := by omega
      refine iteT ⟨_, rfl, _, rfl, S, _, _, _, rfl, rfl, hS, atI_nat (j := n) (by rw [List.getElem?_map, List.getElem?_eq_getElem hn]; rfl), q _⟩
    · rw [decide_eq_false h]
      exact iteF (q 0)
def spDraw : Sp := fun vs H Q _ => ∃ c k m, vs = [.int c, .int k, .int m] ∧ 0 ≤ k ∧ k ≤ 1000 ∧ 0 < m ∧ ∀ n H', Same H H' → 0 ≤ n → n < m → Q (.int n) H'
theorem ok_draw {f : Addr} {fd : FuncData} (F : Fun K "_law_draw" "_law_draw" s_law_draw f fd) (b : ∀ x ∈ blts, mg x = none) : FnOk P w K mg base CX0 5 f fd ["_law_cell", "_law_k", "_law_most"] spDraw := by
  refine Fun.okI F sc_law_draw (fun vs H Q E h => ?_) (fun cdv A outer s H vs Q E hr h => ?_)
  · obtain ⟨i, k, m, rfl, _⟩ := h; rfl
  · obtain ⟨c, k, m, rfl, hk, hk2, hm, q⟩ := h
    refine ⟨_, (pss_consI (ps_setT (i := 3) sc_law_draw.nd rfl (by first | exact Or.inl rfl | exact Or.inr rfl) (by rfl) (by rfl) (by first | exact .inl rfl | exact .inr rfl)) (pss_one (ps_ret (pe_op op_mod (pe_op op_mod (pe_op op_add (pe_op op_mul (pv 0) pe_int) (pe_op op_mul (pv 1) pe_int)) (pe_ix ix_tup (pv 3) (pe_op op_mod (pv 1) pe_int) (fun _ _ => rfl))) (pv 2))))), ?_⟩
    refine ⟨by show 16 ≤ sizeLine; decide, fun p hp => ?_⟩
    refine ⟨_, rfl, _, _, rfl, rfl, .inr (by decide), _, rfl, _, _, rfl, rfl, .inr (by decide), _, _, rfl, rfl, ?_⟩
    refine ⟨_, rfl, _, rfl, _, _, rfl, rfl, (by decide : (0 : Int) < 16), ?_⟩
    have h0 : 0 ≤ k % 16 := Int.emod_nonneg _ (by decide)
    have h1 : k % 16 < 16 := Int.emod_lt_of_pos _ (by decide)
    obtain ⟨j, hj⟩ := Int.eq_ofNat_of_zero_le h0
    have hj2 : j < 16 := by omega
    have hpr : ∃ pr : Int, 0 < pr ∧ ([V.int 1000003, .int 1000033, .int 1000037, .int 1000039, .int 1000081, .int 1000099, .int 1000117, .int 1000121, .int 1000133, .int 1000151, .int 1000159, .int 1000171, .int 1000183, .int 1000187, .int 1000193, .int 1000199] : List V)[j]? = some (.int pr) := by
      have : ∀ j, j < 16 → ∃ pr : Int, 0 < pr ∧ ([V.int 1000003, .int 1000033, .int 1000037, .int 1000039, .int 1000081, .int 1000099, .int 1000117, .int 1000121, .int 1000133, .int 1000151, .int 1000159, .int 1000171, .int 1000183, .int 1000187, .int 1000193, .int 1000199] : List V)[j]? = some (.int pr) := by
        intro j hj
        match j, hj with
        | 0, _ => exact ⟨_, by decide, rfl⟩
        | 1, _ => exact ⟨_, by decide, rfl⟩
        | 2, _ => exact ⟨_, by decide, rfl⟩
        | 3, _ => exact ⟨_, by decide, rfl⟩
        | 4, _ => exact ⟨_, by decide, rfl⟩
        | 5, _ => exact ⟨_, by decide, rfl⟩
        | 6, _ => exact ⟨_, by decide, rfl⟩
        | 7, _ => exact ⟨_, by decide, rfl⟩
        | 8, _ => exact ⟨_, by decide, rfl⟩
        | 9, _ => exact ⟨_, by decide, rfl⟩
        | 10, _ => exact ⟨_, by decide, rfl⟩
        | 11, _ => exact ⟨_, by decide, rfl⟩
        | 12, _ => exact ⟨_, by decide, rfl⟩
        | 13, _ => exact ⟨_, by decide, rfl⟩
        | 14, _ => exact ⟨_, by decide, rfl⟩
        | 15, _ => exact ⟨_, by decide, rfl⟩
        | n + 16, h => omega
      exact this j hj2
    obtain ⟨pr, hp1, hp2⟩ := hpr
    refine ⟨p, _, _, _, rfl, rfl, SqT.of upd_same, by rw [hj]; exact atI_nat hp2, _, _, rfl, rfl, hp1, _, rfl, _, _, rfl, rfl, hm, ?_⟩
    exact q _ _ (same_upd hp) (Int.emod_nonneg _ (by omega)) (Int.emod_lt_of_pos _ hm)
def spNum : Sp := fun vs H Q _ => ∃ c k m, vs = [.int c, .int k, .int m] ∧ 0 ≤ k ∧ k ≤ 1000 ∧ 0 < m ∧ m ≤ 1000 ∧ ∀ n H', Same H H' → 0 ≤ n → n < m → Q (.int n) H'
theorem ok_number {f : Addr} {fd : FuncData} (F : Fun K "_law_number" "_law_number" s_law_number f fd) (b : ∀ x ∈ blts, mg x = none) (c_law_draw : Cal P w K mg base "_law_draw" 5 ["_law_cell", "_law_k", "_law_most"] spDraw) : FnOk P w K mg base CX0 10 f fd ["_law_cell", "_law_k", "_law_limit"] spNum := by
  refine F.ok sc_law_number (fun vs H Q E h => ?_) (fun cdv A outer s H vs Q E hr h => ?_)
  · obtain ⟨i, k, m, rfl, _⟩ := h; rfl
  · obtain ⟨c, k, m, rfl, hk, hk2, hm, hm2, q⟩ := h
    refine ⟨_, (pss_cons (ps_if (pt_cmpR op_ge (pv 0) (pe_op op_pow pe_int pe_int) (nomark _)) (pss_cons (ps_set (i := 3) sc_law_number.nd rfl (by first | exact Or.inl rfl | exact Or.inr rfl) (pe_ix ix_tup (pe_tup (pa_cons pe_int (pa_cons pe_int (pa_cons pe_int (pa_cons pe_int (pa_cons pe_int pa_nil)))))) (pe_op op_mod (pv 1) pe_int) (fun _ _ => rfl))) (pss_one (ps_ret (pe_op op_fdiv (pe_op op_mod (pe_op op_sub (pv 0) (pe_op op_pow pe_int pe_int)) (pe_op op_mul (pv 3) (pv 2))) (pv 3))))) pss_nil) (pss_cons (ps_if (pt_cmpR op_lt (pv 0) (pe_un un_neg (pe_op op_pow pe_int pe_int)) (nomark _)) (pss_one (ps_set (i := 0) sc_law_number.nd rfl (by first | exact Or.inl rfl | exact Or.inr rfl) (pe_op op_mod (pv 0) pe_int))) pss_nil) (pss_one (ps_ret (pe_op op_mod (pe_cal c_law_draw (hr.mono (by decide)) (by rfl) (pa_cons (pe_op op_mulB (pe_op op_add (pv 0) (pe_op op_mul pe_int (pv 1))) (pe_op op_add (pe_op op_add (pv 0) (pe_op op_mul pe_int (pv 1))) pe_int)) (pa_cons (pe_op op_add (pe_op op_mod (pv 1) pe_int) pe_int) (pa_cons pe_int pa_nil)))) (pv 2)))))), ?_⟩
    have e18 : ((10 : Int) ^ (18 : Int).toNat) = 1000000000000000000 := by decide
    refine ⟨_, rfl, _, _, rfl, rfl, ⟨by decide, by decide, by decide⟩, _, _, rfl, rfl, _, rfl, ?_⟩
    rw [e18]
    by_cases h : (1000000000000000000 : Int) ≤ c
    · rw [decide_eq_true h]
      refine iteT ⟨by show 5 ≤ sizeLine; decide, fun p hp => ?_⟩
      refine ⟨_, rfl, _, _, rfl, rfl, (by decide : (0 : Int) < 5), ?_⟩
      have h0 : 0 ≤ k % 5 := Int.emod_nonneg _ (by decide)
      have h1 : k % 5 < 5 := Int.emod_lt_of_pos _ (by decide)
      obtain ⟨j, hj⟩ := Int.eq_ofNat_of_zero_le h0
      have hpr : ∃ d : Int, 0 < d ∧ d < 10000 ∧ ([V.int 1, .int 7, .int 49, .int 343, .int 2401] : List V)[j]? = some (.int d) := by
        have hj2 : j < 5 := by omega
        have : ∀ j, j < 5 → ∃ d : Int, 0 < d ∧ d < 10000 ∧ ([V.int 1, .int 7, .int 49, .int 343, .int 2401] : List V)[j]? = some (.int d) := by
          intro j hj
          match j, hj with
          | 0, _ => exact ⟨_, by decide, by decide, rfl⟩
          | 1, _ => exact ⟨_, by decide, by decide, rfl⟩
          | 2, _ => exact ⟨_, by decide, by decide, rfl⟩
          | 3, _ => exact ⟨_, by decide, by decide, rfl⟩
          | 4, _ => exact ⟨_, by decide, by decide, rfl⟩
          | n + 5, h => omega
        exact this j hj2
      obtain ⟨d, hd1, hd2, hd3⟩ := hpr
      refine ⟨p, _, _, _, rfl, rfl, SqT.of upd_same, by rw [hj]; exact atI_nat hd3, ?_⟩
      have hdm : 0 < d * m := Int.mul_pos hd1 hm
      refine ⟨_, rfl, _, _, rfl, rfl, ⟨by decide, by decide, by decide⟩, _, _, rfl, rfl, ?_⟩
      refine ⟨_, rfl, _, rfl, _, _, rfl, rfl, .inl ⟨by omega, by omega⟩, _, _, rfl, rfl, hdm, _, rfl, _, _, rfl, rfl, ⟨hd1, by omega⟩, ?_⟩
      have n0 := Int.emod_nonneg (c - 10 ^ (18 : Int).toNat) (Int.ne_of_gt hdm)
      have n1 := Int.emod_lt_of_pos (c - 10 ^ (18 : Int).toNat) hdm
      refine q _ _ (same_upd hp) (Int.ediv_nonneg n0 (by omega)) ?_
      refine Int.ediv_lt_of_lt_mul hd1 ?_
      rw [Int.mul_comm m d]; exact n1
    · rw [decide_eq_false h]
      refine iteF ?_
      dsimp only [tNext]
      refine ⟨_, rfl, _, _, rfl, rfl, ⟨by decide, by decide, by decide⟩, _, rfl, _, _, rfl, rfl, _, rfl, ?_⟩
      rw [e18]
      have fin : ∀ c' : Int, c'.natAbs < 2 ^ 999 → tRet
        (tOp (rI (fun x j => 0 < j) fun i j => V.int (i % j))
          (tCall spDraw [] E0
            (tCons
              (tOp (rI (fun i j => i.natAbs < 2 ^ 1000 ∧ j.natAbs < 2 ^ 1000) fun i j => V.int (i * j))
                (tOp (rI0 fun i j => V.int (i + j)) (tVar 0)
                  (tOp (rI CMul fun i j => V.int (i * j)) (tC (V.int 977)) (tVar 1)))
                (tOp (rI0 fun i j => V.int (i + j))
                  (tOp (rI0 fun i j => V.int (i + j)) (tVar 0)
                    (tOp (rI CMul fun i j => V.int (i * j)) (tC (V.int 31)) (tVar 1)))
                  (tC (V.int 5))))
              (tCons
                (tOp (rI0 fun i j => V.int (i + j))
                  (tOp (rI (fun x j => 0 < j) fun i j => V.int (i % j)) (tVar 1) (tC (V.int 9))) (tC (V.int 1)))
                (tCons (tC (V.int 999983)) tNil))))
          (tVar 2)) { nx := fun x H' => Q V.non H', rt := Q } [some (.int c'), some (.int k), some (.int m), none] H := by
        intro c' hc
        have b999 : (2 : Nat) ^ 1000 = 2 * 2 ^ 999 := by decide
        have bbig : (1000000 : Nat) ≤ 2 ^ 999 := by decide
        have k0 : 0 ≤ k % 9 := Int.emod_nonneg _ (by decide)
        have k1 : k % 9 < 9 := Int.emod_lt_of_pos _ (by decide)
        refine ⟨_, rfl, _, rfl, _, _, rfl, rfl, .inl ⟨by decide, by decide⟩, _, _, rfl, rfl, ?_⟩
        refine ⟨_, rfl, _, rfl, _, _, rfl, rfl, .inl ⟨by decide, by decide⟩, _, _, rfl, rfl, _, _, rfl, rfl, ?_⟩
        refine ⟨_, _, rfl, rfl, ⟨?_, ?_⟩, ?_⟩
        · generalize (2 : Nat) ^ 999 = X at *; omega
        · generalize (2 : Nat) ^ 999 = X at *; omega
        refine ⟨_, rfl, _, _, rfl, rfl, (by decide : (0 : Int) < 9), _, _, rfl, rfl, ?_⟩
        refine ⟨_, _, _, rfl, by omega, by omega, by decide, fun n H' s' h1 h2 => ?_⟩
        exact ⟨_, rfl, _, _, rfl, rfl, hm, q _ _ s' (Int.emod_nonneg _ (by omega)) (Int.emod_lt_of_pos _ hm)⟩
      by_cases h2 : c < -1000000000000000000
      · rw [decide_eq_true h2]
        refine iteT ⟨_, rfl, _, _, rfl, rfl, (by decide : (0 : Int) < 1000811284336359577647248616306026718125307353262274591), ?_⟩
        refine fin _ ?_
        have m0 := Int.emod_nonneg c (show (1000811284336359577647248616306026718125307353262274591 : Int) ≠ 0 by decide)
        have m1 := Int.emod_lt_of_pos c (show (0 : Int) < 1000811284336359577647248616306026718125307353262274591 by decide)
        have bb : 1000811284336359577647248616306026718125307353262274591 ≤ 2 ^ 999 := by decide
        generalize (2 : Nat) ^ 999 = X at *; omega
      · rw [decide_eq_false h2]
        refine iteF (fin c ?_)
        have bb : 1000811284336359577647248616306026718125307353262274591 ≤ 2 ^ 999 := by decide
        generalize (2 : Nat) ^ 999 = X at *; omega
def nms : List Str := ["a", "b", "c", "go", "mid", "zz"]
def spNames : Sp := fun vs H Q _ => vs = [] ∧ ∀ p, H p = none → Q (.ref p) (upd H p (.tup (nms.map V.str)))
theorem ok_names {f : Addr} {fd : FuncData} (F : Fun K "_law_names" "_law_names" s_law_names f fd) : FnOk P w K mg base CX0 5 f fd [] spNames := by
  refine F.ok sc_law_names (fun vs H Q E h => ?_) (fun cdv A outer s H vs Q E hr h => ?_)
  · obtain ⟨rfl, _⟩ := h; rfl
  · obtain ⟨rfl, q⟩ := h
    refine ⟨_, (pss_one (ps_ret (pe_tup (pa_cons pe_str (pa_cons pe_str (pa_cons pe_str (pa_cons pe_str (pa_cons pe_str (pa_cons pe_str pa_nil))))))))), ?_⟩
    exact ⟨by show 6 ≤ sizeLine; decide, fun p hp => q p hp⟩
end
end MG

set_option Elab.async false
set_option linter.all false
set_option maxRecDepth 100000
set_option maxHeartbeats 1000000
namespace MG
open PySem PySem.Spec PyProof.Rows L2
section
variable {P : Program} {w : World} {K : PySem.W.Frag} {mg : Str → Option Value} {base : Heap}
/-! ### a step -/
theorem nms_at {j : Nat} (h : j < 6) : ∃ x, x ∈ nms ∧ (nms.map V.str)[j]? = some (.str x) := by
  have e : nms[j]? = some nms[j] := List.getElem?_eq_getElem h
  exact ⟨nms[j], List.getElem_mem h, by rw [List.getElem?_map, e]; rfl⟩
theorem nms_ok : ∀ x ∈ nms, WordOk x := by
  intro x hx
  have : nms.all (fun x => decide (1 ≤ x.length) && decide (x.length ≤ 8) && x.cps.toList.all isLow) = true := by decide +kernel
  have h := List.all_eq_true.mp this x hx
  simp only [Bool.and_eq_true, decide_eq_true_eq] at h
  exact ⟨h.1.1, h.1.2, h.2⟩
def spStepL : Sp := fun vs H Q _ => ∃ c k, vs = [.int c, .int k] ∧ 0 ≤ k ∧ k ≤ 500 ∧ ∀ H' t st, Same H H' → StepAt H' (.ref t) st → st.ok → Q (.ref t) H'
theorem ok_law_step {f : Addr} {fd : FuncData} (F : Fun K "_law_step" "_law_step" s_law_step f fd) (b : ∀ x ∈ blts, mg x = none) (c_law_number : Cal P w K mg base "_law_number" 10 ["_law_cell", "_law_k", "_law_limit"] spNum) (c_law_names : Cal P w K mg base "_law_names" 5 [] spNames) :
    FnOk P w K mg base CX0 20 f fd ["_law_cell", "_law_at"] spStepL := by
  refine F.ok sc_law_step (fun vs H Q E h => ?_) (fun cdv A outer s H vs Q E hr h => ?_)
  · obtain ⟨i, k, rfl, _⟩ := h; rfl
  · obtain ⟨c, k, rfl, hk, hk2, q⟩ := h
    refine ⟨_, (pss_cons (ps_par (i := 2) (j := 3) (by rfl) sc_law_step.nd rfl rfl (by decide) rfl rfl (pa_cons (pe_cal c_law_number (hr.mono (by decide)) (by rfl) (pa_cons (pv 0) (pa_cons (pv 1) (pa_cons pe_int pa_nil)))) (pa_cons (pe_cal c_law_number (hr.mono (by decide)) (by rfl) (pa_cons (pv 0) (pa_cons (pe_op op_add (pv 1) pe_int) (pa_cons pe_int pa_nil)))) pa_nil)) (by rfl)) (pss_cons (ps_if (pt_cmpR op_lt (pv 2) pe_int (nomark _)) (pss_one (ps_ret (pe_tup (pa_cons pe_str pa_nil)))) pss_nil) (pss_cons (ps_if (pt_cmpR op_lt (pv 2) pe_int (nomark _)) (pss_cons (ps_set (i := 4) sc_law_step.nd rfl (by first | exact Or.inl rfl | exact Or.inr rfl) (pe_ifExp (pt_cmpR op_eq (pe_op op_mod (pv 3) pe_int) pe_int (nomark _)) (pe_op op_sub (pe_op op_mod (pv 3) pe_int) pe_int) (pe_op op_sub (pe_op op_mod (pv 3) pe_int) pe_int))) (pss_one (ps_ret (pe_tup (pa_cons (pe_ix ix_tup (pe_tup (pa_cons pe_str (pa_cons pe_str (pa_cons pe_str (pa_cons pe_str pa_nil))))) (pe_op op_sub (pv 2) pe_int) (fun _ _ => rfl)) (pa_cons (pv 4) pa_nil)))))) pss_nil) (pss_cons (ps_if (pt_cmpR op_eq (pv 2) pe_int (nomark _)) (pss_one (ps_ret (pe_tup (pa_cons pe_str pa_nil)))) pss_nil) (pss_cons (ps_if (PW.pt (pw_and (pt_cmpR op_eq (pv 2) pe_int (nomark _)) (pw_and1 (pt_cmpR op_eq (pe_op op_mod (pv 3) pe_int) pe_int (nomark _))))) (pss_one (ps_ret (pe_tup (pa_cons pe_str pa_nil)))) pss_nil) (pss_one (ps_ret (pe_tup (pa_cons (pe_ix ix_tup (pe_tup (pa_cons pe_str (pa_cons pe_str (pa_cons pe_str pa_nil)))) (pe_op op_mod (pv 3) pe_int) (fun _ _ => rfl)) (pa_cons (pe_ix ix_tup (pe_cal0 c_law_names (hr.mono (by decide)) (by rfl)) (pe_op op_mod (pe_op op_fdiv (pv 3) pe_int) pe_int) (fun _ _ => rfl)) pa_nil)))))))))), ?_⟩
    refine ⟨_, rfl, _, rfl, c, k, 14, rfl, hk, by omega, by decide, by decide, fun kd H1 s1 kd0 kd1 => ?_⟩
    refine ⟨_, rfl, _, rfl, _, _, rfl, rfl, c, k + 7, 900, rfl, by omega, by omega, by decide, by decide, fun mo H2 s2 mo0 mo1 => ?_⟩
    refine ⟨_, _, rfl, ?_⟩
    have s12 := s1.trans s2
    refine ⟨_, rfl, _, _, rfl, rfl, _, rfl, ?_⟩
    by_cases h3 : kd < 3
    · rw [decide_eq_true h3]
      exact iteT ⟨by show 1 ≤ sizeLine; decide, fun p hp => q _ p .say (s12.trans (same_upd hp)) ⟨p, rfl, upd_same⟩ trivial⟩
    rw [decide_eq_false h3]
    refine iteF ?_
    dsimp only [tNext]
    refine ⟨_, rfl, _, _, rfl, rfl, _, rfl, ?_⟩
    by_cases h7 : kd < 7
    · rw [decide_eq_true h7]
      have p199 : (0 : Int) < 199 := by decide
      have p11 : (0 : Int) < 11 := by decide
      have p7 : (0 : Int) < 7 := by decide
      obtain ⟨j, hj⟩ := Int.eq_ofNat_of_zero_le (show 0 ≤ kd - 3 by omega)
      have hj4 : j < 4 := by omega
      refine iteT ⟨_, rfl, _, _, rfl, rfl, p11, rfl, _, rfl, ?_⟩
      have rest : ∀ am : Int, -99 ≤ am → am ≤ 99 → tTup (tCons (tOp (rIxT K) (tTup (tCons (tC (V.str (Str.ofString "plus"))) (tCons (tC (V.str (Str.ofString "times"))) (tCons (tC (V.str (Str.ofString "turn"))) (tCons (tC (V.str (Str.ofString "plus"))) tNil))))) (tOp (rI0 fun i j => V.int (i - j)) (tVar 2) (tC (V.int 3)))) (tCons (tVar 4) tNil)) [some (.int c), some (.int k), some (.int kd), some (.int mo), some (.int am)] H2 Q := by
        intro am a0 a1
        refine ⟨by show 4 ≤ sizeLine; decide, fun p hp => ⟨_, rfl, _, _, rfl, rfl, ?_⟩⟩
        have : ∃ x st, ([V.str "plus", .str "times", .str "turn", .str "plus"] : List V)[j]? = some (.str x) ∧ Stp.vals st = [.str x, .int am] ∧ st.ok := by
          match j, hj4 with
          | 0, _ => exact ⟨_, .plus am, rfl, rfl, a0, a1⟩
          | 1, _ => exact ⟨_, .times am, rfl, rfl, a0, a1⟩
          | 2, _ => exact ⟨_, .turn am, rfl, rfl, a0, a1⟩
          | 3, _ => exact ⟨_, .plus am, rfl, rfl, a0, a1⟩
          | n + 4, h => omega
        obtain ⟨x, st, h1, h2, h3⟩ := this
        refine ⟨p, _, _, _, rfl, rfl, SqT.of upd_same, by rw [hj]; exact atI_nat h1, _, rfl, by show 2 ≤ sizeLine; decide, fun p2 hp2 => ?_⟩
        exact q _ p2 st (s12.trans (supd (same_upd hp) hp2)) ⟨p2, rfl, by rw [h2]; exact upd_same⟩ h3
      by_cases h11 : (V.int (mo % 11)) = V.int 0
      · rw [decide_eq_true h11]
        have m0 := Int.emod_nonneg mo (show (199 : Int) ≠ 0 by decide)
        have m1 := Int.emod_lt_of_pos mo p199
        exact iteT ⟨_, rfl, _, _, rfl, rfl, p199, _, _, rfl, rfl, rest _ (by omega) (by omega)⟩
      · rw [decide_eq_false h11]
        have m0 := Int.emod_nonneg mo (show (7 : Int) ≠ 0 by decide)
        have m1 := Int.emod_lt_of_pos mo p7
        exact iteF ⟨_, rfl, _, _, rfl, rfl, p7, _, _, rfl, rfl, rest _ (by omega) (by omega)⟩
    rw [decide_eq_false h7]
    refine iteF ?_
    dsimp only [tNext]
    refine ⟨_, rfl, rfl, _, rfl, ?_⟩
    by_cases e7 : V.int kd = V.int 7
    · rw [decide_eq_true e7]
      exact iteT ⟨by show 1 ≤ sizeLine; decide, fun p hp => q _ p .hear (s12.trans (same_upd hp)) ⟨p, rfl, upd_same⟩ trivial⟩
    rw [decide_eq_false e7]
    refine iteF ?_
    dsimp only [tNext]
    have p3 : (0 : Int) < 3 := by decide
    have p6 : (0 : Int) < 6 := by decide
    have last : tTup (tCons (tOp (rIxT K) (tTup (tCons (tC (V.str (Str.ofString "ask"))) (tCons (tC (V.str (Str.ofString "odd"))) (tCons (tC (V.str (Str.ofString "odd"))) tNil)))) (tOp (rI (fun x j => 0 < j) fun i j => V.int (i % j)) (tVar 3) (tC (V.int 3)))) (tCons (tOp (rIxT K) (tCall spNames [] E0 tNil) (tOp (rI (fun x j => 0 < j) fun i j => V.int (i % j)) (tOp (rI CDiv fun i j => V.int (i / j)) (tVar 3) (tC (V.int 3))) (tC (V.int 6)))) tNil)) [some (.int c), some (.int k), some (.int kd), some (.int mo), none] H2 Q := by
      have m0 := Int.emod_nonneg mo (show (3 : Int) ≠ 0 by decide)
      have m1 := Int.emod_lt_of_pos mo p3
      obtain ⟨j, hj⟩ := Int.eq_ofNat_of_zero_le m0
      have n0 := Int.emod_nonneg (mo / 3) (show (6 : Int) ≠ 0 by decide)
      have n1 := Int.emod_lt_of_pos (mo / 3) p6
      obtain ⟨i, hi⟩ := Int.eq_ofNat_of_zero_le n0
      obtain ⟨x, hx, hxi⟩ := nms_at (j := i) (by omega)
      have hj3 : j < 3 := by omega
      have : ∃ y st, ([V.str "ask", .str "odd", .str "odd"] : List V)[j]? = some (.str y) ∧ Stp.vals st = [.str y, .str x] ∧ st.ok := by
        match j, hj3 with
        | 0, _ => exact ⟨_, .ask x, rfl, rfl, nms_ok x hx⟩
        | 1, _ => exact ⟨_, .odd x, rfl, rfl, nms_ok x hx⟩
        | 2, _ => exact ⟨_, .odd x, rfl, rfl, nms_ok x hx⟩
        | n + 3, h => omega
      obtain ⟨y, st, h1, h2, h3⟩ := this
      refine ⟨by show 3 ≤ sizeLine; decide, fun p hp => ⟨_, rfl, _, _, rfl, rfl, p3, ?_⟩⟩
      refine ⟨p, _, _, _, rfl, rfl, SqT.of upd_same, by rw [hj]; exact atI_nat h1, rfl, fun p2 hp2 => ?_⟩
      refine ⟨_, rfl, _, _, rfl, rfl, ⟨p3, by decide⟩, _, _, rfl, rfl, p6, ?_⟩
      refine ⟨p2, _, _, _, rfl, rfl, SqT.of upd_same, by rw [hi]; exact atI_nat hxi, by show 2 ≤ sizeLine; decide, fun p4 hp4 => ?_⟩
      exact q _ p4 st (s12.trans (supd (supd (same_upd hp) hp2) hp4)) ⟨p4, rfl, by rw [h2]; exact upd_same⟩ h3
    refine ⟨_, rfl, rfl, _, rfl, ?_⟩
    by_cases e8 : V.int kd = V.int 8
    · rw [decide_eq_true e8]
      refine iteT ⟨_, rfl, _, _, rfl, rfl, p3, rfl, _, rfl, ?_⟩
      by_cases e3 : V.int (mo % 3) = V.int 0
      · rw [decide_eq_true e3]
        exact iteT ⟨by show 1 ≤ sizeLine; decide, fun p hp => q _ p .fin (s12.trans (same_upd hp)) ⟨p, rfl, upd_same⟩ trivial⟩
      · rw [decide_eq_false e3]
        exact iteF last
    · rw [decide_eq_false e8]
      exact iteF (iteF last)
/-! ### a body -/
def spBodyL : Sp := fun vs H Q _ => ∃ c k, vs = [.int c, .int k] ∧ 0 ≤ k ∧ k ≤ 200 ∧ ∀ H' D ss, Same H H' → H D = none → BodyAt H' D ss → BodyOk ss → Q (.ref D) H'
theorem ok_law_body {f : Addr} {fd : FuncData} (F : Fun K "_law_body" "_law_body" s_law_body f fd) (b : ∀ x ∈ blts, mg x = none) (c_law_number : Cal P w K mg base "_law_number" 10 ["_law_cell", "_law_k", "_law_limit"] spNum) (c_law_step : Cal P w K mg base "_law_step" 20 ["_law_cell", "_law_at"] spStepL) :
    FnOk P w K mg base CX0 30 f fd ["_law_cell", "_law_at"] spBodyL := by
  refine F.ok sc_law_body (fun vs H Q E h => ?_) (fun cdv A outer s H vs Q E hr h => ?_)
  · obtain ⟨i, k, rfl, _⟩ := h; rfl
  · obtain ⟨c, k, rfl, hk, hk2, q⟩ := h
    refine ⟨_, (pss_cons (ps_set (i := 2) sc_law_body.nd rfl (by first | exact Or.inl rfl | exact Or.inr rfl) (pe_ifExp (pt_cmpR op_eq (pe_cal c_law_number (hr.mono (by decide)) (by rfl) (pa_cons (pv 0) (pa_cons (pe_op op_add (pv 1) pe_int) (pa_cons pe_int pa_nil)))) pe_int (nomark _)) pe_int (pe_cal c_law_number (hr.mono (by decide)) (by rfl) (pa_cons (pv 0) (pa_cons (pe_op op_add (pv 1) pe_int) (pa_cons pe_int pa_nil)))))) (pss_one (ps_ret (pe_lc (own := [("_law_k", 3)]) rfl sc_law_body.nd (pi_range1 (by rfl) (b "range" (by decide +kernel)) (pa_cons (pv 2) pa_nil)) (blkOk_by (own := [("_law_k", 3)]) (N := N_law_body) (sc := defScope s_law_body) (by decide +kernel)) (fun _ _ _ _ _ => (pg_name (i := 3) sc_law_body.nd rfl (by first | exact Or.inl rfl | exact Or.inr rfl))) (fun _ _ _ _ _ => pts_nil) (fun _ _ _ _ _ => (pe_cal c_law_step (hr.mono (by decide)) (by rfl) (pa_cons (pv 0) (pa_cons (pe_op op_add (pe_op op_add (pv 1) pe_int) (pe_op op_mul pe_int (pv 3))) pa_nil)))))))), ?_⟩
    have fin : ∀ (n : Int) (H1 : Hp), 0 ≤ n → n ≤ 9 → Same H H1 → tLc (iRng1 (tCons (tVar 2) tNil)) (gName 3) tYes (tCall spStepL [] E0 (tCons (tVar 0) (tCons (tOp (rI0 fun i j => V.int (i + j)) (tOp (rI0 fun i j => V.int (i + j)) (tVar 1) (tC (V.int 5))) (tOp (rI CMul fun i j => V.int (i * j)) (tC (V.int 3)) (tVar 3))) tNil))) (List.map (fun x => x.snd) [(Str.ofString "_law_k", 3)]) [some (.int c), some (.int k), some (.int n), none] H1 Q := by
      intro n H1 n0 n9 s1
      refine ⟨_, rfl, n, rfl, by omega, by omega, fun D hD => ?_⟩
      refine lc_range (fun i Hc => Same H1 Hc ∧ ∃ vs ss, Hc D = some (.lst vs) ∧ Paired (StepAt Hc) vs ss ∧ ss.length = i ∧ ∀ x ∈ ss, x.ok) ⟨same_upd hD, [], [], upd_same, .nil, rfl, by simp⟩ ?_ ?_
      · rintro i Hc hi ⟨sc, vs, ss, hv, hP, hl, ok⟩
        refine ⟨rfl, ?_⟩
        dsimp only [tYes]
        refine iteT ⟨_, rfl, _, rfl, _, _, rfl, rfl, _, rfl, _, _, rfl, rfl, .inl ⟨by decide, by decide⟩, _, _, rfl, rfl, ?_⟩
        refine ⟨_, _, rfl, by omega, by omega, fun H3 t st s3 ht okt => ?_⟩
        have hv3 := s3 _ _ hv
        have Ls : Lists [D] H3 := fun a ha => by rw [List.mem_singleton.mp ha]; exact ⟨_, hv3⟩
        refine ⟨vs, hv3, ?_, ?_, vs ++ [.ref t], ss ++ [st], upd_same, ?_, ?_, ?_⟩
        · have := hP.length
          rw [sizeLine_eq]; omega
        · have s13 := sc.trans s3
          intro a u e
          exact But.upd _ _ (by simpa using ne_of_none e hD) (s13 _ _ e)
        · exact paired_snoc (ht.but Ls But.upd) (L2.Paired.mapP hP fun _ _ z => (z.same s3).but Ls But.upd)
        · rw [List.length_append, hl]; rfl
        · intro x hx
          rcases List.mem_append.mp hx with hx | hx
          · exact ok x hx
          · rw [List.mem_singleton.mp hx]; exact okt
      · rintro Hc ⟨sc, vs, ss, hv, hP, hl, ok⟩
        exact q _ D ss (s1.trans sc) (s1.free hD) ⟨vs, hv, hP⟩ ⟨by omega, ok⟩
    refine ⟨_, rfl, _, rfl, _, _, rfl, rfl, c, k + 2, 40, rfl, by omega, by omega, by decide, by decide, fun n H1 s1 n0 n1 => ⟨rfl, _, rfl, ?_⟩⟩
    by_cases e7 : V.int n = V.int 7
    · rw [decide_eq_true e7]
      exact iteT (fin 9 H1 (by decide) (by decide) s1)
    · rw [decide_eq_false e7]
      exact iteF ⟨_, rfl, _, rfl, _, _, rfl, rfl, c, k + 1, 6, rfl, by omega, by omega, by decide, by decide, fun n2 H2 s2 m0 m1 => fin n2 H2 m0 (by omega) (s1.trans s2)⟩
end
end MG

set_option Elab.async false
set_option linter.all false
set_option maxRecDepth 100000
set_option maxHeartbeats 1000000
namespace MG
open PySem PySem.Spec PyProof.Rows L2
section
variable {P : Program} {w : World} {K : PySem.W.Frag} {mg : Str → Option Value} {base : Heap}
/-- for over enumerate(a tuple) -/
theorem for_enumT {K : PySem.W.Frag} {a : Addr} {xs : List V} {g : TG} {tb : TS} {D : Ends} {σ : L2.St} {H : Hp} (Pv : Nat → L2.St → Hp → Prop) (h0 : Pv 0 σ H) (hl : ∀ i σ H, i ≤ xs.length → Pv i σ H → SqT K H a xs)
    (hs : ∀ i x σ H T, xs[i]? = some x → Pv i σ H → H T = none → g (.ref T) σ (upd H T (.tup [.int (i : Nat), x])) fun σ2 H2 => tb { D with nx := Pv (i + 1), ct := Pv (i + 1), bk := D.nx } σ2 H2) (hd : ∀ σ H, Pv xs.length σ H → D.nx σ H) :
    ∃ W : Nat → Nat → L2.St → Hp → Prop, (∃ m, W 0 m σ H) ∧ ∀ i m σ H, W i m σ H →
      ((IteT K a).stop i H ∧ D.nx σ H) ∨ ((IteT K a).go i H ∧ ∃ N : L2.St → Hp → Prop, (∀ σ' H', N σ' H' → ∃ m', m' < m ∧ W (i + 1) m' σ' H') ∧ ∀ x H', (IteT K a).yld i H x H' → g x σ H' fun σ2 H2 => tb { D with nx := N, ct := N, bk := D.nx } σ2 H2) := by
  refine ⟨fun i m σ H => m = xs.length - i ∧ i ≤ xs.length ∧ Pv i σ H, ⟨xs.length, by simp, Nat.zero_le _, h0⟩, ?_⟩
  rintro i m σ H ⟨rfl, hi, p⟩
  have q := hl i σ H hi p
  by_cases hlt : i < xs.length
  · refine .inr ⟨⟨xs, xs[i], q, by simp [hlt]⟩, Pv (i + 1), fun σ' H' p' => ⟨xs.length - (i + 1), by omega, rfl, hlt, p'⟩, fun x H' y => ?_⟩
    obtain ⟨T, x', rfl, hT, rfl, y⟩ := y
    exact hs i x' σ H T (y xs q) p hT
  · have e : i = xs.length := by omega
    subst e
    exact .inl ⟨⟨xs, q, rfl⟩, hd σ H p⟩
/-- a pair more, the body made anew -/
theorem Built.push2 {H0 H H1 : Hp} {D l p : Addr} {fs : List Ent} {x : Str} {ss : Body} {vs : List V} (h : Built H0 D H fs) (hv : H D = some (.lst vs)) (k : Same H H1) (hl : H l = none) (hb : BodyAt H1 l ss) (hp : H1 p = none) :
    Built H0 D (upd (upd H1 p (.tup [.str x, .ref l])) D (.lst (vs ++ [.ref p]))) (fs ++ [(x, l, ss)]) := by
  have s1 : Same H (upd H1 p (.tup [.str x, .ref l])) := k.trans (same_upd hp)
  have hDl : l ≠ D := fun e => by rw [e, hv] at hl; cases hl
  have hD2 := s1 _ _ hv
  have Ls : Lists [D] (upd H1 p (.tup [.str x, .ref l])) := fun a ha => by rw [List.mem_singleton.mp ha]; exact ⟨_, hD2⟩
  have B := But.upd (H := upd H1 p (.tup [.str x, .ref l])) (a := D) (o := .lst (vs ++ [.ref p]))
  have hpb : upd H1 p (.tup [.str x, .ref l]) p = some (.tup [.str x, .ref l]) := upd_same
  have hnl : l ∉ fs.map (·.2.1) := fun m => by
    obtain ⟨e, he, rfl⟩ := List.mem_map.mp m
    obtain ⟨us, hu, hP⟩ := h.here
    obtain ⟨v, _, t, _, _, ⟨ws', hb, _⟩⟩ := paired_memR hP he
    rw [hb] at hl; cases hl
  refine ⟨fun b u e => ?_, h.fresh, ⟨_, upd_same, ?_⟩, ?_, ?_⟩
  · have e1 := s1 _ _ (h.same b u e)
    exact B _ _ (by simpa using ne_of_none e h.fresh) e1
  · obtain ⟨us, hu, hP⟩ := h.here
    rw [hv] at hu
    cases hu
    refine paired_snoc ⟨p, rfl, tup_but hpb Ls B, (hb.same (same_upd hp)).but Ls B (by simpa using hDl)⟩ (paired_imp hP fun v e he q => (q.same s1).but Ls B ?_)
    have hn := (List.nodup_cons.mp h.nd).1
    intro z
    exact hn (List.mem_singleton.mp z ▸ List.mem_map.mpr ⟨e, he, rfl⟩)
  · rw [List.map_append, ← List.cons_append]
    refine List.nodup_append.mpr ⟨h.nd, by simp, ?_⟩
    intro a ha b hb
    have hb : b = l := by simpa using hb
    rw [hb]
    rcases List.mem_cons.mp ha with e | ha
    · rw [e]; exact hDl.symm
    · exact fun e => hnl (e ▸ ha)
  · intro a ha
    rw [List.map_append, List.mem_append] at ha
    rcases ha with ha | ha
    · exact h.new a ha
    · have : a = l := by simpa using ha
      rw [this]; exact h.same.free hl
theorem nms_up : sortedS nms = true := by decide +kernel
theorem nms_nd : nms.Nodup := by decide +kernel
/-- entries whose words are some of the names, in turn, make a book -/
theorem book_of_sub {fs : List Ent} (h : (fs.map (·.1)).Sublist nms) (ok : ∀ e ∈ fs, BodyOk e.2.2) : BookOk fs where
  each := fun e he => ⟨nms_ok _ (h.subset (List.mem_map.mpr ⟨e, he, rfl⟩)), ok e he⟩
  up := sorted_sub h nms_up
  once := h.nodup nms_nd
  few := by
    have := h.length_le
    rw [List.length_map] at this
    exact Nat.le_trans this (by decide)
/-! ### a book -/
def spBookL (K : PySem.W.Frag) : Sp := fun vs H Q _ => ∃ S k, vs = [.ref S, .int k] ∧ IntsAt K H S ∧ 0 ≤ k ∧ k ≤ 100 ∧ ∀ H' D fs, Built H D H' fs → (fs.map (·.1)).Sublist nms → (∀ e ∈ fs, BodyOk e.2.2) → Q (.ref D) H'
theorem ok_law_book {f : Addr} {fd : FuncData} (F : Fun K "_law_book" "_law_book" s_law_book f fd) (b : ∀ x ∈ blts, mg x = none) (c_law_cell_at : Cal P w K mg base "_law_cell_at" 5 ["_law_script", "_law_k"] (spCell K)) (c_law_number : Cal P w K mg base "_law_number" 10 ["_law_cell", "_law_k", "_law_limit"] spNum)
    (c_law_names : Cal P w K mg base "_law_names" 5 [] spNames) (c_law_body : Cal P w K mg base "_law_body" 30 ["_law_cell", "_law_at"] spBodyL) :
    FnOk P w K mg base CX0 40 f fd ["_law_script", "_law_by"] (spBookL K) := by
  refine F.ok sc_law_book (fun vs H Q E h => ?_) (fun cdv A outer s H vs Q E hr h => ?_)
  · obtain ⟨i, k, rfl, _⟩ := h; rfl
  · obtain ⟨S, k, rfl, hS, hk, hk2, q⟩ := h
    refine ⟨_, (pss_cons (ps_set (i := 2) sc_law_book.nd rfl (by first | exact Or.inl rfl | exact Or.inr rfl) (pe_lst pa_nil)) (pss_cons (ps_for PassesOwn.never rfl (pi_enumT (by rfl) (b "enumerate" (by decide +kernel)) (pa_cons (pe_cal0 c_law_names (hr.mono (by decide)) (by rfl)) pa_nil)) (pg_tup (by rfl) (pgs_cons (pg_name (i := 3) sc_law_book.nd rfl (by first | exact Or.inl rfl | exact Or.inr rfl)) (pgs_cons (pg_name (i := 4) sc_law_book.nd rfl (by first | exact Or.inl rfl | exact Or.inr rfl)) pgs_nil))) (pss_cons (ps_set (i := 5) sc_law_book.nd rfl (by first | exact Or.inl rfl | exact Or.inr rfl) (pe_op op_add (pe_cal c_law_cell_at (hr.mono (by decide)) (by rfl) (pa_cons (pv 0) (pa_cons (pe_op op_add (pv 3) (pv 1)) pa_nil))) (pe_op op_mul pe_int (pv 3)))) (pss_one (ps_if (pt_cmpR op_gt (pe_cal c_law_number (hr.mono (by decide)) (by rfl) (pa_cons (pv 5) (pa_cons (pe_op op_add (pe_op op_add (pv 3) (pv 1)) pe_int) (pa_cons pe_int pa_nil)))) pe_int (nomark _)) (pss_one (ps_expr (pe_bm PySem.F.plainAttrs_list PySem.F.slot_list_append PySem.F.type_list_append mt_append (pv 2) (pa_consT (pe_tup (pa_cons (pv 4) (pa_cons (pe_cal c_law_body (hr.mono (by decide)) (by rfl) (pa_cons (pv 5) (pa_cons (pe_op op_add (pv 3) (pv 1)) pa_nil))) pa_nil))) pa_nil)))) pss_nil)))) (pss_one (ps_ret (pv 2))))), ?_⟩
    refine ⟨by show 0 ≤ sizeLine; decide, fun D hD => ?_⟩
    refine ⟨rfl, fun p hp => ⟨p, _, rfl, SqT.of upd_same, ?_⟩⟩
    refine for_enumT (xs := nms.map V.str) (fun i σ Hc => (∃ a b c, σ = [some (.ref S), some (.int k), some (.ref D), a, b, c]) ∧ Hc p = some (.tup (nms.map V.str)) ∧ ∃ fs, Built H D Hc fs ∧ (fs.map (·.1)).Sublist (nms.take i) ∧ ∀ e ∈ fs, BodyOk e.2.2) ⟨⟨_, _, _, rfl⟩, upd_same, [], (Built.start hD).grow (same_upd hp), by simp, by simp⟩ (fun i σ Hc _ h => SqT.of h.2.1) ?_ ?_
    · rintro i x σ Hc T hx ⟨⟨a, b, c, rfl⟩, hpc, fs, hB, hsub, ok⟩ hT
      rw [List.getElem?_map] at hx
      obtain ⟨wd, hwd, rfl⟩ := Option.map_eq_some_iff.mp hx
      have hi : i < 6 := by
        rcases Nat.lt_or_ge i 6 with z | z
        · exact z
        · rw [List.getElem?_eq_none (show nms.length ≤ i from z)] at hwd; cases hwd
      have htk : nms.take (i + 1) = nms.take i ++ [wd] := by rw [List.take_succ, hwd]; rfl
      have sT := same_upd (o := .tup [.int (i : Nat), .str wd]) hT
      have hB1 := hB.grow sT
      refine ⟨T, _, rfl, SqT.of upd_same, rfl, _, _, rfl, _, _, rfl, rfl, ?_⟩
      refine ⟨_, rfl, _, rfl, _, rfl, _, _, rfl, rfl, S, _, rfl, hS.same hB1.same, by omega, fun cl => ?_⟩
      refine ⟨_, rfl, _, _, rfl, rfl, .inl ⟨by decide, by decide⟩, _, _, rfl, rfl, ?_⟩
      refine ⟨_, rfl, _, rfl, _, rfl, _, _, rfl, rfl, _, _, rfl, rfl, _, _, 6, rfl, by omega, by omega, by decide, by decide, fun n H2 s2 n0 n1 => ?_⟩
      have hB2 := hB1.grow s2
      have hp2 := s2 _ _ (sT _ _ hpc)
      refine ⟨_, _, rfl, rfl, _, rfl, ?_⟩
      by_cases hn : 0 < n
      · rw [decide_eq_true hn]
        obtain ⟨vs, hvs, hP⟩ := id hB2.here
        refine iteT ⟨_, rfl, .inl ⟨rfl, _, SqL.of hvs⟩, _, rfl, _, rfl, _, rfl, _, rfl, _, _, rfl, rfl, _, _, rfl, by omega, by omega, fun H3 l ss s3 hl0 hb okb => ?_⟩
        refine ⟨by show 2 ≤ sizeLine; decide, fun p2 hp2' => ?_⟩
        have hD3 : upd H3 p2 (.tup [.str wd, .ref l]) D = some (.lst vs) := (same_upd hp2') _ _ (s3 _ _ hvs)
        refine ⟨D, vs, _, rfl, rfl, hD3, ?_, ⟨_, _, _, rfl⟩, ?_, fs ++ [(wd, l, ss)], hB2.push2 hvs s3 hl0 hb hp2', ?_, ?_⟩
        · have h1 := hP.length
          have h2 := hsub.length_le
          rw [List.length_map, List.length_take] at h2
          rw [sizeLine_eq]; omega
        · refine But.upd _ _ ?_ ((same_upd hp2') _ _ (s3 _ _ hp2))
          intro z
          rw [List.mem_singleton.mp z, hvs] at hp2
          cases hp2
        · rw [htk, List.map_append]
          exact hsub.append (List.Sublist.refl _)
        · intro e he
          rcases List.mem_append.mp he with he | he
          · exact ok e he
          · rw [List.mem_singleton.mp he]; exact okb
      · rw [decide_eq_false hn]
        refine iteF ⟨⟨_, _, _, rfl⟩, hp2, fs, hB2, ?_, ok⟩
        rw [htk]
        exact hsub.trans (List.sublist_append_left _ _)
    · rintro σ Hc ⟨⟨a, b, c, rfl⟩, hpc, fs, hB, hsub, ok⟩
      exact ⟨_, rfl, q Hc D fs hB (hsub.trans (List.take_sublist _ _)) ok⟩
end
end MG

set_option Elab.async false
set_option linter.all false
set_option maxRecDepth 100000
set_option maxHeartbeats 1000000
namespace MG
open PySem PySem.Spec PyProof.Rows L2
section
variable {P : Program} {w : World} {K : PySem.W.Frag} {mg : Str → Option Value} {base : Heap}
theorem cut_from (xs : List V) {n : Nat} (h : n ≤ xs.length) : cutV xs (some (n : Int)) none = xs.drop n := by
  have e : HT.sIx xs.length 0 (some (n : Int)) = n := by rw [HT.sIx_nat]; omega
  have e2 : HT.sIx xs.length xs.length none = xs.length := rfl
  unfold cutV
  rw [e, e2]
  exact List.take_of_length_le (by rw [List.length_drop]; omega)
theorem cut_to (xs : List V) {n : Nat} (h : n ≤ xs.length) : cutV xs none (some (n : Int)) = xs.take n := by
  have e : HT.sIx xs.length xs.length (some (n : Int)) = n := by rw [HT.sIx_nat]; omega
  have e2 : HT.sIx xs.length 0 none = 0 := rfl
  unfold cutV
  rw [e, e2]
  rfl
theorem paired_drop {α β : Type} {F : α → β → Prop} : ∀ {l : List α} {m : List β} (n : Nat), Paired F l m → Paired F (l.drop n) (m.drop n)
  | _, _, 0, h => h
  | _, _, n + 1, .nil => .nil
  | _, _, n + 1, .cons _ t => paired_drop n t
theorem paired_take {α β : Type} {F : α → β → Prop} : ∀ {l : List α} {m : List β} (n : Nat), Paired F l m → Paired F (l.take n) (m.take n)
  | _, _, 0, h => .nil
  | _, _, n + 1, .nil => .nil
  | _, _, n + 1, .cons r t => .cons r (paired_take n t)
/-! ### changes -/
end
end MG

set_option Elab.async false
set_option linter.all false
set_option maxRecDepth 100000
set_option maxHeartbeats 1000000
namespace MG
open PySem PySem.Spec PyProof.Rows L2
section
variable {P : Program} {w : World} {K : PySem.W.Frag} {mg : Str → Option Value} {base : Heap}
/-! ### the body of a word -/
/-! ### a copy -/
end
end MG

set_option Elab.async false
set_option linter.all false
set_option maxRecDepth 100000
set_option maxHeartbeats 1000000
namespace MG
open PySem PySem.Spec PyProof.Rows L2
section
variable {P : Program} {w : World} {K : PySem.W.Frag} {mg : Str → Option Value} {base : Heap}
/-! ### the law's own texts -/
def spSText : Sp := fun vs H Q _ => ∃ v st, vs = [v] ∧ StepAt H v st ∧ st.ok ∧ Q (.str (stepT st)) H
theorem ok_law_step_text {f : Addr} {fd : FuncData} (F : Fun K "_law_step_text" "_law_step_text" s_law_step_text f fd) (b : ∀ x ∈ blts, mg x = none) : FnOk P w K mg base CX0 5 f fd ["_law_step_here"] spSText := by
  refine F.ok sc_law_step_text (fun vs H Q E h => ?_) (fun cdv A outer s H vs Q E hr h => ?_)
  · obtain ⟨v, st, rfl, _⟩ := h; rfl
  · obtain ⟨v, st, rfl, ⟨t, rfl, ht⟩, ok, q⟩ := h
    refine ⟨_, (pss_one (ps_ret (pe_ifExp (pt_cmpR op_eq (pe_callB call_len_seq (by rfl) (b "len" (by decide +kernel)) (by decide +kernel) (pa_cons (pv 0) pa_nil)) pe_int (nomark _)) (pe_ix ix_tup (pv 0) pe_int (fun _ _ => rfl)) (pe_op op_add_str (pe_op op_add_str (pe_ix ix_tup (pv 0) pe_int (fun _ _ => rfl)) pe_str) (pe_callTy call_str_any (by rfl) (b "str" (by decide +kernel)) (by decide +kernel) (pa_cons (pe_ix ix_tup (pv 0) pe_int (fun _ _ => rfl)) pa_nil)))))), ?_⟩
    have hc : (∃ n, st.vals = [.str n] ∧ st.parts = [n]) ∨ (∃ n i, st.vals = [.str n, .int i] ∧ st.parts = [n, numT i] ∧ n.length ≤ 8 ∧ -99 ≤ i ∧ i ≤ 99) ∨ (∃ n x, st.vals = [.str n, .str x] ∧ st.parts = [n, x] ∧ n.length ≤ 8 ∧ x.length ≤ 8) := by
      cases st with
      | say => exact .inl ⟨_, rfl, rfl⟩
      | hear => exact .inl ⟨_, rfl, rfl⟩
      | fin => exact .inl ⟨_, rfl, rfl⟩
      | plus n => exact .inr (.inl ⟨_, _, rfl, rfl, by decide +kernel, ok.1, ok.2⟩)
      | times n => exact .inr (.inl ⟨_, _, rfl, rfl, by decide +kernel, ok.1, ok.2⟩)
      | turn n => exact .inr (.inl ⟨_, _, rfl, rfl, by decide +kernel, ok.1, ok.2⟩)
      | ask x => exact .inr (.inr ⟨_, _, rfl, rfl, by decide +kernel, ok.2.1⟩)
      | odd x => exact .inr (.inr ⟨_, _, rfl, rfl, by decide +kernel, ok.2.1⟩)
    have l1 : (" " : Str).length = 1 := by decide +kernel
    refine ⟨_, rfl, _, _, rfl, .inr (SqT.of ht), rfl, _, rfl, ?_⟩
    rcases hc with ⟨n, e, ep⟩ | ⟨n, i, e, ep, n8, i1, i2⟩ | ⟨n, x, e, ep, n8, x8⟩
    · rw [e] at ht ⊢
      rw [stepT_one ep] at q
      exact iteT ⟨_, rfl, t, _, _, _, rfl, rfl, SqT.of ht, at_of (j := 0) rfl rfl, q⟩
    · rw [e] at ht ⊢
      rw [stepT_two ep] at q
      have n3 : (Str.ofString (toString i)).length ≤ 3 := numT_len i1 i2
      refine iteF ⟨_, rfl, t, _, _, _, rfl, rfl, SqT.of ht, at_of (j := 0) rfl rfl, _, _, rfl, rfl, by rw [sizeLine_eq]; omega, ?_⟩
      refine ⟨_, rfl, t, _, _, _, rfl, rfl, SqT.of ht, at_of (j := 1) rfl rfl, .inl ⟨_, rfl, num_log i1 i2, _, _, rfl, rfl, ?_, q⟩⟩
      rw [strLen_append, sizeLine_eq]; omega
    · rw [e] at ht ⊢
      rw [stepT_two ep] at q
      refine iteF ⟨_, rfl, t, _, _, _, rfl, rfl, SqT.of ht, at_of (j := 0) rfl rfl, _, _, rfl, rfl, by rw [sizeLine_eq]; omega, ?_⟩
      refine ⟨_, rfl, t, _, _, _, rfl, rfl, SqT.of ht, at_of (j := 1) rfl rfl, .inr ⟨_, rfl, _, _, rfl, rfl, ?_, q⟩⟩
      rw [strLen_append, sizeLine_eq]; omega
end
end MG

set_option Elab.async false
set_option linter.all false
set_option maxRecDepth 100000
namespace MG
open PySem PySem.Spec PyProof.Rows L2
section
variable {X : Cx}
/-- xs[::-1] -/
def tSlR (K : PySem.W.Frag) (te ts : TE) : TE := fun σ H Q => te σ H fun x H1 => ∃ a xs, x = .ref a ∧ SqL K H1 a xs ∧ ts σ H1 fun y H2 => y = .int (-1) ∧ H2 = H1 ∧ ∀ p, H1 p = none → Q (.ref p) (upd H1 p (.lst xs.reverse))
theorem pe_sliceR {e es : Expr} {te ts : TE} {p2 pos : Pos} (he : PE X e te) (hs : PE X es ts) : PE X (.Subscript e (.Slice none none (some es) p2) pos) (tSlR X.K te ts) := by
  intro pins s σ H Q I h
  refine Subscript_ (thn (he pins s σ H _ I h) fun v s1 ⟨x, H1, I1, r1, a, xs, ex, hx, h6⟩ => ?_)
  subst ex
  cases r1
  refine wpAny_Slice (PySem.evalPart_none_step (PySem.evalPart_none_step (PySem.evalPart_some_step ?_)))
  refine thn (hs pins s1 σ H1 _ I1 h6) fun u s2 ⟨y, H2, I2, r2, e1, e2, q⟩ => ?_
  subst e1; subst e2
  obtain ⟨t, rfl⟩ := r2
  have I4 : Inv X pins σ H2 { s2 with heap := s2.heap.push { cls := .type "slice", data := .fields #[.none, .none, .int (-1) t] } } := I2.kept (t' := s2.toks) fun b ob q => Heap.get?_push_of_some _ q
  obtain ⟨its, rv, ht, hz⟩ := I4.list hx
  have hlen := rv.length
  show wpAny (model X.prog X.w) X.A (subscriptTail e _ (.ref a) (.ref s2.heap.objs.size)) (EP X pins σ Q) X.xe { s2 with heap := s2.heap.push { cls := .type "slice", data := .fields #[.none, .none, .int (-1) t] } }
  refine tail_any (ops := [.ref a, .ref s2.heap.objs.size]) ht.isList.typeIs slot_list_getitem.lookup ?_ (by with_unfolding_all rfl)
  refine wpAny_getItem_list_slice ht.isList (Heap.IsSliceOf.new ..) .none .none (.int (-1) t) (by simp) ?_ (by rw [List.size_toArray]; omega)
  rw [PySem.W.krv_pick, List.toList_toArray]
  refine ⟨.ref _, _, I4.laid (t' := s2.toks) (o := .lst xs.reverse) (fun b ob q => Heap.get?_push_of_some _ q) (Nat.le_refl _) ?_, rfl, q _ (I4.hok.fresh (Nat.le_refl _))⟩
  exact ⟨by rw [List.length_reverse]; exact hz, its.reverse, 0, rv.reverse, Heap.get?_push_size _ rfl⟩
end
/-! ### rows of words, by their length -/
def At (es : List Ent) (ss : Body) : Nat → Str → Prop
  | 0, _ => False
  | 1, x => x ∈ namesB ss
  | n + 2, x => ∃ y, At es ss (n + 1) y ∧ x ∈ nexts es y
theorem At.next {es : List Ent} {ss : Body} {n : Nat} {x y : Str} (h : At es ss n y) (k : x ∈ nexts es y) : At es ss (n + 1) x := by
  cases n with
  | zero => exact False.elim h
  | succ n => exact ⟨y, h, k⟩
theorem At.pos {es : List Ent} {ss : Body} {n : Nat} {x : Str} (h : At es ss n x) : 1 ≤ n := by
  cases n with
  | zero => exact False.elim h
  | succ n => omega
/-- there is a row of at most n words -/
def Up (es : List Ent) (ss : Body) (n : Nat) (x : Str) : Prop := ∃ m, m ≤ n ∧ At es ss m x
theorem Up.mono {es : List Ent} {ss : Body} {n m : Nat} {x : Str} (h : Up es ss n x) (k : n ≤ m) : Up es ss m x := let ⟨j, h1, h2⟩ := h; ⟨j, Nat.le_trans h1 k, h2⟩
/-- a row from its end to its beginning -/
inductive Rv (es : List Ent) (ss : Body) : List Str → Prop
  | one {x : Str} : x ∈ namesB ss → Rv es ss [x]
  | more {x y : Str} {r : List Str} : x ∈ nexts es y → Rv es ss (y :: r) → Rv es ss (x :: y :: r)
theorem Rv.at {es : List Ent} {ss : Body} : ∀ {r : List Str} {x : Str}, Rv es ss (x :: r) → At es ss (r.length + 1) x
  | [], _, .one h => h
  | _ :: _, _, .more h k => (Rv.at k).next h
/-- what the dict of those ahead tells: g the length of a shortest row to each word -/
structure Ahead (es : List Ent) (ss : Body) (kvs : List (Key × V)) (ks : List Str) (g : Str → Nat) : Prop where
  keys : kvs.map (·.1) = ks.map Sum.inr
  val : ∀ x ∈ ks, 1 ≤ g x ∧ ((g x = 1 ∧ valV kvs (Sum.inr x) = some .non ∧ x ∈ namesB ss) ∨ ∃ y ∈ ks, valV kvs (Sum.inr x) = some (.str y) ∧ g x = g y + 1 ∧ x ∈ nexts es y)
theorem Ahead.at {es : List Ent} {ss : Body} {kvs : List (Key × V)} {ks : List Str} {g : Str → Nat} (h : Ahead es ss kvs ks g) : ∀ (n : Nat) (x : Str), x ∈ ks → g x = n → At es ss n x := by
  intro n
  induction n using Nat.strongRecOn with
  | ind n ih =>
    intro x hx e
    obtain ⟨h1, h2⟩ := h.val x hx
    rcases h2 with ⟨h3, _, h4⟩ | ⟨y, hy, _, h3, h4⟩
    · rw [← e, h3]; exact h4
    · have := ih (g y) (by omega) y hy rfl
      rw [← e, h3]; exact this.next h4
end MG

set_option Elab.async false
set_option linter.all false
set_option maxRecDepth 100000
set_option maxHeartbeats 1000000
namespace MG
open PySem PySem.Spec PyProof.Rows L2 TL
def rowW (n : Nat) (x : Str) (ss : Body) : Str := blanks n ++ x ++ blanks n ++ ":" ++ blanks n ++ Txt.join (blanks n ++ ";" ++ blanks n) (ss.map stepT) ++ blanks n
theorem blanks_tl (n : Nat) : tl (blanks n) = bl32 n := rfl
theorem blanks_len (n : Nat) : (blanks n).length = n := by show (tl (blanks n)).length = n; rw [blanks_tl, List.length_replicate]
theorem rowW_of {n : Nat} (x : Str) (ss : Body) (h : n ≤ 3) : RowOf (rowW n x ss) x ss := by
  refine ⟨n, n, n, n, n, n, h, h, h, h, h, h, ?_⟩
  unfold rowW
  simp only [tl_append, blanks_tl, join_eq, tl_join, List.map_map, show tl (":" : Str) = [58] from by decide +kernel, show tl (";" : Str) = [59] from by decide +kernel, List.append_assoc, Function.comp_def]
section
variable {P : Program} {w : World} {K : PySem.W.Frag} {mg : Str → Option Value} {base : Heap}
def spRowL : Sp := fun vs H Q _ => ∃ x bd ss, ∃ n : Nat, vs = [.str x, .ref bd, .int (n : Nat)] ∧ WordOk x ∧ BodyAt H bd ss ∧ BodyOk ss ∧ n ≤ 3 ∧ ∀ H', Same H H' → Q (.str (rowW n x ss)) H'
theorem ok_law_row {f : Addr} {fd : FuncData} (F : Fun K "_law_row" "_law_row" s_law_row f fd) (b : ∀ x ∈ blts, mg x = none) (c_law_step_text : Cal P w K mg base "_law_step_text" 5 ["_law_step_here"] spSText) : FnOk P w K mg base CX0 10 f fd ["_law_word", "_law_body_here", "_law_wide"] spRowL := by
  refine F.ok sc_law_row (fun vs H Q E h => ?_) (fun cdv A outer s H vs Q E hr h => ?_)
  · obtain ⟨x, bd, ss, n, rfl, _⟩ := h; rfl
  · obtain ⟨x, bd, ss, n, rfl, hx, ⟨us, hl, hv⟩, ok, hn, q⟩ := h
    refine ⟨_, (pss_cons (ps_set (i := 3) sc_law_row.nd rfl (by first | exact Or.inl rfl | exact Or.inr rfl) (pe_op op_blanks pe_str (pv 2))) (pss_cons (ps_set (i := 4) sc_law_row.nd rfl (by first | exact Or.inl rfl | exact Or.inr rfl) (pe_join (pe_op op_add_str (pe_op op_add_str (pv 3) pe_str) (pv 3)) (pe_lc (own := [("_law_step_here", 5)]) rfl sc_law_row.nd (pi_list (pv 1)) (blkOk_by (own := [("_law_step_here", 5)]) (N := N_law_row) (sc := defScope s_law_row) (by decide +kernel)) (fun _ _ _ _ _ => (pg_name (i := 5) sc_law_row.nd rfl (by first | exact Or.inl rfl | exact Or.inr rfl))) (fun _ _ _ _ _ => pts_nil) (fun _ _ _ _ _ => (pe_cal c_law_step_text (hr.mono (by decide)) (by rfl) (pa_cons (pv 5) pa_nil)))))) (pss_one (ps_ret (pe_op op_add_str (pe_op op_add_str (pe_op op_add_str (pe_op op_add_str (pe_op op_add_str (pe_op op_add_str (pv 3) (pv 0)) (pv 3)) pe_str) (pv 3)) (pv 4)) (pv 3)))))), ?_⟩
    have lx := hx.2.1
    have l1 : (";" : Str).length = 1 := by decide +kernel
    have l2 : (":" : Str).length = 1 := by decide +kernel
    have lb := blanks_len n
    have lenu := hv.length
    have few := ok.1
    refine ⟨_, rfl, n, rfl, rfl, by omega, ?_⟩
    have lg : (blanks n ++ (";" : Str) ++ blanks n).length ≤ 7 := by rw [strLen_append, strLen_append]; omega
    have sl := join_le (sep := blanks n ++ (";" : Str) ++ blanks n) (stepTs_len ok) (m := 9) (by rw [List.length_map]; exact few)
    have jl : (Txt.join (blanks n ++ (";" : Str) ++ blanks n) (ss.map stepT)).length ≤ 300 := by
      have := sl.1
      omega
    refine ⟨_, rfl, _, _, rfl, rfl, by rw [sizeLine_eq]; omega, _, rfl, _, _, rfl, rfl, by rw [strLen_append, sizeLine_eq]; omega, ⟨_, rfl⟩, ?_⟩
    refine ⟨_, rfl, bd, rfl, ⟨_, SqL.of hl⟩, ?_⟩
    refine lc_by (fun D i Hd => Same H Hd ∧ Hd D = some (.lst (((ss.take i).map stepT).map V.str))) (fun D hD' => ⟨same_upd hD', upd_same⟩) (fun D i Hd _ h => SqL.of (h.1 _ _ hl)) (fun D i y Hd hDn hy ⟨sd, hDd⟩ => ?_) (fun D Hd hDn ⟨sd, hDd⟩ => ?_)
    · obtain ⟨st, hst, hst2⟩ := paired_at hv hy
      refine ⟨rfl, ?_⟩
      dsimp only [tYes]
      refine iteT ⟨_, rfl, y, st, rfl, hst2.same sd, ok.2 st (List.mem_of_getElem? hst), _, hDd, by rw [List.length_map, List.length_map, List.length_take, sizeLine_eq]; omega, same_new sd hDn, ?_⟩
      rw [upd_same, List.take_succ, hst, List.map_append, List.map_append]
      rfl
    · rw [lenu, List.take_length] at hDd
      have s5 := sl.2
      refine ⟨_, D, ss.map stepT, rfl, rfl, .inl (SqL.of hDd), by omega, ?_⟩
      generalize hJ : Txt.join (blanks n ++ (";" : Str) ++ blanks n) (ss.map stepT) = J at jl ⊢
      have hq : rowW n x ss = blanks n ++ x ++ blanks n ++ ":" ++ blanks n ++ J ++ blanks n := by unfold rowW; rw [hJ]
      rw [hq] at q
      refine ⟨_, rfl, _, rfl, _, _, rfl, rfl, by rw [sizeLine_eq]; omega, _, rfl, _, _, rfl, rfl, by rw [strLen_append, sizeLine_eq]; omega, _, _, rfl, rfl, by rw [strLen_append, strLen_append, sizeLine_eq]; omega, _, rfl, _, _, rfl, rfl, by rw [strLen_append, strLen_append, strLen_append, sizeLine_eq]; omega, _, rfl, _, _, rfl, rfl, by rw [strLen_append, strLen_append, strLen_append, strLen_append, sizeLine_eq]; omega, _, rfl, _, _, rfl, rfl, by rw [strLen_append, strLen_append, strLen_append, strLen_append, strLen_append, sizeLine_eq]; omega, q _ sd⟩
end
end MG

set_option Elab.async false
set_option linter.all false
set_option maxRecDepth 100000
set_option maxHeartbeats 1000000
namespace MG
open PySem PySem.Spec PyProof.Rows L2 TL
def rems : List Str := [" -- a: say", "", "--", "   ", "--- b: c; x"]
theorem rems_ok : ∀ x ∈ rems, RowK x none ∧ x.length ≤ 400 := by
  intro x hx
  unfold rems at hx
  simp only [List.mem_cons, List.not_mem_nil, or_false] at hx
  rcases hx with rfl | rfl | rfl | rfl | rfl <;> exact ⟨rowK_none _ (by decide +kernel) (by decide +kernel) (by decide +kernel), by decide +kernel⟩
theorem text_of {rows : List Str} {os : List (Option (Str × Body))} {es : List (Str × Body)} (h : Paired RowK rows os) (few : rows.length ≤ 40) (each : ∀ r ∈ rows, r.length ≤ 400) (pm : (os.filterMap id).Perm es) :
    TextOf (Txt.join "\n" rows) es ∧ TextOf (Txt.join "\n" rows ++ "\n") es ∧ (Txt.join "\n" rows).length ≤ 17000 ∧ (rows.map (·.length)).sum + rows.length * ("\n" : Str).length ≤ 17000 := by
  have l1 : ("\n" : Str).length = 1 := by decide +kernel
  have jl := join_le (sep := "\n") (m := 40) each few
  rw [l1] at jl
  have e0 : rows = [] → Txt.join "\n" rows = Txt.join "\n" [("" : Str)] := fun z => by rw [z]; decide +kernel
  refine ⟨?_, ?_, by omega, by rw [l1]; omega⟩
  · cases h with
    | nil => exact ⟨[""], [none], e0 rfl, by simp, .cons rowK_nil .nil, by simp, by rw [e0 rfl]; decide +kernel, pm⟩
    | cons r t => exact ⟨_, _, rfl, by simp, .cons r t, by omega, by omega, pm⟩
  · have e1 : Txt.join "\n" rows ++ "\n" = Txt.join "\n" ((if rows = [] then [("" : Str)] else rows) ++ [("" : Str)]) := by
      by_cases z : rows = []
      · rw [if_pos z, z]; decide +kernel
      · rw [if_neg z, tj_eq, tj_eq, join_snoc _ _ _ z]
        exact (Str.append_empty _).symm
    refine ⟨_, (if rows = [] then [none] else os) ++ [none], e1, by simp, paired_app (.cons rowK_nil .nil) ?_, ?_, by rw [strLen_append, l1]; omega, ?_⟩
    · cases h with
      | nil => exact .cons rowK_nil .nil
      | cons r t => exact .cons r t
    · rw [List.length_append]
      by_cases z : rows = []
      · rw [if_pos z]; show 1 + 1 ≤ 60; omega
      · rw [if_neg z]; show rows.length + 1 ≤ 60; omega
    · rw [List.filterMap_append]
      show ((if rows = [] then [none] else os).filterMap id ++ []).Perm es
      rw [List.append_nil]
      cases h with
      | nil => exact pm
      | cons r t => exact pm
section
variable {P : Program} {w : World} {K : PySem.W.Frag} {mg : Str → Option Value} {base : Heap}
def spTextL (K : PySem.W.Frag) : Sp := fun vs H Q _ => ∃ L S k es, vs = [.ref L, .ref S, .int k] ∧ BookAt H L es ∧ (∀ e ∈ es, EntOk e) ∧ es.length ≤ 20 ∧ IntsAt K H S ∧ 0 ≤ k ∧ k ≤ 100 ∧ ∀ H' x, Same H H' → TextOf x (es.map entSB) → Q (.str x) H'
theorem ok_law_text {f : Addr} {fd : FuncData} (F : Fun K "_law_text" "_law_text" s_law_text f fd) (b : ∀ x ∈ blts, mg x = none) (c_law_cell_at : Cal P w K mg base "_law_cell_at" 5 ["_law_script", "_law_k"] (spCell K)) (c_law_number : Cal P w K mg base "_law_number" 10 ["_law_cell", "_law_k", "_law_limit"] spNum)
    (c_law_row : Cal P w K mg base "_law_row" 10 ["_law_word", "_law_body_here", "_law_wide"] spRowL) : FnOk P w K mg base CX0 20 f fd ["_law_book_here", "_law_script", "_law_by"] (spTextL K) := by
  refine F.ok sc_law_text (fun vs H Q E h => ?_) (fun cdv A outer s H vs Q E hr h => ?_)
  · obtain ⟨L, S, k, es, rfl, _⟩ := h; rfl
  · obtain ⟨L, S, k, es, rfl, ⟨us, hl, hv⟩, ok, few, hS, k0, k1, q⟩ := h
    refine ⟨_, (pss_cons (ps_set (i := 3) sc_law_text.nd rfl (by first | exact Or.inl rfl | exact Or.inr rfl) (pe_lst pa_nil)) (pss_cons (ps_for PassesOwn.never rfl (pi_enum (by rfl) (b "enumerate" (by decide +kernel)) (pa_cons (pv 0) pa_nil)) (pg_tup (by rfl) (pgs_cons (pg_name (i := 4) sc_law_text.nd rfl (by first | exact Or.inl rfl | exact Or.inr rfl)) (pgs_cons (pg_tup (by rfl) (pgs_cons (pg_name (i := 5) sc_law_text.nd rfl (by first | exact Or.inl rfl | exact Or.inr rfl)) (pgs_cons (pg_name (i := 6) sc_law_text.nd rfl (by first | exact Or.inl rfl | exact Or.inr rfl)) pgs_nil))) pgs_nil))) (pss_cons (ps_set (i := 7) sc_law_text.nd rfl (by first | exact Or.inl rfl | exact Or.inr rfl) (pe_cal c_law_cell_at (hr.mono (by decide)) (by rfl) (pa_cons (pv 1) (pa_cons (pe_op op_add (pv 4) (pv 2)) pa_nil)))) (pss_cons (ps_set (i := 8) sc_law_text.nd rfl (by first | exact Or.inl rfl | exact Or.inr rfl) (pe_cal c_law_row (hr.mono (by decide)) (by rfl) (pa_cons (pv 5) (pa_cons (pv 6) (pa_cons (pe_cal c_law_number (hr.mono (by decide)) (by rfl) (pa_cons (pv 7) (pa_cons (pe_op op_add (pv 4) pe_int) (pa_cons pe_int pa_nil)))) pa_nil))))) (pss_cons (ps_set (i := 9) sc_law_text.nd rfl (by first | exact Or.inl rfl | exact Or.inr rfl) (pe_cal c_law_number (hr.mono (by decide)) (by rfl) (pa_cons (pv 7) (pa_cons (pe_op op_add (pv 4) pe_int) (pa_cons (pe_op op_add (pe_callB call_len_seq (by rfl) (b "len" (by decide +kernel)) (by decide +kernel) (pa_cons (pv 3) pa_nil)) pe_int) pa_nil))))) (pss_cons (ps_set (i := 3) sc_law_text.nd rfl (by first | exact Or.inl rfl | exact Or.inr rfl) (pe_op op_cat (pe_op op_cat (pe_slice sl_list (pv 3) po_none (po_some (pv 9))) (pe_lst (pa_cons (pv 8) pa_nil))) (pe_slice sl_list (pv 3) (po_some (pv 9)) po_none))) (pss_one (ps_if (pt_cmpR op_eq (pe_cal c_law_number (hr.mono (by decide)) (by rfl) (pa_cons (pv 7) (pa_cons (pe_op op_add (pv 4) pe_int) (pa_cons pe_int pa_nil)))) pe_int (nomark _)) (pss_one (ps_expr (pe_bm PySem.F.plainAttrs_list PySem.F.slot_list_append PySem.F.type_list_append mt_append (pv 3) (pa_cons (pe_ix ix_tup (pe_tup (pa_cons pe_str (pa_cons pe_str (pa_cons pe_str (pa_cons pe_str (pa_cons pe_str pa_nil)))))) (pe_cal c_law_number (hr.mono (by decide)) (by rfl) (pa_cons (pv 7) (pa_cons (pe_op op_add (pv 4) pe_int) (pa_cons pe_int pa_nil)))) (fun _ _ => rfl)) pa_nil)))) pss_nil))))))) (pss_one (ps_ret (pe_op op_add_str (pe_join pe_str (pv 3)) (pe_ifExp (pt_cmpR op_eq (pe_cal c_law_number (hr.mono (by decide)) (by rfl) (pa_cons (pe_cal c_law_cell_at (hr.mono (by decide)) (by rfl) (pa_cons (pv 1) (pa_cons (pv 2) pa_nil))) (pa_cons pe_int (pa_cons pe_int pa_nil)))) pe_int (nomark _)) pe_str pe_str)))))), ?_⟩
    have lenu := hv.length
    refine ⟨by show 0 ≤ sizeLine; decide, fun R0 hR0 => ?_⟩
    have x0 := same_upd (o := .lst []) hR0
    have e0 := upd_same (H := H) (a := R0) (o := .lst [])
    generalize upd H R0 (.lst []) = H0 at x0 e0 ⊢
    refine ⟨_, rfl, L, us, rfl, SqL.of (x0 _ _ hl), ?_⟩
    refine for_enumL (xs := us) (fun i σ Hc => ∃ c4 c5 c6 c7 c8 c9 R rows os, σ = [some (.ref L), some (.ref S), some (.int k), some (.ref R), c4, c5, c6, c7, c8, c9] ∧ Same H Hc ∧ H R = none ∧ Hc R = some (.lst (rows.map V.str)) ∧ Paired RowK rows os ∧ rows.length ≤ 2 * i ∧ (∀ r ∈ rows, r.length ≤ 400) ∧ (os.filterMap id).Perm ((es.take i).map entSB)) ⟨_, _, _, _, _, _, R0, [], [], rfl, x0, hR0, e0, .nil, Nat.zero_le _, fun r hr => absurd hr (by simp), .refl _⟩ (fun i σ Hc _ h => by obtain ⟨_, _, _, _, _, _, _, _, _, _, h, _⟩ := h; exact SqL.of (h _ _ hl)) ?_ ?_
    · rintro i v σ Hc T hx ⟨c4, c5, c6, c7, c8, c9, R, rows, os, rfl, sc, nR, hR, hP, lr, each, pm⟩ hT
      obtain ⟨e, he, t, rfl, ht, hb⟩ := paired_at hv hx
      have hi : i < es.length := (List.getElem?_eq_some_iff.mp he).1
      have oke := ok e (List.mem_of_getElem? he)
      have htk : (es.take (i + 1)).map entSB = (es.take i).map entSB ++ [entSB e] := by rw [List.take_succ, he, List.map_append]; rfl
      have sT := same_upd (o := .tup [.int (i : Nat), .ref t]) hT
      have eT := upd_same (H := Hc) (a := T) (o := .tup [.int (i : Nat), .ref t])
      generalize upd Hc T (.tup [.int (i : Nat), .ref t]) = H1 at sT eT ⊢
      have s1 := sc.trans sT
      refine ⟨T, _, rfl, SqT.of eT, rfl, _, _, rfl, _, _, rfl, ⟨t, _, rfl, SqT.of (s1 _ _ ht), rfl, _, _, rfl, _, _, rfl, rfl, ?_⟩⟩
      refine ⟨rfl, _, rfl, _, rfl, _, rfl, _, _, rfl, rfl, S, _, rfl, hS.same s1, by omega, fun cl => ?_⟩
      refine ⟨_, rfl, _, rfl, _, rfl, _, rfl, _, _, rfl, rfl, _, _, 4, rfl, by omega, by omega, by decide, by decide, fun n H2 s2 n0 n1 => ?_⟩
      obtain ⟨m, rfl⟩ : ∃ m : Nat, n = (m : Int) := ⟨n.toNat, by omega⟩
      have s02 := s1.trans s2
      refine ⟨e.1, e.2.1, e.2.2, m, rfl, oke.1, hb.same s02, oke.2, by omega, fun H3 s3 => ?_⟩
      obtain ⟨rk, rl⟩ := (rowW_of (n := m) e.1 e.2.2 (by omega)).rowK oke.1 oke.2
      generalize rowW m e.1 e.2.2 = row at rk rl ⊢
      have s13 := s2.trans s3
      have hR3 := s13 _ _ (sT _ _ hR)
      have lrm : (rows.map V.str).length = rows.length := List.length_map ..
      refine ⟨_, rfl, _, rfl, _, _, rfl, rfl, _, rfl, R, _, rfl, .inl (SqL.of hR3), _, _, rfl, rfl, _, _, _, rfl, by omega, by omega, by omega, by omega, fun n2 H4 s4 z0 z1 => ?_⟩
      obtain ⟨pl, rfl⟩ : ∃ pl : Nat, n2 = (pl : Int) := ⟨n2.toNat, by omega⟩
      have hpl : pl ≤ (rows.map V.str).length := by omega
      have hR4 := s4 _ _ hR3
      refine ⟨_, rfl, _, rfl, _, rfl, R, _, rfl, SqL.of hR4, fun p1 hp1 => ?_⟩
      rw [cut_to _ hpl]
      have y1 := same_upd (o := .lst ((rows.map V.str).take pl)) hp1
      have f1 := upd_same (H := H4) (a := p1) (o := .lst ((rows.map V.str).take pl))
      generalize upd H4 p1 (.lst ((rows.map V.str).take pl)) = H5 at y1 f1 ⊢
      refine ⟨_, rfl, by show 1 ≤ sizeLine; decide, fun p2 hp2 => ?_⟩
      have y2 := same_upd (o := .lst [.str row]) hp2
      have f2 := upd_same (H := H5) (a := p2) (o := .lst [.str row])
      generalize upd H5 p2 (.lst [.str row]) = H6 at y2 f2 ⊢
      refine ⟨p1, p2, _, _, rfl, rfl, y2 _ _ f1, f2, by rw [List.length_take, sizeLine_eq]; show _ + 1 ≤ _; omega, fun p3 hp3 => ?_⟩
      have y3 := same_upd (o := .lst ((rows.map V.str).take pl ++ [.str row])) hp3
      have f3 := upd_same (H := H6) (a := p3) (o := .lst ((rows.map V.str).take pl ++ [.str row]))
      generalize upd H6 p3 (.lst ((rows.map V.str).take pl ++ [.str row])) = H7 at y3 f3 ⊢
      have s47 := y1.trans (y2.trans y3)
      refine ⟨_, rfl, _, rfl, _, rfl, R, _, rfl, SqL.of (s47 _ _ hR4), fun p4 hp4 => ?_⟩
      rw [cut_from _ hpl]
      have y4 := same_upd (o := .lst ((rows.map V.str).drop pl)) hp4
      have f4 := upd_same (H := H7) (a := p4) (o := .lst ((rows.map V.str).drop pl))
      generalize upd H7 p4 (.lst ((rows.map V.str).drop pl)) = H8 at y4 f4 ⊢
      refine ⟨p3, p4, _, _, rfl, rfl, y4 _ _ f3, f4, by rw [List.length_append, List.length_take, List.length_drop, sizeLine_eq]; show _ + 1 + _ ≤ _; omega, fun p5 hp5 => ?_⟩
      have er : (rows.map V.str).take pl ++ [.str row] ++ (rows.map V.str).drop pl = (rows.take pl ++ [row] ++ rows.drop pl).map V.str := by
        simp only [List.map_append, List.map_take, List.map_drop, List.map_cons, List.map_nil]
      rw [er]
      have y5 := same_upd (o := .lst ((rows.take pl ++ [row] ++ rows.drop pl).map V.str)) hp5
      have f5 := upd_same (H := H8) (a := p5) (o := .lst ((rows.take pl ++ [row] ++ rows.drop pl).map V.str))
      generalize upd H8 p5 (.lst ((rows.take pl ++ [row] ++ rows.drop pl).map V.str)) = H9 at y5 f5 ⊢
      have s09 := s02.trans (s3.trans (s4.trans (s47.trans (y4.trans y5))))
      have np5 : H p5 = none := (s02.trans (s3.trans (s4.trans (s47.trans y4)))).free hp5
      have hP2 : Paired RowK (rows.take pl ++ [row] ++ rows.drop pl) (os.take pl ++ [some (e.1, e.2.2)] ++ os.drop pl) := paired_app (paired_drop _ hP) (paired_app (.cons rk .nil) (paired_take _ hP))
      have pm2 : ((os.take pl ++ [some (e.1, e.2.2)] ++ os.drop pl).filterMap id).Perm ((es.take (i + 1)).map entSB) := by
        rw [htk, List.filterMap_append, List.filterMap_append]
        have e1 : os.filterMap id = (os.take pl).filterMap id ++ (os.drop pl).filterMap id := by rw [← List.filterMap_append, List.take_append_drop]
        rw [e1] at pm
        have p1 : ((os.take pl).filterMap id ++ [(e.1, e.2.2)] ++ (os.drop pl).filterMap id).Perm ([(e.1, e.2.2)] ++ ((os.take pl).filterMap id ++ (os.drop pl).filterMap id)) := by
          rw [List.append_assoc]
          have := (List.perm_append_comm (l₁ := (os.take pl).filterMap id) (l₂ := [(e.1, e.2.2)])).append_right ((os.drop pl).filterMap id)
          rw [List.append_assoc, List.append_assoc] at this
          exact this
        exact p1.trans ((List.perm_append_comm).trans (pm.append_right _))
      have len2 : (rows.take pl ++ [row] ++ rows.drop pl).length ≤ 2 * i + 1 := by
        rw [List.length_append, List.length_append, List.length_take, List.length_drop]
        show _ + 1 + _ ≤ _
        omega
      have each2 : ∀ r ∈ rows.take pl ++ [row] ++ rows.drop pl, r.length ≤ 400 := fun r hr => by
        rcases List.mem_append.mp hr with hr | hr
        · rcases List.mem_append.mp hr with hr | hr
          · exact each r (List.mem_of_mem_take hr)
          · rw [List.mem_singleton.mp hr]; exact rl
        · exact each r (List.mem_of_mem_drop hr)
      generalize rows.take pl ++ [row] ++ rows.drop pl = rows2 at f5 hP2 len2 each2
      generalize os.take pl ++ [some (e.1, e.2.2)] ++ os.drop pl = os2 at hP2 pm2
      refine ⟨_, rfl, _, rfl, _, _, rfl, rfl, _, _, 3, rfl, by omega, by omega, by decide, by decide, fun n5 H10 s10 _ _ => ⟨rfl, _, rfl, ?_⟩⟩
      by_cases h5 : n5 = 0
      · rw [decide_eq_true (show V.int n5 = V.int 0 from by rw [h5])]
        have hR10 := s10 _ _ f5
        refine iteT ⟨_, rfl, .inl ⟨rfl, _, SqL.of hR10⟩, by show 5 ≤ sizeLine; decide, fun tp htp => ?_⟩
        have y6 := same_upd (o := .tup (rems.map V.str)) htp
        have f6 := upd_same (H := H10) (a := tp) (o := .tup (rems.map V.str))
        refine ⟨_, rfl, _, rfl, _, _, rfl, rfl, _, _, 5, rfl, by omega, by omega, by decide, by decide, fun n6 H12 s12 w0 w1 => ?_⟩
        have s12 : Same (upd H10 tp (.tup (rems.map V.str))) H12 := s12
        obtain ⟨j, rfl⟩ : ∃ j : Nat, n6 = (j : Int) := ⟨n6.toNat, by omega⟩
        obtain ⟨rm, hrm⟩ : ∃ rm, rems[j]? = some rm := ⟨_, List.getElem?_eq_getElem (show j < rems.length from by show j < 5; omega)⟩
        have hmem := List.mem_of_getElem? hrm
        obtain ⟨k1', k2'⟩ := rems_ok rm hmem
        have hat : (rems.map V.str)[j]? = some (.str rm) := by rw [List.getElem?_map, hrm]; rfl
        have hR12 := s12 _ _ (y6 _ _ hR10)
        refine ⟨tp, _, _, _, rfl, rfl, SqT.of (s12 _ _ f6), atI_nat hat, p5, _, _, rfl, rfl, hR12, by rw [List.length_map, sizeLine_eq]; omega, ?_⟩
        refine ⟨_, _, _, _, _, _, p5, rows2 ++ [rm], os2 ++ [none], rfl, same_new (s09.trans (s10.trans (y6.trans s12))) np5, np5, ?_, paired_snoc k1' hP2, by rw [List.length_append]; show _ + 1 ≤ _; omega, fun r hr => ?_, ?_⟩
        · rw [upd_same, List.map_append]; rfl
        · rcases List.mem_append.mp hr with hr | hr
          · exact each2 r hr
          · rw [List.mem_singleton.mp hr]; exact k2'
        · rw [List.filterMap_append]
          show (os2.filterMap id ++ []).Perm _
          rw [List.append_nil]; exact pm2
      · rw [decide_eq_false (show ¬ V.int n5 = V.int 0 from fun z => h5 (V.int.inj z))]
        exact iteF ⟨_, _, _, _, _, _, p5, rows2, os2, rfl, s09.trans s10, np5, s10 _ _ f5, hP2, by omega, each2, pm2⟩
    · rintro σ Hc ⟨c4, c5, c6, c7, c8, c9, R, rows, os, rfl, sc, nR, hR, hP, lr, each, pm⟩
      rw [lenu, List.take_length] at pm
      rw [lenu] at lr
      obtain ⟨t1, t2, l1, l2⟩ := text_of hP (by omega) each pm
      have ln : ("\n" : Str).length = 1 := by decide +kernel
      refine ⟨⟨_, rfl⟩, _, rfl, _, R, rows, rfl, rfl, .inl (SqL.of hR), by omega, ?_⟩
      generalize Txt.join "\n" rows = x at t1 t2 l1 ⊢
      refine ⟨_, rfl, _, rfl, S, k, rfl, hS.same sc, k0, fun cl => ⟨_, _, 2, rfl, by decide, by decide, by decide, by decide, fun n H2 s2 _ _ => ⟨rfl, _, rfl, ?_⟩⟩⟩
      by_cases h5 : n = 0
      · rw [decide_eq_true (show V.int n = V.int 0 from by rw [h5])]
        exact iteT ⟨_, _, rfl, rfl, by rw [sizeLine_eq]; omega, q _ _ (sc.trans s2) t2⟩
      · rw [decide_eq_false (show ¬ V.int n = V.int 0 from fun z => h5 (V.int.inj z))]
        refine iteF ⟨_, _, rfl, rfl, by rw [sizeLine_eq]; show _ + 0 ≤ _; omega, ?_⟩
        have : x ++ ("" : Str) = x := Str.append_empty _
        rw [this]
        exact q _ _ (sc.trans s2) t1
end
end MG

set_option Elab.async false
set_option linter.all false
set_option maxRecDepth 100000
namespace MG
open PySem PySem.Spec PyProof.Rows L2
/-! ### zip(tuple, tuple) -/
section
variable {prog : Program} {w : World} {A : Around} {E : Value → Shared → Prop} {s : Shared}
/-- the places that a zip object writes to -/
abbrev Off (c to p q : Addr) (h h' : Heap) : Prop := ∀ b o, b ≠ c → b ≠ to → b ≠ p → b ≠ q → h.get? b = some o → h'.get? b = some o
theorem zt_item {c ti to p q a b : Addr} {i j : Nat} {us vs : Array Value} {u v e e' : Value} {Q : Value → Shared → Prop} (D : ZipApart c ti to p q a b) (hc : IsZip s.heap c ti to .none) (ht : IsPair s.heap ti (.ref p) (.ref q)) (ho : IsPair s.heap to e e')
    (hp : s.heap.IsTupleIter p a i) (hq : s.heap.IsTupleIter q b j) (ha : s.heap.IsTuple a us) (hb : s.heap.IsTuple b vs) (hu : us[i]? = some u) (hv : vs[j]? = some v)
    (k : ∀ g, IsZip g c ti to (rawInt s.heap.objs.size) → IsPair g to u v → g.IsTupleIter p a (i + 1) → g.IsTupleIter q b (j + 1) → IsPair g s.heap.objs.size u v → g.objs.size = s.heap.objs.size + 1 → Off c to p q s.heap g → Q (.ref s.heap.objs.size) { s with heap := g }) :
    wpAny (model prog w) A (Builtin.«zip.__next__» ⟨[.ref c], []⟩) (fun fin t => ∃ r, fin = .done (.ret r) ∧ Q r t) E s := by
  show wpAny _ _ (field (.ref c) 2 >>= _) _ _ _
  refine wpAny_bind (wpAny_field hc rfl (x := .bool false) rfl ?_); show wpAny _ _ (field (.ref c) 3 >>= _) _ _ _
  refine wpAny_bind (wpAny_field hc rfl (x := .ref ti) rfl (wpAny_bind (wpAny_seqItems ht rfl ?_)))
  show wpAny _ _ (Builtin.SmallTypes.ownedTupleIsFree (.ref c) >>= _) _ _ _
  refine wpAny_bind ?_
  unfold Builtin.SmallTypes.ownedTupleIsFree
  refine wpAny_bind (wpAny_field hc rfl (x := .none) rfl (wpAny_pure ?_)); simp only [if_true]
  refine wpAny_bind (wpAny_rule (wpAny_bind (wpAny_field hc rfl (x := .ref to) rfl ?_)))
  refine wpAny_bind (wpAny_setField_rec hc (by simp) fun g1 c1 k1 => wpAny_bind ?_)
  replace c1 : IsZip g1 c ti to .ellipsis := c1
  simp only [List.zipIdx_cons, List.zipIdx_nil, List.forIn_cons, List.forIn_nil]
  refine wpAny_bind (wpAny_bind (wpAny_onRaise ?_)); show wpAny _ _ (Builtin.SmallTypes.nextOf (.ref p) >>= _) _ _ _
  refine wpAny_bind (drawT_item (hp.extBut k1.extBut D.i1z) (ha.extBut k1.extBut D.l1z) hu fun g2 p2 k2 => wpAny_pure ?_)
  have o2 : IsPair g2 to e e' := k2.extBut _ _ D.TOi1 (k1.extBut _ _ D.TOz ho)
  refine wpAny_bind (wpAny_seqItems o2 rfl (wpAny_bind (wpAny_updateSeq_pair o2 fun g3 o3 k3 => ?_)))
  replace o3 : IsPair g3 to u e' := o3
  refine wpAny_bind (wpAny_letGo (wpAny_pure (wpAny_bind (wpAny_bind (wpAny_onRaise ?_)))))
  show wpAny _ _ (Builtin.SmallTypes.nextOf (.ref q) >>= _) _ _ _
  refine wpAny_bind (drawT_item (((hq.extBut k1.extBut D.i2z).extBut k2.extBut D.i12.symm).extBut k3.extBut D.TOi2.symm) (((hb.extBut k1.extBut D.l2z).extBut k2.extBut D.l2i1).extBut k3.extBut D.l2TO) hv fun g4 q4 k4 => wpAny_pure ?_)
  have o4 : IsPair g4 to u e' := k4.extBut _ _ D.TOi2 o3
  refine wpAny_bind (wpAny_seqItems o4 rfl (wpAny_bind (wpAny_updateSeq_pair o4 fun g5 o5 k5 => ?_)))
  replace o5 : IsPair g5 to u v := o5
  refine wpAny_bind (wpAny_letGo (wpAny_pure (wpAny_pure (wpAny_bind (wpAny_seqItems o5 rfl (wpAny_bind (wpAny_newTuple ?_)))))))
  have sz : g5.objs.size = s.heap.objs.size := by rw [k5.1, k4.1, k3.1, k2.1, k1.1]
  have c5 : IsZip g5 c ti to .ellipsis := k5.extBut _ _ D.TOz.symm (k4.extBut _ _ D.i2z.symm (k3.extBut _ _ D.TOz.symm (k2.extBut _ _ D.i1z.symm c1)))
  have off5 : Off c to p q s.heap g5 := fun b o n1 n2 n3 n4 x => k5.extBut _ _ n2 (k4.extBut _ _ n4 (k3.extBut _ _ n2 (k2.extBut _ _ n3 (k1.extBut _ _ n1 x))))
  have p5 : g5.IsTupleIter p a (i + 1) := ((p2.extBut k3.extBut D.TOi1.symm).extBut k4.extBut D.i12).extBut k5.extBut D.TOi1.symm
  have q5 : g5.IsTupleIter q b (j + 1) := q4.extBut k5.extBut D.TOi2.symm
  have lc : c < g5.objs.size := Heap.lt_size c5
  show wpAny _ _ (Builtin.SmallTypes.ownedTupleHandOut (.ref c) (.ref g5.objs.size) >>= _) _ _ _
  refine wpAny_bind ?_
  unfold Builtin.SmallTypes.ownedTupleHandOut
  have c6 : IsZip (g5.push { cls := .type "tuple", data := .seq #[u, v] }) c ti to .ellipsis := Heap.get?_push_of_some _ c5
  refine wpAny_bind (wpAny_setField_rec c6 (by simp) fun g7 c7 k7 => ?_)
  replace c7 : IsZip g7 c ti to (rawInt g5.objs.size) := c7
  refine wpAny_setField_rec c7 (by simp) fun g8 c8 k8 => ?_
  replace c8 : IsZip g8 c ti to (rawInt g5.objs.size) := c8
  have up : ∀ b o, b ≠ c → g5.get? b = some o → g8.get? b = some o := fun b o n x => k8.extBut _ _ n (k7.extBut _ _ n (Heap.get?_push_of_some _ x))
  have n8 : IsPair g8 g5.objs.size u v := k8.extBut _ _ (Nat.ne_of_gt lc) (k7.extBut _ _ (Nat.ne_of_gt lc) (Heap.get?_push_size _ rfl))
  have s8 : g8.objs.size = g5.objs.size + 1 := by rw [k8.1, k7.1, Heap.size_push]
  rw [sz] at c8 n8 s8
  refine wpAny_pure ⟨_, rfl, ?_⟩
  show Q (.ref g5.objs.size) _
  rw [sz]
  exact k g8 c8 (up _ _ D.TOz o5) (p5.at fun o x => up _ o D.i1z x) (q5.at fun o x => up _ o D.i2z x) n8 s8 fun b o n1 n2 n3 n4 x => up b o n1 (off5 b o n1 n2 n3 n4 x)
/-- both at their ends: the first one tells it -/
theorem zt_end {c ti to p q a b : Addr} {i j : Nat} {us vs : Array Value} {e e' : Value} {Q : Fin → Shared → Prop} (hh : A.handled = none) (D : ZipApart c ti to p q a b) (hc : IsZip s.heap c ti to .none) (ht : IsPair s.heap ti (.ref p) (.ref q)) (ho : IsPair s.heap to e e')
    (hp : s.heap.IsTupleIter p a i) (ha : s.heap.IsTuple a us) (hu : us[i]? = none)
    (k : ∀ g x, Off c to p q s.heap g → (∃ o, g.get? x = some o ∧ o.cls = .type "StopIteration") → E (.ref x) { s with heap := g }) : wpAny (model prog w) A (Builtin.«zip.__next__» ⟨[.ref c], []⟩) Q E s := by
  show wpAny _ _ (field (.ref c) 2 >>= _) _ _ _
  refine wpAny_bind (wpAny_field hc rfl (x := .bool false) rfl ?_); show wpAny _ _ (field (.ref c) 3 >>= _) _ _ _
  refine wpAny_bind (wpAny_field hc rfl (x := .ref ti) rfl (wpAny_bind (wpAny_seqItems ht rfl ?_)))
  show wpAny _ _ (Builtin.SmallTypes.ownedTupleIsFree (.ref c) >>= _) _ _ _
  refine wpAny_bind ?_
  unfold Builtin.SmallTypes.ownedTupleIsFree
  refine wpAny_bind (wpAny_field hc rfl (x := .none) rfl (wpAny_pure ?_)); simp only [if_true]
  refine wpAny_bind (wpAny_rule (wpAny_bind (wpAny_field hc rfl (x := .ref to) rfl ?_)))
  refine wpAny_bind (wpAny_setField_rec hc (by simp) fun g1 c1 k1 => wpAny_bind ?_)
  replace c1 : IsZip g1 c ti to .ellipsis := c1
  simp only [List.zipIdx_cons, List.zipIdx_nil, List.forIn_cons, List.forIn_nil]
  refine wpAny_bind (wpAny_bind (wpAny_onRaise ?_)); show wpAny _ _ (Builtin.SmallTypes.nextOf (.ref p) >>= _) _ _ _
  refine wpAny_bind (drawT_end hh (hp.extBut k1.extBut D.i1z) (ha.extBut k1.extBut D.l1z) hu fun g2 x k2 ⟨ox, hx, cx⟩ => ?_)
  have c2 : IsZip g2 c ti to .ellipsis := k2 _ _ D.i1z.symm c1
  have nx : x ≠ c := fun y => by rw [y, c2] at hx; cases hx; simp at cx
  exact wpAny_setField_rec c2 (by simp) fun g3 _ k3 => k g3 x (fun b o n1 _ n3 _ y => k3.extBut _ _ n1 (k2 _ _ n3 (k1.extBut _ _ n1 y))) ⟨ox, k3.extBut _ _ nx hx, cx⟩
theorem next_zt_item {c ti to p q a b : Addr} {i j : Nat} {us vs : Array Value} {u v e e' : Value} {Q : Option Value → Shared → Prop} (D : ZipApart c ti to p q a b) (hc : IsZip s.heap c ti to .none) (ht : IsPair s.heap ti (.ref p) (.ref q)) (ho : IsPair s.heap to e e')
    (hp : s.heap.IsTupleIter p a i) (hq : s.heap.IsTupleIter q b j) (ha : s.heap.IsTuple a us) (hb : s.heap.IsTuple b vs) (hu : us[i]? = some u) (hv : vs[j]? = some v)
    (k : ∀ g, IsZip g c ti to (rawInt s.heap.objs.size) → IsPair g to u v → g.IsTupleIter p a (i + 1) → g.IsTupleIter q b (j + 1) → IsPair g s.heap.objs.size u v → g.objs.size = s.heap.objs.size + 1 → Off c to p q s.heap g → Q (some (.ref s.heap.objs.size)) { s with heap := g }) :
    wpAny (model prog w) A (pyNext (.ref c)) Q E s := by
  have T : s.TypeIs (.ref c) "zip" := ⟨_, hc, rfl⟩
  unfold pyNext
  exact wpAny_bind (wpAny_attempt (wpAny_callSpecial?_slot (name := Str.ofString "__next__") T F.slot_zip_next (wpAny_call_entry F.slot_zip_next T F.entry_zip_next (zt_item D hc ht ho hp hq ha hb hu hv fun g a1 a2 a3 a4 a5 a6 a7 => wpAny_pure (k g a1 a2 a3 a4 a5 a6 a7)) (F.args_zip_next_1 _))))
theorem next_zt_end {c ti to p q a b : Addr} {i j : Nat} {us : Array Value} {e e' : Value} {Q : Option Value → Shared → Prop} (hh : A.handled = none) (D : ZipApart c ti to p q a b) (hc : IsZip s.heap c ti to .none) (ht : IsPair s.heap ti (.ref p) (.ref q)) (ho : IsPair s.heap to e e')
    (hp : s.heap.IsTupleIter p a i) (ha : s.heap.IsTuple a us) (hu : us[i]? = none) (k : ∀ g, Off c to p q s.heap g → Q none { s with heap := g }) : wpAny (model prog w) A (pyNext (.ref c)) Q E s := by
  have T : s.TypeIs (.ref c) "zip" := ⟨_, hc, rfl⟩
  unfold pyNext
  refine wpAny_bind (wpAny_attempt (wpAny_callSpecial?_slot (name := Str.ofString "__next__") T F.slot_zip_next (wpAny_call_entry F.slot_zip_next T F.entry_zip_next (zt_end (j := j) (vs := #[]) hh D hc ht ho hp ha hu fun g x off ⟨o, h1, h2⟩ => ?_) (F.args_zip_next_1 _))))
  exact wpAny_bind (wpAny_isInstance (T := "StopIteration") (b := true) ⟨o, h1, h2⟩ isSubtype_stop (wpAny_pure (k _ off)))
end
abbrev ztI (l : Addr) : Obj := { cls := .type "tuple_iterator", data := .fields #[.ref l, .int 0 0] }
abbrev zt2 (h : Heap) (a b : Addr) : Heap := (h.push (ztI a)).push (ztI b)
abbrev zt3 (h : Heap) (a b : Addr) : Heap := (zt2 h a b).push { cls := .type "tuple", data := .seq #[.ref h.objs.size, .ref (h.push (ztI a)).objs.size] }
abbrev zt4 (h : Heap) (a b : Addr) : Heap := (zt3 h a b).push { cls := .type "tuple", data := .seq #[.none, .none] }
abbrev zt5 (h : Heap) (a b : Addr) : Heap := (zt4 h a b).push { cls := .type "zip", data := .fields #[.none, .bool false, .bool false, .ref (zt2 h a b).objs.size, .ref (zt3 h a b).objs.size] }
theorem zt_new (a b : Addr) (us vs : Array Value) : Meets (Builtin.«zip.__new__» ⟨[.type "zip", .ref a, .ref b], []⟩) (fun _ R s => s.heap.IsTuple a us ∧ s.heap.IsTuple b vs ∧ R (.ok (.ret (.ref (zt4 s.heap a b).objs.size))) { s with heap := zt5 s.heap a b }) :=
  .of_wp fun prog w A R s h => by
    obtain ⟨hp, g, d, tk, os⟩ := s; obtain ⟨ha, hb, h⟩ := h
    have hsub := sub_zip
    have T1 : Heap.IsTuple (Shared.heap ⟨hp, g, d, tk, os⟩) a us := ha
    have T2 : Heap.IsTuple (Shared.heap ⟨hp.push (ztI a), g, d, tk, os⟩) b vs := let ⟨o, e, r⟩ := hb; ⟨o, Heap.get?_push_of_some _ e, r⟩
    wp_walk using wpAny_pyIter_tuple T1, wpAny_pyIter_tuple T2
    exact ⟨_, rfl, h⟩
section
variable {prog : Program} {w : World} {A : Around} {E : Value → Shared → Prop} {s : Shared}
theorem call_zipT {a b : Addr} {us vs : Array Value} {Q : Value → Shared → Prop} (ha : s.heap.IsTuple a us) (hb : s.heap.IsTuple b vs)
    (k : ∀ g, IsZip g (s.heap.objs.size + 4) (s.heap.objs.size + 2) (s.heap.objs.size + 3) .none → IsPair g (s.heap.objs.size + 2) (.ref s.heap.objs.size) (.ref (s.heap.objs.size + 1)) → IsPair g (s.heap.objs.size + 3) .none .none → g.IsTupleIter s.heap.objs.size a 0 → g.IsTupleIter (s.heap.objs.size + 1) b 0 →
      (∀ c o, s.heap.get? c = some o → g.get? c = some o) → Q (.ref (s.heap.objs.size + 4)) { s with heap := g }) : wpAny (model prog w) A (call (.type "zip") [.ref a, .ref b]) Q E s := by
  refine callType_new F.called_zip (by decide) (F.typeCall_zip_2 _ _) (F.newCall_zip_2 _ _) (fun obj => F.args_object_init_3 obj _ _) F.entry_zip_new (zt_new a b us vs) ⟨ha, hb, ?_⟩
  have n1 : (s.heap.push (ztI a)).objs.size = s.heap.objs.size + 1 := Heap.size_push ..
  have n2 : (zt2 s.heap a b).objs.size = s.heap.objs.size + 2 := by rw [Heap.size_push, n1]
  have n3 : (zt3 s.heap a b).objs.size = s.heap.objs.size + 3 := by rw [Heap.size_push, n2]
  have n4 : (zt4 s.heap a b).objs.size = s.heap.objs.size + 4 := by rw [Heap.size_push, n3]
  have e5 : (zt5 s.heap a b).get? (zt4 s.heap a b).objs.size = some _ := Heap.get?_push_size _ rfl
  have e4 : (zt5 s.heap a b).get? (zt3 s.heap a b).objs.size = some _ := Heap.get?_push_of_some _ (Heap.get?_push_size _ rfl)
  have e3 : (zt5 s.heap a b).get? (zt2 s.heap a b).objs.size = some _ := Heap.get?_push_of_some _ (Heap.get?_push_of_some _ (Heap.get?_push_size _ rfl))
  have e2 : (zt5 s.heap a b).get? (s.heap.push (ztI a)).objs.size = some _ := Heap.get?_push_of_some _ (Heap.get?_push_of_some _ (Heap.get?_push_of_some _ (Heap.get?_push_size _ rfl)))
  have e1 : (zt5 s.heap a b).get? s.heap.objs.size = some _ := Heap.get?_push_of_some _ (Heap.get?_push_of_some _ (Heap.get?_push_of_some _ (Heap.get?_push_of_some _ (Heap.get?_push_size _ rfl))))
  show _ ∧ _
  rw [n2, n3, n4] at e5
  rw [n1, n2] at e3
  rw [n3] at e4
  rw [n1] at e2
  rw [n4]
  exact ⟨⟨_, e5, rfl⟩, k _ e5 e3 e4 ⟨_, e1, rfl, rfl⟩ ⟨_, e2, rfl, rfl⟩ fun c o x => Heap.get?_push_of_some _ (Heap.get?_push_of_some _ (Heap.get?_push_of_some _ (Heap.get?_push_of_some _ (Heap.get?_push_of_some _ x))))⟩
end
/-- tuples of one length at a and b, the items in new pairs -/
def ItzT (K : PySem.W.Frag) (a b : Addr) : It :=
  ⟨fun i H => ∃ (xs ys : List V) (x y : V), SqT K H a xs ∧ SqT K H b ys ∧ xs[i]? = some x ∧ ys[i]? = some y,
    fun i H v H' => ∃ T x y, v = .ref T ∧ H T = none ∧ H' = upd H T (.tup [x, y]) ∧ (∀ xs, SqT K H a xs → xs[i]? = some x) ∧ ∀ ys, SqT K H b ys → ys[i]? = some y,
    fun i H => ∃ xs : List V, SqT K H a xs ∧ xs.length ≤ i⟩
theorem turn_zipT {P : Program} {w : World} {K : PySem.W.Frag} {elts : List Expr} {kk : Nat} {tpos : Pos} {a b c ti to p q : Addr} (D : ZipApart c ti to p q a b) :
    Turn P w K (.Tuple elts kk tpos) (ItzT K a b) [c, ti, to, p, q] c (fun i h => IsZip h c ti to .none ∧ IsPair h ti (.ref p) (.ref q) ∧ (∃ x y, IsPair h to x y) ∧ h.IsTupleIter p a i ∧ h.IsTupleIter q b i) where
  mem := by simp
  obj := fun i h st d hd => by
    obtain ⟨h1, h2, ⟨x, y, h3⟩, ⟨o4, e4, _, d4⟩, ⟨o5, e5, _, d5⟩⟩ := st
    have m : d = c ∨ d = ti ∨ d = to ∨ d = p ∨ d = q := by simpa using hd
    rcases m with m | m | m | m | m
    · subst m; exact ⟨_, h1, fun v z => nomatch z⟩
    · subst m; exact ⟨_, h2, fun v z => nomatch z⟩
    · subst m; exact ⟨_, h3, fun v z => nomatch z⟩
    · subst m; exact ⟨o4, e4, fun v z => by rw [d4] at z; cases z⟩
    · subst m; exact ⟨o5, e5, fun v z => by rw [d5] at z; cases z⟩
  keep := fun i h h' st k => by
    obtain ⟨h1, h2, ⟨x, y, h3⟩, h4, h5⟩ := st
    exact ⟨k c (by simp) _ h1, k ti (by simp) _ h2, ⟨x, y, k to (by simp) _ h3⟩, h4.at fun o z => k p (by simp) o z, h5.at fun o z => k q (by simp) o z⟩
  item := by
    intro X hP hw hK hcalm i pins s σ H E I hf st hg
    subst hP hw hK
    obtain ⟨h1, h2, ⟨x0, y0, h3⟩, h4, h5⟩ := st
    obtain ⟨xs, ys, x, y, sx, sy, hx, hy⟩ := hg
    obtain ⟨us, ru, tu, _⟩ := I.tuple sx
    obtain ⟨vs, rv, tv, _⟩ := I.tuple sy
    obtain ⟨u, hu, qu⟩ := ru.get hx
    obtain ⟨v, hv, qv⟩ := rv.get hy
    have lc : c < s.heap.objs.size := Heap.lt_size h1
    have tu' : s.heap.IsTuple a us.toArray := tu
    have tv' : s.heap.IsTuple b vs.toArray := tv
    refine next_zt_item D h1 h2 h3 h4 h5 tu' tv' (u := u) (v := v) (by simpa using hu) (by simpa using hv) fun g c' to' p' q' hT sz off => ?_
    refine ⟨_, rfl, wpAny_letOwnedTupleGo_zip (s := { s with heap := g }) c' fun g2 c2 sb => ?_⟩
    have hT2 : g2.get? s.heap.objs.size = some { cls := .type "tuple", data := .seq #[u, v] } := (sb.2 _ (Nat.ne_of_gt lc)).trans hT
    have new : ObjOk X.prog X.w (upd H s.heap.objs.size (.tup [x, y])) g2 s.heap.objs.size (.tup [x, y]) := ⟨by show 2 ≤ sizeLine; decide, [u, v], .cons qu (.cons qv .nil), ⟨_, hT2, rfl, _, rfl⟩⟩
    have I1 : Inv X pins σ (upd H s.heap.objs.size (.tup [x, y])) { s with heap := g2 } :=
      I.turnedNew (t' := s.toks) (ch := [c, ti, to, p, q]) (fun d o hb z => (sb.2 d (fun e => hb (by simp [e]))).trans (off d o (fun e => hb (by simp [e])) (fun e => hb (by simp [e])) (fun e => hb (by simp [e])) (fun e => hb (by simp [e])) z)) hf (Nat.le_refl _) new
    refine ⟨.ref s.heap.objs.size, _, I1, rfl, ⟨_, x, y, rfl, I.hok.fresh (Nat.le_refl _), rfl, fun l hl => by rw [I.tuple_inj hl sx]; exact hx, fun l hl => by rw [I.tuple_inj hl sy]; exact hy⟩, ⟨c2, ?_, ⟨u, v, ?_⟩, ?_, ?_⟩, fun d hd => ?_⟩
    · exact (sb.2 _ D.TIz).trans (off _ _ D.TIz D.TITO D.TIi1 D.TIi2 h2)
    · exact (sb.2 _ D.TOz).trans to'
    · exact p'.at fun o z => (sb.2 _ D.i1z).trans z
    · exact q'.at fun o z => (sb.2 _ D.i2z).trans z
    · have lt : d < s.heap.objs.size := by
        have m : d = c ∨ d = ti ∨ d = to ∨ d = p ∨ d = q := by simpa using hd
        obtain ⟨_, e4, _⟩ := h4
        obtain ⟨_, e5, _⟩ := h5
        rcases m with m | m | m | m | m <;> subst m
        · exact lc
        · exact Heap.lt_size h2
        · exact Heap.lt_size h3
        · exact Heap.lt_size e4
        · exact Heap.lt_size e5
      rw [upd_ne (Nat.ne_of_lt lt)]
      exact (hf d hd).1
  done := by
    intro X hP hw hK hcalm i pins s σ H E I hf st hg
    subst hP hw hK
    obtain ⟨h1, h2, ⟨x0, y0, h3⟩, h4, h5⟩ := st
    obtain ⟨xs, sx, hend⟩ := hg
    obtain ⟨us, ru, tu, _⟩ := I.tuple sx
    have l1 := ru.length
    have tu' : s.heap.IsTuple a us.toArray := tu
    exact next_zt_end (j := i) (I.ok.hd hcalm) D h1 h2 h3 h4 tu' (by simp; omega) fun g off => ⟨rfl, I.turnedL (t' := s.toks) (ch := [c, ti, to, p, q]) (fun d o hb z => off d o (fun e => hb (by simp [e])) (fun e => hb (by simp [e])) (fun e => hb (by simp [e])) (fun e => hb (by simp [e])) z) hf⟩
  self := fun A i s Q E st h => wpAny_pyIter_zip st.1 h
/-- zip of two lists, or of two tuples -/
def iZipB (K : PySem.W.Frag) (ta : TA) : TI := fun σ H R => ta σ H fun vs H1 => ∃ a b xs ys, vs = [.ref a, .ref b] ∧ ((SqL K H1 a xs ∧ SqL K H1 b ys ∧ R (Itz K a b) H1) ∨ (SqT K H1 a xs ∧ SqT K H1 b ys ∧ R (ItzT K a b) H1))
theorem pi_zipB {X : Cx} {e e2 : Expr} {ta : TA} {p pos tpos : Pos} {elts : List Expr} {kk : Nat} (hg : Gl X "zip") (hm : X.mg "zip" = none) (ha : PA X [e, e2] ta)
    (hs : starEach [e, e2] X.env = (false, eval e X.env) :: starEach [e2] X.env := by rfl) (hpl : (backTo pos (starEach [e2] X.env)).any (·.1) = false := by rfl) :
    PI X (.Tuple elts kk tpos) (.Call (.Name "zip" p) [e, e2] [] pos) (iZipB X.K ta) := by
  intro pins s σ H R I h
  refine Call_ (ld_blt I hg hm boot_zip5 (PyProof.Rows.callWith_type1 (thn (ha pos pins s σ H _ I h) fun us s1 ⟨vs, H1, I1, r1, q1⟩ => ?_) hs hpl))
  obtain ⟨a, b, xs, ys, rfl, q⟩ := q1
  obtain ⟨rfl⟩ : us = [.ref a, .ref b] := by
    cases r1 with
    | cons r rr =>
      cases rr with
      | cons r' rr => cases rr; cases r; cases r'; rfl
  have five : ∀ c ∈ [s1.heap.objs.size + 4, s1.heap.objs.size + 2, s1.heap.objs.size + 3, s1.heap.objs.size, s1.heap.objs.size + 1], s1.heap.objs.size ≤ c := by
    intro c hc
    simp only [List.mem_cons, List.not_mem_nil, or_false] at hc
    rcases hc with z | z | z | z | z <;> rw [z] <;> first | exact Nat.le_refl _ | exact Nat.le_add_right _ _
  rcases q with ⟨sx, sy, q⟩ | ⟨sx, sy, q⟩
  · obtain ⟨_, _, p1, _⟩ := I1.list sx
    obtain ⟨_, _, p2, _⟩ := I1.list sy
    refine call_zip_2 p1.isList p2.isList fun g z1 z2 z3 z4 z5 _ k => wpAny_pyIter_zip z1 ?_
    have I2 : Inv X pins σ H1 { s1 with heap := g } := I1.kept (t' := s1.toks) k
    exact ⟨_, _, _, _, H1, rfl, I2, turn_zip (PySem.W.ktu_apart s1.heap.objs.size a b p1.lt p2.lt), ⟨z1, z2, ⟨_, _, z3⟩, z4, z5⟩, fun c hc => I1.fpOk (five c hc) (I1.hok.fresh (five c hc)), q⟩
  · obtain ⟨us, _, p1, _⟩ := I1.tuple sx
    obtain ⟨vs, _, p2, _⟩ := I1.tuple sy
    have t1 : s1.heap.IsTuple a us.toArray := p1
    have t2 : s1.heap.IsTuple b vs.toArray := p2
    have l1 : a < s1.heap.objs.size := let ⟨_, e, _⟩ := t1; Heap.lt_size e
    have l2 : b < s1.heap.objs.size := let ⟨_, e, _⟩ := t2; Heap.lt_size e
    refine call_zipT t1 t2 fun g z1 z2 z3 z4 z5 k => wpAny_pyIter_zip z1 ?_
    have I2 : Inv X pins σ H1 { s1 with heap := g } := I1.kept (t' := s1.toks) k
    exact ⟨_, _, _, _, H1, rfl, I2, turn_zipT (PySem.W.ktu_apart s1.heap.objs.size a b l1 l2), ⟨z1, z2, ⟨_, _, z3⟩, z4, z5⟩, fun c hc => I1.fpOk (five c hc) (I1.hok.fresh (five c hc)), q⟩
end MG

set_option Elab.async false
set_option linter.all false
set_option maxRecDepth 100000
set_option maxHeartbeats 1000000
namespace MG
open PySem PySem.Spec PyProof.Rows L2
/-- a list comprehension over anything that is walked n times -/
theorem lc_it {J : It} {g : TG} {tt : TT} {te : TE} {vs : List Nat} {σ : L2.St} {H1 : Hp} {Qd : Addr → Hp → Prop} (n : Nat) (Pv : Addr → Nat → Hp → Prop) (h0 : ∀ D, H1 D = none → Pv D 0 (upd H1 D (.lst [])))
    (hs : ∀ D i H, H1 D = none → i < n → Pv D i H → J.go i H ∧ ∀ x H', J.yld i H x H' → g x (wipe σ vs) H' fun σ2 H2 => wipe σ2 vs = wipe σ vs ∧ tt σ2 H2 fun b H3 =>
      if b = true then te σ2 H3 fun y H4 => ∃ acc, H4 D = some (.lst acc) ∧ acc.length < sizeLine ∧ Pv D (i + 1) (upd H4 D (.lst (acc ++ [y]))) else Pv D (i + 1) H3) (hd : ∀ D H, H1 D = none → Pv D n H → J.stop n H ∧ Qd D H) :
    ∀ D, H1 D = none → ∃ W : Nat → Nat → Hp → Prop, (∃ m, W 0 m (upd H1 D (.lst []))) ∧ ∀ i m H, W i m H →
      (J.stop i H ∧ Qd D H) ∨ (J.go i H ∧ ∃ Nx : Hp → Prop, (∀ H', Nx H' → ∃ m', m' < m ∧ W (i + 1) m' H') ∧ ∀ x H', J.yld i H x H' → g x (wipe σ vs) H' fun σ2 H2 => wipe σ2 vs = wipe σ vs ∧ tt σ2 H2 fun b H3 =>
        if b = true then te σ2 H3 fun y H4 => ∃ acc, H4 D = some (.lst acc) ∧ acc.length < sizeLine ∧ Nx (upd H4 D (.lst (acc ++ [y]))) else Nx H3) := by
  intro D hD
  refine ⟨fun i m H => m = n - i ∧ i ≤ n ∧ Pv D i H, ⟨n, by simp, Nat.zero_le _, h0 D hD⟩, ?_⟩
  rintro i m H ⟨rfl, hi, p⟩
  by_cases hlt : i < n
  · obtain ⟨h1, h2⟩ := hs D i H hD hlt p
    exact .inr ⟨h1, Pv D (i + 1), fun H' p' => ⟨n - (i + 1), by omega, rfl, hlt, p'⟩, h2⟩
  · have e : i = n := by omega
    subst e
    exact .inl (hd D H hD p)
/-- data whose lists and tuples are tracked -/
inductive Dt (H : Hp) : V → PyData → Prop
  | non : Dt H .non .none
  | int (i : Int) : Dt H (.int i) (.int i)
  | str (x : Str) : Dt H (.str x) (.str x)
  | lst {a : Addr} {xs : List V} {ds : List PyData} : H a = some (.lst xs) → Paired (Dt H) xs ds → Dt H (.ref a) (.list ds)
  | tup {a : Addr} {xs : List V} {ds : List PyData} : H a = some (.tup xs) → Paired (Dt H) xs ds → Dt H (.ref a) (.tuple ds)
def Dts (H : Hp) (xs : List V) (ds : List PyData) : Prop := Paired (Dt H) xs ds
mutual
theorem Dt.same {H H' : Hp} (k : Same H H') : ∀ (d : PyData) {v : V}, Dt H v d → Dt H' v d
  | _, _, .non => .non
  | _, _, .int i => .int i
  | _, _, .str x => .str x
  | .list ds, _, .lst h p => .lst (k _ _ h) (Dts.same k ds p)
  | .tuple ds, _, .tup h p => .tup (k _ _ h) (Dts.same k ds p)
theorem Dts.same {H H' : Hp} (k : Same H H') : ∀ (ds : List PyData) {xs : List V}, Paired (Dt H) xs ds → Paired (Dt H') xs ds
  | [], _, .nil => .nil
  | d :: ds, _, .cons r t => .cons (Dt.same k d r) (Dts.same k ds t)
end
section
variable {H : Hp}
theorem StepAt.dt {v : V} {s : Stp} (h : StepAt H v s) : Dt H v s.dat := by
  obtain ⟨t, rfl, ht⟩ := h
  cases s with
  | say => exact .tup ht (.cons (.str _) .nil)
  | hear => exact .tup ht (.cons (.str _) .nil)
  | fin => exact .tup ht (.cons (.str _) .nil)
  | plus n => exact .tup ht (.cons (.str _) (.cons (.int _) .nil))
  | times n => exact .tup ht (.cons (.str _) (.cons (.int _) .nil))
  | turn n => exact .tup ht (.cons (.str _) (.cons (.int _) .nil))
  | ask x => exact .tup ht (.cons (.str _) (.cons (.str _) .nil))
  | odd x => exact .tup ht (.cons (.str _) (.cons (.str _) .nil))
theorem BodyAt.dt {b : Addr} {ss : Body} (h : BodyAt H b ss) : Dt H (.ref b) (bodyD ss) := let ⟨_, e, z⟩ := h; .lst e (paired_mapR (G := Dt H) (f := Stp.dat) (fun v s (q : StepAt H v s) => q.dt) z)
theorem EntAt.dt {v : V} {e : Ent} (h : EntAt H v e) : Dt H v (entD e) := by
  obtain ⟨t, rfl, ht, hb⟩ := h
  exact .tup ht (.cons (.str _) (.cons hb.dt .nil))
theorem BookAt.dt {L : Addr} {es : List Ent} (h : BookAt H L es) : Dt H (.ref L) (bookD es) := let ⟨_, e, z⟩ := h; .lst e (paired_mapR (G := Dt H) (f := entD) (fun v e (q : EntAt H v e) => q.dt) z)
theorem Dt.dp {K : PySem.W.Frag} {v : V} {d : PyData} (h : Dt H v d) (hl : ∀ ds, d ≠ .list ds) (ht : ∀ ds, d ≠ .tuple ds) : Dp K H v d := by
  cases h with
  | non => exact .non
  | int i => exact .int i
  | str x => exact .str x
  | lst _ _ => exact absurd rfl (hl _)
  | tup _ _ => exact absurd rfl (ht _)
end
/-! ### whether what is told is due -/
def Fit : Nat → PyData → Prop
  | 0, .list _ => False
  | 0, .tuple _ => False
  | n + 1, .list ds => ds.length ≤ 1000 ∧ ∀ d ∈ ds, Fit n d
  | n + 1, .tuple ds => ds.length ≤ 1000 ∧ ∀ d ∈ ds, Fit n d
  | _, .str x => PyData.strOk x = true
  | _, _ => True
theorem fit_int {n : Nat} (i : Int) : Fit n (.int i) := by cases n <;> trivial
theorem fit_str {n : Nat} {x : Str} (h : PyData.strOk x = true) : Fit n (.str x) := by cases n <;> exact h
theorem fit_str_of {n : Nat} {x : Str} (h : Fit n (.str x)) : PyData.strOk x = true := by cases n <;> exact h
theorem Stp.fit {s : Stp} (h : s.ok) {n : Nat} : Fit (n + 1) s.dat := by
  have two : ∀ {a b : PyData}, Fit n a → Fit n b → Fit (n + 1) (.tuple [a, b]) := fun {a b} ha hb => ⟨by show 2 ≤ 1000; decide, fun d hd => by
    rcases List.mem_cons.mp hd with e | hd
    · rw [e]; exact ha
    · rw [List.mem_singleton.mp hd]; exact hb⟩
  have one : ∀ {a : PyData}, Fit n a → Fit (n + 1) (.tuple [a]) := fun {a} ha => ⟨by show 1 ≤ 1000; decide, fun d hd => by rw [List.mem_singleton.mp hd]; exact ha⟩
  cases s with
  | say => exact one (fit_str (by decide +kernel))
  | hear => exact one (fit_str (by decide +kernel))
  | fin => exact one (fit_str (by decide +kernel))
  | plus n => exact two (fit_str (by decide +kernel)) (fit_int _)
  | times n => exact two (fit_str (by decide +kernel)) (fit_int _)
  | turn n => exact two (fit_str (by decide +kernel)) (fit_int _)
  | ask x => exact two (fit_str (by decide +kernel)) (fit_str (word_ok h))
  | odd x => exact two (fit_str (by decide +kernel)) (fit_str (word_ok h))
theorem body_fit {b : Body} (h : BodyOk b) {n : Nat} : Fit (n + 2) (bodyD b) := ⟨by have := h.1; rw [List.length_map]; omega, fun d hd => by
  obtain ⟨s, hs, rfl⟩ := List.mem_map.mp hd
  exact s.fit (h.2 s hs)⟩
theorem ent_fit {e : Ent} (h : EntOk e) {n : Nat} : Fit (n + 3) (entD e) := ⟨by show 2 ≤ 1000; decide, fun d hd => by
  rcases List.mem_cons.mp hd with z | hd
  · rw [z]; exact fit_str (word_ok h.1)
  · rw [List.mem_singleton.mp hd]; exact body_fit h.2⟩
theorem book_fit {es : List Ent} (h : ∀ e ∈ es, EntOk e) (few : es.length ≤ 1000) {n : Nat} : Fit (n + 4) (bookD es) := ⟨by rw [List.length_map]; exact few, fun d hd => by
  obtain ⟨s, hs, rfl⟩ := List.mem_map.mp hd
  exact ent_fit (h s hs)⟩
def spA : Nat → Sp
  | 0 => fun _ _ _ _ => False
  | n + 1 => fun vs H Q _ => ∃ v u d, vs = [v, u] ∧ Dt H v d ∧ Dt H u d ∧ Fit n d ∧ ∀ H', Same H H' → Q (.bl true) H'
section
variable {P : Program} {w : World} {K : PySem.W.Frag} {mg : Str → Option Value} {base : Heap}
theorem ok_law_alike {f : Addr} {fd : FuncData} (F : Fun K "_law_alike" "_law_alike" s_law_alike f fd) (b : ∀ x ∈ blts, mg x = none) (n : Nat) (c_law_alike : Cal P w K mg base "_law_alike" (n + 10) ["_law_found", "_law_due"] (spA n)) :
    FnOk P w K mg base CX0 (n + 1 + 10) f fd ["_law_found", "_law_due"] (spA (n + 1)) := by
  refine F.ok (k := n + 10) sc_law_alike (fun vs H Q E h => ?_) (fun cdv A outer s H vs Q E hr h => ?_)
  · obtain ⟨v, u, d, rfl, _⟩ := h; rfl
  · obtain ⟨v, u, d, rfl, hv, hu, fl, q⟩ := h
    refine ⟨_, (pss_cons (ps_if (PW.pt (pw_or (pt_val (pe_callB call_isi (by rfl) (b "isinstance" (by decide +kernel)) (by decide +kernel) (pa_cons (pv 1) (pa_cons (pe_bltn (v := .ty "list") (by rfl) (b "list" (by decide +kernel)) (by decide +kernel) rfl) pa_nil)))) (pw_or1 (pt_val (pe_callB call_isi (by rfl) (b "isinstance" (by decide +kernel)) (by decide +kernel) (pa_cons (pv 1) (pa_cons (pe_bltn (v := .ty "tuple") (by rfl) (b "tuple" (by decide +kernel)) (by decide +kernel) rfl) pa_nil))))))) (pss_cons (ps_if (PW.pt (pw_or (pt_cmpR op_ne (pe_callB call_isi (by rfl) (b "isinstance" (by decide +kernel)) (by decide +kernel) (pa_cons (pv 0) (pa_cons (pe_bltn (v := .ty "list") (by rfl) (b "list" (by decide +kernel)) (by decide +kernel) rfl) pa_nil))) (pe_callB call_isi (by rfl) (b "isinstance" (by decide +kernel)) (by decide +kernel) (pa_cons (pv 1) (pa_cons (pe_bltn (v := .ty "list") (by rfl) (b "list" (by decide +kernel)) (by decide +kernel) rfl) pa_nil))) (nomark _)) (pw_or1 (pt_cmpR op_ne (pe_callB call_isi (by rfl) (b "isinstance" (by decide +kernel)) (by decide +kernel) (pa_cons (pv 0) (pa_cons (pe_bltn (v := .ty "tuple") (by rfl) (b "tuple" (by decide +kernel)) (by decide +kernel) rfl) pa_nil))) (pe_callB call_isi (by rfl) (b "isinstance" (by decide +kernel)) (by decide +kernel) (pa_cons (pv 1) (pa_cons (pe_bltn (v := .ty "tuple") (by rfl) (b "tuple" (by decide +kernel)) (by decide +kernel) rfl) pa_nil))) (nomark _))))) (pss_one (ps_ret pe_bl)) pss_nil) (pss_cons (ps_if (pt_cmpR op_ne (pe_callB call_len_seq (by rfl) (b "len" (by decide +kernel)) (by decide +kernel) (pa_cons (pv 0) pa_nil)) (pe_callB call_len_seq (by rfl) (b "len" (by decide +kernel)) (by decide +kernel) (pa_cons (pv 1) pa_nil)) (nomark _)) (pss_one (ps_ret pe_bl)) pss_nil) (pss_one (ps_ret (pe_callB (cr_all rfl) (by rfl) (b "all" (by decide +kernel)) (by decide +kernel) (pa_cons (pe_lc (own := [("_law_mine", 2), ("_law_theirs", 3)]) rfl sc_law_alike.nd (pi_zipB (by rfl) (b "zip" (by decide +kernel)) (pa_cons (pv 0) (pa_cons (pv 1) pa_nil))) (blkOk_by (own := [("_law_mine", 2), ("_law_theirs", 3)]) (N := N_law_alike) (sc := defScope s_law_alike) (by decide +kernel)) (fun _ _ _ _ _ => (pg_tupK (K := K) (n := 2) rfl (by rfl) (pgs_cons (pg_name (i := 2) sc_law_alike.nd rfl (by first | exact Or.inl rfl | exact Or.inr rfl)) (pgs_cons (pg_name (i := 3) sc_law_alike.nd rfl (by first | exact Or.inl rfl | exact Or.inr rfl)) pgs_nil)))) (fun _ _ _ _ _ => pts_nil) (fun _ _ _ _ _ => (pe_cal c_law_alike (hr.mono (by omega)) (by rfl) (pa_cons (pv 2) (pa_cons (pv 3) pa_nil))))) pa_nil)))))) pss_nil) (pss_one (ps_ret (pe_and (pe_cmpR op_eq (pe_callB call_isi (by rfl) (b "isinstance" (by decide +kernel)) (by decide +kernel) (pa_cons (pv 0) (pa_cons (pe_bltn (v := .ty "bool") (by rfl) (b "bool" (by decide +kernel)) (by decide +kernel) rfl) pa_nil))) (pe_callB call_isi (by rfl) (b "isinstance" (by decide +kernel)) (by decide +kernel) (pa_cons (pv 1) (pa_cons (pe_bltn (v := .ty "bool") (by rfl) (b "bool" (by decide +kernel)) (by decide +kernel) rfl) pa_nil))) (nomark _)) (pe_one (pe_cmpR (op_eqD hr.units) (pv 0) (pv 1) (nomark _))))))), ?_⟩
    have cs : (∃ ty, TyOf K H v (.type ty) ∧ TyOf K H u (.type ty) ∧ PySem.W.kitOne K (.type ty) (.type "list") = some false ∧ PySem.W.kitOne K (.type ty) (.type "tuple") = some false ∧ PySem.W.kitOne K (.type ty) (.type "bool") = some false ∧ Dp K H v d ∧ Dp K H u d ∧ Flat d 1) ∨
        (∃ a b xs ys ds, v = .ref a ∧ u = .ref b ∧ d = .list ds ∧ H a = some (.lst xs) ∧ H b = some (.lst ys) ∧ Paired (Dt H) xs ds ∧ Paired (Dt H) ys ds) ∨ (∃ a b xs ys ds, v = .ref a ∧ u = .ref b ∧ d = .tuple ds ∧ H a = some (.tup xs) ∧ H b = some (.tup ys) ∧ Paired (Dt H) xs ds ∧ Paired (Dt H) ys ds) := by
      cases hv with
      | non => cases hu; exact .inl ⟨_, .non, .non, rfl, rfl, rfl, .non, .non, flat_none⟩
      | int i => cases hu; exact .inl ⟨_, .int _, .int _, rfl, rfl, rfl, .int _, .int _, flat_int _⟩
      | str x => cases hu; exact .inl ⟨_, .str _, .str _, rfl, rfl, rfl, .str _, .str _, flat_str (fit_str_of fl)⟩
      | lst h1 h2 => cases hu with
        | lst h3 h4 => exact .inr (.inl ⟨_, _, _, _, _, rfl, rfl, rfl, h1, h3, h2, h4⟩)
      | tup h1 h2 => cases hu with
        | tup h3 h4 => exact .inr (.inr ⟨_, _, _, _, _, rfl, rfl, rfl, h1, h3, h2, h4⟩)
    rcases cs with ⟨ty, tv, tu, k1, k2, k3, dv, du, fd⟩ | ⟨a, b', xs, ys, ds, rfl, rfl, rfl, ha, hb, px, py⟩ | ⟨a, b', xs, ys, ds, rfl, rfl, rfl, ha, hb, px, py⟩
    · refine ⟨_, rfl, _, _, _, _, rfl, tu, k1, _, rfl, iteF ?_⟩
      refine ⟨_, rfl, _, _, _, _, rfl, tu, k2, _, rfl, iteF ?_⟩
      refine ⟨_, rfl, _, _, _, _, rfl, tv, k3, _, rfl, _, _, _, _, rfl, tu, k3, rfl, _, rfl, ?_⟩
      rw [decide_eq_true rfl]
      refine iteT ⟨_, rfl, _, rfl, d, d, dv, du, fd.shaped, fd.shaped, ?_⟩
      rw [fd.refl]
      exact q H (Same.refl H)
    · have lx := px.length
      have ly := py.length
      have ll : V.int (xs.length : Nat) = V.int (ys.length : Nat) := by rw [lx, ly]
      refine ⟨_, rfl, _, _, _, _, rfl, TyOf.lst hb, rfl, _, rfl, iteT ?_⟩
      refine ⟨_, rfl, _, _, _, _, rfl, TyOf.lst ha, rfl, _, rfl, _, _, _, _, rfl, TyOf.lst hb, rfl, rfl, _, rfl, iteF ?_⟩
      refine ⟨_, rfl, _, _, _, _, rfl, TyOf.lst ha, rfl, _, rfl, _, _, _, _, rfl, TyOf.lst hb, rfl, rfl, _, rfl, iteF ?_⟩
      refine ⟨_, rfl, a, xs, rfl, .inl (SqL.of ha), _, rfl, b', ys, rfl, .inl (SqL.of hb), rfl, _, rfl, ?_⟩
      rw [decide_eq_true ll]
      refine iteF ?_
      dsimp only [tNext]
      cases n with
      | zero => exact False.elim fl
      | succ m =>
      obtain ⟨few, each⟩ := fl
      refine ⟨_, rfl, _, rfl, a, b', xs, ys, rfl, .inl ⟨SqL.of ha, SqL.of hb, ?_⟩⟩
      refine lc_it (J := Itz K a b') ds.length (fun D i Hc => Same H Hc ∧ Hc D = some (.lst ((List.replicate i true).map V.bl))) (fun D hD => ⟨same_upd hD, upd_same⟩) (fun D i Hc hD hi ⟨sc, hDc⟩ => ?_) (fun D Hc hD ⟨sc, hDc⟩ => ?_)
      · have hxi : xs[i]? = some xs[i] := List.getElem?_eq_getElem (by omega)
        have hyi : ys[i]? = some ys[i] := List.getElem?_eq_getElem (by omega)
        refine ⟨⟨xs, ys, _, _, SqL.of (sc _ _ ha), SqL.of (sc _ _ hb), hxi, hyi⟩, ?_⟩
        rintro z H' ⟨T, x, y, rfl, hT, rfl, hx, hy⟩
        have hx := hx _ (SqL.of (sc _ _ ha))
        have hy := hy _ (SqL.of (sc _ _ hb))
        obtain ⟨d1, e1, dx⟩ := paired_at px hx
        obtain ⟨d2, e2, dy⟩ := paired_at py hy
        rw [e1] at e2
        obtain rfl := Option.some.inj e2
        have sT := same_upd (o := .tup [x, y]) hT
        refine ⟨T, _, rfl, SqT.of upd_same, rfl, _, _, rfl, _, _, rfl, rfl, rfl, ?_⟩
        dsimp only [tYes]
        refine iteT ⟨_, rfl, _, rfl, x, y, d1, rfl, Dt.same (sc.trans sT) _ dx, Dt.same (sc.trans sT) _ dy, each d1 (List.mem_of_getElem? e1), fun H3 s3 => ?_⟩
        refine ⟨_, s3 _ _ (sT _ _ hDc), ?_, ?_, ?_⟩
        · rw [List.length_map, List.length_replicate, sizeLine_eq]; omega
        · exact fun c o e => But.upd _ _ (by simpa using ne_of_none e hD) (s3 _ _ (sT _ _ (sc _ _ e)))
        · rw [upd_same, List.replicate_succ', List.map_append]; rfl
      · refine ⟨⟨xs, ys, SqL.of (sc _ _ ha), SqL.of (sc _ _ hb), .inl (by omega)⟩, D, List.replicate ds.length true, rfl, SqL.of hDc, ?_⟩
        have : (List.replicate ds.length true).all id = true := List.all_eq_true.mpr fun x hx => List.eq_of_mem_replicate hx
        rw [this]
        exact q Hc sc
    · have lx := px.length
      have ly := py.length
      have ll : V.int (xs.length : Nat) = V.int (ys.length : Nat) := by rw [lx, ly]
      refine ⟨_, rfl, _, _, _, _, rfl, TyOf.tup hb, rfl, _, rfl, iteF ?_⟩
      refine ⟨_, rfl, _, _, _, _, rfl, TyOf.tup hb, rfl, _, rfl, iteT ?_⟩
      refine ⟨_, rfl, _, _, _, _, rfl, TyOf.tup ha, rfl, _, rfl, _, _, _, _, rfl, TyOf.tup hb, rfl, rfl, _, rfl, iteF ?_⟩
      refine ⟨_, rfl, _, _, _, _, rfl, TyOf.tup ha, rfl, _, rfl, _, _, _, _, rfl, TyOf.tup hb, rfl, rfl, _, rfl, iteF ?_⟩
      refine ⟨_, rfl, a, xs, rfl, .inr (SqT.of ha), _, rfl, b', ys, rfl, .inr (SqT.of hb), rfl, _, rfl, ?_⟩
      rw [decide_eq_true ll]
      refine iteF ?_
      dsimp only [tNext]
      cases n with
      | zero => exact False.elim fl
      | succ m =>
      obtain ⟨few, each⟩ := fl
      refine ⟨_, rfl, _, rfl, a, b', xs, ys, rfl, .inr ⟨SqT.of ha, SqT.of hb, ?_⟩⟩
      refine lc_it (J := ItzT K a b') ds.length (fun D i Hc => Same H Hc ∧ Hc D = some (.lst ((List.replicate i true).map V.bl))) (fun D hD => ⟨same_upd hD, upd_same⟩) (fun D i Hc hD hi ⟨sc, hDc⟩ => ?_) (fun D Hc hD ⟨sc, hDc⟩ => ?_)
      · have hxi : xs[i]? = some xs[i] := List.getElem?_eq_getElem (by omega)
        have hyi : ys[i]? = some ys[i] := List.getElem?_eq_getElem (by omega)
        refine ⟨⟨xs, ys, _, _, SqT.of (sc _ _ ha), SqT.of (sc _ _ hb), hxi, hyi⟩, ?_⟩
        rintro z H' ⟨T, x, y, rfl, hT, rfl, hx, hy⟩
        have hx := hx _ (SqT.of (sc _ _ ha))
        have hy := hy _ (SqT.of (sc _ _ hb))
        obtain ⟨d1, e1, dx⟩ := paired_at px hx
        obtain ⟨d2, e2, dy⟩ := paired_at py hy
        rw [e1] at e2
        obtain rfl := Option.some.inj e2
        have sT := same_upd (o := .tup [x, y]) hT
        refine ⟨T, _, rfl, SqT.of upd_same, rfl, _, _, rfl, _, _, rfl, rfl, rfl, ?_⟩
        dsimp only [tYes]
        refine iteT ⟨_, rfl, _, rfl, x, y, d1, rfl, Dt.same (sc.trans sT) _ dx, Dt.same (sc.trans sT) _ dy, each d1 (List.mem_of_getElem? e1), fun H3 s3 => ?_⟩
        refine ⟨_, s3 _ _ (sT _ _ hDc), ?_, ?_, ?_⟩
        · rw [List.length_map, List.length_replicate, sizeLine_eq]; omega
        · exact fun c o e => But.upd _ _ (by simpa using ne_of_none e hD) (s3 _ _ (sT _ _ (sc _ _ e)))
        · rw [upd_same, List.replicate_succ', List.map_append]; rfl
      · refine ⟨⟨xs, SqT.of (sc _ _ ha), by omega⟩, D, List.replicate ds.length true, rfl, SqL.of hDc, ?_⟩
        have : (List.replicate ds.length true).all id = true := List.all_eq_true.mpr fun x hx => List.eq_of_mem_replicate hx
        rw [this]
        exact q Hc sc
/-- for every depth -/
theorem cal_alike {f : Addr} {fd : FuncData} (F : Fun K "_law_alike" "_law_alike" s_law_alike f fd) (b : ∀ x ∈ blts, mg x = none) (hm : mg "_law_alike" = some (.ref f)) (hb : Binds K fd ["_law_found", "_law_due"] []) : ∀ n, Cal P w K mg base "_law_alike" (n + 10) ["_law_found", "_law_due"] (spA n)
  | 0 => ⟨f, fd, hm, F.ok (k := 9) sc_law_alike (fun _ _ _ _ h => False.elim h) (fun _ _ _ _ _ _ _ _ _ h => False.elim h), F.kp, hb⟩
  | n + 1 => ⟨f, fd, hm, ok_law_alike F b n (cal_alike F b hm hb n), F.kp, hb⟩
end
end MG

set_option Elab.async false
set_option linter.all false
set_option maxRecDepth 100000
set_option maxHeartbeats 1000000
namespace MG
open PySem PySem.Spec PyProof.Rows L2
section
variable {X : Cx}
/-- a number below 0 in a display -/
theorem pai_neg {i : Int} {j : Nat} {pos p : Pos} {es : List Expr} {t : TA} (r : PAi X es t) : PAi X (.UnaryOp .USub (.Constant (.int i) j pos) p :: es) (tCons (tUn (rU fun i => .int (-i)) (tC (.int i))) t) := .mk (pa_cons (pe_un un_neg pe_int) r.out)
/-- if x == a deep display: .., and return x == a deep display: they are not looked into -/
theorem ps_ifI {op : CmpOp} {r : R2} {a : Expr} {ta : TE} {es : List Expr} {t : TA} {lp pos pos2 : Pos} {A B : List Stmt} {u1 u2 : TS} (ho : OpR X (compareOp op) r) (ha : PE X a ta) (hb : PAi X es t) (h1 : PSs X A u1) (h2 : PSs X B u2) (n1 : op ≠ .In := by decide) (n2 : op ≠ .NotIn := by decide) :
    PSi X (.If (.Compare a [op] [.List es lp] pos) A B pos2) (tIfS (tTest (tOp r ta (tLst t))) u1 u2) := .mk (ps_if (pt_cmpR ho ha (pe_lst hb.out) (nomark _ n1 n2)) h1 h2)
theorem ps_retI {op : CmpOp} {r : R2} {a : Expr} {ta : TE} {es : List Expr} {t : TA} {lp pos pos2 : Pos} (ho : OpR X (compareOp op) r) (ha : PE X a ta) (hb : PAi X es t) (n1 : op ≠ .In := by decide) (n2 : op ≠ .NotIn := by decide) :
    PSi X (.Return (some (.Compare a [op] [.List es lp] pos)) pos2) (tRet (tOp r ta (tLst t))) := .mk (ps_ret (pe_cmpR ho ha (pe_lst hb.out) (nomark _ n1 n2)))
theorem pss_oneI {st : Stmt} {t : TS} (h : PSi X st t) : PSsi X [st] t := .mk (pss_one h.out)
theorem pss_consII {st : Stmt} {rest : List Stmt} {t u : TS} (h : PSi X st t) (r : PSsi X rest u) : PSsi X (st :: rest) (tSeq t u) := .mk (pss_cons h.out r.out)
end
end MG

set_option Elab.async false
set_option linter.all false
set_option maxRecDepth 100000
set_option maxHeartbeats 1000000
namespace MG
open PySem PySem.Spec PyProof.Rows L2 TL
def TW2 (T : TB) (Ps Pr Pn : Addr) (H : Hp) : Prop := T.on H ∧ H Ps = some (tabH Ps) ∧ H Pr = some (tabH Pr) ∧ H Pn = some (tabH Pn)
theorem TW2.same {T : TB} {Ps Pr Pn : Addr} {H H' : Hp} (h : TW2 T Ps Pr Pn H) (k : Same H H') : TW2 T Ps Pr Pn H' := ⟨h.1.same k, k _ _ h.2.1, k _ _ h.2.2.1, k _ _ h.2.2.2⟩
theorem paired_revC {α β : Type} {F : α → β → Prop} {l : List α} {m : List β} (h : Paired F l m) : Paired F l.reverse m.reverse := by
  induction h with
  | nil => exact .nil
  | cons r t ih => rw [List.reverse_cons, List.reverse_cons]; exact paired_snoc r ih
def spLaw2 (T : TB) (Ps Pr Pn : Addr) (K : PySem.W.Frag) : Sp := fun vs H Q _ => ∃ S, vs = [.ref S] ∧ IntsAt K H S ∧ TW2 T Ps Pr Pn H ∧ ∀ H', TW2 T Ps Pr Pn H' → Q (.bl true) H'
section
variable {P : Program} {w : World} {K : PySem.W.Frag} {mg : Str → Option Value} {base : Heap}
theorem ok_law {f Ps Pr Pn : Addr} {fd : FuncData} {T : TB} (F : Fun K "law" "law" s_law f fd) (b : ∀ x ∈ blts, mg x = none) (c_law_book : Cal P w K mg base "_law_book" 40 ["_law_script", "_law_by"] (spBookL K))
    (c_law_text : Cal P w K mg base "_law_text" 20 ["_law_book_here", "_law_script", "_law_by"] (spTextL K)) (c_law_alike : Cal P w K mg base "_law_alike" 15 ["_law_found", "_law_due"] (spA 5)) (c_written : Cal P w K mg base "written" 70 ["book"] (spWritten T Ps Pr)) (c_read : Cal P w K mg base "read" 50 ["text"] (spRead T Pn)) :
    FnOk P w K mg base CX0 90 f fd ["_law_script"] (spLaw2 T Ps Pr Pn K) := by
  refine Fun.okI F sc_law (fun vs H Q E h => ?_) (fun cdv A outer s H vs Q E hr h => ?_)
  · obtain ⟨S, rfl, _⟩ := h; rfl
  · obtain ⟨S, rfl, hS, hT, q⟩ := h
    refine ⟨_, (pss_cons2 (ps_for PassesOwn.never rfl (pi_tup (pe_tup (pa_cons pe_int (pa_cons pe_int pa_nil)))) (pg_name (i := 1) sc_law.nd rfl (by first | exact Or.inl rfl | exact Or.inr rfl)) (pss_cons (ps_set (i := 2) sc_law.nd rfl (by first | exact Or.inl rfl | exact Or.inr rfl) (pe_cal c_law_book (hr.mono (by decide)) (by rfl) (pa_cons (pv 0) (pa_cons (pv 1) pa_nil)))) (pss_one (ps_for PassesOwn.never rfl (pi_tup (pe_tup (pa_cons (pe_cal c_written (hr.mono (by decide)) (by rfl) (pa_cons (pv 2) pa_nil)) (pa_cons (pe_cal c_law_text (hr.mono (by decide)) (by rfl) (pa_cons (pv 2) (pa_cons (pv 0) (pa_cons (pv 1) pa_nil)))) (pa_cons (pe_cal c_law_text (hr.mono (by decide)) (by rfl) (pa_cons (pe_sliceR (pv 2) (pe_un un_neg pe_int)) (pa_cons (pv 0) (pa_cons (pe_op op_add (pv 1) pe_int) pa_nil)))) pa_nil))))) (pg_name (i := 3) sc_law.nd rfl (by first | exact Or.inl rfl | exact Or.inr rfl)) (pss_one (ps_for PassesOwn.never rfl (pi_range1 (by rfl) (b "range" (by decide +kernel)) (pa_cons pe_int pa_nil)) (pg_name (i := 4) sc_law.nd rfl (by first | exact Or.inl rfl | exact Or.inr rfl)) (pss_cons (ps_set (i := 5) sc_law.nd rfl (by first | exact Or.inl rfl | exact Or.inr rfl) (pe_cal c_read (hr.mono (by decide)) (by rfl) (pa_cons (pv 3) pa_nil))) (pss_cons (ps_if (pt_not (pt_val (pe_cal c_law_alike (hr.mono (by decide)) (by rfl) (pa_cons (pv 5) (pa_cons (pv 2) pa_nil))))) (pss_one (ps_ret pe_bl)) pss_nil) (pss_cons (ps_for PassesOwn.never rfl (pi_enum (by rfl) (b "enumerate" (by decide +kernel)) (pa_cons (pv 5) pa_nil)) (pg_tup (by rfl) (pgs_cons (pg_name (i := 6) sc_law.nd rfl (by first | exact Or.inl rfl | exact Or.inr rfl)) (pgs_cons (pg_tup (by rfl) (pgs_cons (pg_name (i := 7) sc_law.nd rfl (by first | exact Or.inl rfl | exact Or.inr rfl)) (pgs_cons (pg_name (i := 8) sc_law.nd rfl (by first | exact Or.inl rfl | exact Or.inr rfl)) pgs_nil))) pgs_nil))) (pss_cons (ps_expr (pe_bm PySem.F.plainAttrs_list PySem.F.slot_list_append PySem.F.type_list_append mt_append (pv 8) (pa_consT (pe_tup (pa_cons pe_str pa_nil)) pa_nil))) (pss_one (ps_if (pt_cmpR (op_neD hr.units) (pe_slice sl_list (pv 5) (po_some (pe_op op_add (pv 6) pe_int)) po_none) (pe_slice sl_list (pv 2) (po_some (pe_op op_add (pv 6) pe_int)) po_none) (nomark _)) (pss_one (ps_ret pe_bl)) pss_nil)))) (pss_one (ps_expr (pe_bm PySem.F.plainAttrs_list PySem.F.slot_list_append PySem.F.type_list_append mt_append (pv 5) (pa_cons pe_int pa_nil))))))))))))) (pss_cons2 (ps_if (PW.pt (pw_or (pt_cmpR (op_neD hr.units) (pe_cal c_read (hr.mono (by decide)) (by rfl) (pa_cons pe_str pa_nil)) (pe_lst pa_nil) (nomark _)) (pw_or1 (pt_cmpR (op_neD hr.units) (pe_cal c_read (hr.mono (by decide)) (by rfl) (pa_cons pe_str pa_nil)) (pe_lst pa_nil) (nomark _))))) (pss_one (ps_ret pe_bl)) pss_nil) (pss_consII (ps_ifI (op_neD hr.units) (pe_cal c_read (hr.mono (by decide)) (by rfl) (pa_cons pe_str pa_nil)) (pai_tup (pai_str (pai_lst pai_nil pai_nil)) (pai_tup (pai_str (pai_lst (pai_tup (pai_str pai_nil) (pai_tup (pai_str (pai_str pai_nil)) pai_nil)) pai_nil)) pai_nil)) (pss_one (ps_ret pe_bl)) pss_nil) (pss_oneI (ps_retI (op_eqD hr.units) (pe_cal c_read (hr.mono (by decide)) (by rfl) (pa_cons pe_str pa_nil)) (pai_tup (pai_str (pai_lst (pai_tup (pai_str (pai_int pai_nil)) (pai_tup (pai_str (pai_neg pai_nil)) (pai_tup (pai_str (pai_int pai_nil)) pai_nil))) pai_nil)) pai_nil)))))), ?_⟩
    refine ⟨by show 2 ≤ sizeLine; decide, fun p3 hp3 => ⟨p3, rfl, ⟨_, SqT.of upd_same⟩, ?_⟩⟩
    have s0 := same_upd (o := .tup [.int 0, .int 7]) hp3
    have f0 := upd_same (H := H) (a := p3) (o := .tup [.int 0, .int 7])
    generalize upd H p3 (.tup [.int 0, .int 7]) = H0 at s0 f0 ⊢
    refine for_tup (xs := [.int 0, .int 7]) (fun i σ Hc => (∃ a b c d e f g h, σ = [some (.ref S), a, b, c, d, e, f, g, h]) ∧ Same H0 Hc) ⟨⟨_, _, _, _, _, _, _, _, rfl⟩, Same.refl _⟩ (fun i σ Hc _ h => SqT.of (h.2 _ _ f0)) ?_ ?_
    · rintro i v σ Hc hx ⟨⟨a1, a2, a3, a4, a5, a6, a7, a8, rfl⟩, sc⟩
      have hv : ∃ k : Int, v = .int k ∧ 0 ≤ k ∧ k ≤ 50 := by
        have := List.mem_of_getElem? hx
        simp only [List.mem_cons, List.not_mem_nil, or_false] at this
        rcases this with z | z <;> exact ⟨_, z, by decide, by decide⟩
      obtain ⟨k, rfl, k0, k1⟩ := hv
      have sH : Same H Hc := s0.trans sc
      refine ⟨_, rfl, _, rfl, S, k, rfl, hS.same sH, k0, by omega, fun H1 L fs B1 sub okf => ?_⟩
      have okb := book_of_sub sub okf
      have few : fs.length ≤ 20 := okb.few
      have hT1 := hT.same (sH.trans B1.same)
      have hb1 := B1.here
      have sc1 : Same Hc H1 := B1.same
      have nd1 : ((fs.map entSB).map (·.1)).Nodup := by rw [List.map_map]; exact okb.once
      have up1 : sortedS ((fs.map entSB).map (·.1)) = true := by rw [List.map_map]; exact okb.up
      -- the texts
      refine ⟨_, rfl, L, fs, rfl, hb1, okb, hT1.1, hT1.2.1, hT1.2.2.1, fun H2 s2 => ?_⟩
      have tx0 := bookT_text okb.each few
      generalize bookT fs = x0 at tx0 ⊢
      have hS2 := hS.same (sH.trans (sc1.trans s2))
      refine ⟨_, rfl, _, rfl, _, rfl, L, S, k, fs, rfl, hb1.same s2, okb.each, few, hS2, k0, by omega, fun H3 x1 s3 tx1 => ?_⟩
      obtain ⟨us3, hl3, hP3⟩ := (hb1.same s2).same s3
      refine ⟨_, rfl, L, us3, rfl, SqL.of hl3, _, rfl, rfl, rfl, fun pr hpr => ?_⟩
      have y3 := same_upd (o := .lst us3.reverse) hpr
      have f3 := upd_same (H := H3) (a := pr) (o := .lst us3.reverse)
      generalize upd H3 pr (.lst us3.reverse) = H4 at y3 f3 ⊢
      have hbr : BookAt H4 pr fs.reverse := ⟨_, f3, paired_revC (L2.Paired.mapP hP3 fun _ _ z => z.same y3)⟩
      refine ⟨_, rfl, _, rfl, _, _, rfl, rfl, pr, S, _, fs.reverse, rfl, hbr, fun e he => okb.each e (List.mem_reverse.mp he), by rw [List.length_reverse]; exact few, (hS2.same s3).same y3, by omega, by omega, fun H5 x2 s5 tx2 => ?_⟩
      have tx2 : TextOf x2 (fs.map entSB) := by
        obtain ⟨rows, os, h1, h2, h3, h4, h5, h6⟩ := tx2
        exact ⟨rows, os, h1, h2, h3, h4, h5, h6.trans (by rw [List.map_reverse]; exact List.reverse_perm _)⟩
      refine ⟨by show 3 ≤ sizeLine; decide, fun pt hpt => ⟨pt, rfl, ⟨_, SqT.of upd_same⟩, ?_⟩⟩
      have y5 := same_upd (o := .tup [.str x0, .str x1, .str x2]) hpt
      have f5 := upd_same (H := H5) (a := pt) (o := .tup [.str x0, .str x1, .str x2])
      generalize upd H5 pt (.tup [.str x0, .str x1, .str x2]) = H6 at y5 f5 ⊢
      have s16 : Same H1 H6 := s2.trans (s3.trans (y3.trans (s5.trans y5)))
      have each : ∀ v ∈ [V.str x0, .str x1, .str x2], ∃ x, v = .str x ∧ TextOf x (fs.map entSB) := by
        intro v hv'
        simp only [List.mem_cons, List.not_mem_nil, or_false] at hv'
        rcases hv' with rfl | rfl | rfl
        · exact ⟨_, rfl, tx0⟩
        · exact ⟨_, rfl, tx1⟩
        · exact ⟨_, rfl, tx2⟩
      refine for_tup (xs := [.str x0, .str x1, .str x2]) (fun i σ Hd => (∃ c d e f g h, σ = [some (.ref S), some (.int k), some (.ref L), c, d, e, f, g, h]) ∧ Same H6 Hd) ⟨⟨_, _, _, _, _, _, rfl⟩, Same.refl _⟩ (fun i σ Hd _ h => SqT.of (h.2 _ _ f5)) ?_ ?_
      · rintro i v σ Hd hx ⟨⟨c3, c4, c5, c6, c7, c8, rfl⟩, sd⟩
        obtain ⟨x, rfl, tx⟩ := each v (List.mem_of_getElem? hx)
        obtain ⟨rows, os, ex, ne, hP, lr, lx, pm⟩ := tx
        refine ⟨_, rfl, by decide, by decide, ?_⟩
        refine for_range (fun i σ He => (∃ d e f g h, σ = [some (.ref S), some (.int k), some (.ref L), some (.str x), d, e, f, g, h]) ∧ Same H6 He) ⟨⟨_, _, _, _, _, rfl⟩, sd⟩ ?_ ?_
        · rintro j σ He hj ⟨⟨d4, d5, d6, d7, d8, rfl⟩, se⟩
          have s1e := s16.trans se
          have hTe := hT1.same s1e
          refine ⟨_, rfl, rows, os, fs.map entSB, congrArg (fun z => [V.str z]) ex, ne, hP, lr, by rw [← ex]; exact lx, pm, nd1, up1, by rw [List.length_map]; omega, hTe.1, hTe.2.2.2, fun H7 D gs s7 nD hbD eg ndg newg => ?_⟩
          have hb7 := hb1.same (s1e.trans s7)
          have eD : bookD gs = bookD fs := by unfold bookD; rw [bookD_of eg]
          refine ⟨_, rfl, _, rfl, .ref D, .ref L, bookD fs, rfl, eD ▸ hbD.dt, hb7.dt, book_fit (n := 0) okb.each (by omega), fun H8 s8 => ⟨_, rfl, iteF ?_⟩⟩
          try dsimp only [tNext]
          have s18 := s1e.trans (s7.trans s8)
          have hb8 := hb1.same s18
          obtain ⟨vs, hl8, hP8⟩ := hbD.same s8
          have lenv := hP8.length
          have leng : gs.length = fs.length := by have := congrArg List.length eg; simpa using this
          have okg : ∀ e ∈ gs, EntOk e := fun e he => by
            have hm : entSB e ∈ fs.map entSB := by rw [← eg]; exact List.mem_map.mpr ⟨e, he, rfl⟩
            obtain ⟨e', he', h'⟩ := List.mem_map.mp hm
            have o := okb.each e' he'
            have h1 : e'.1 = e.1 := congrArg (fun z : Str × Body => z.1) h'
            have h2 : e'.2.2 = e.2.2 := congrArg (fun z : Str × Body => z.2) h'
            exact ⟨h1 ▸ o.1, h2 ▸ o.2⟩
          refine ⟨_, rfl, D, vs, rfl, SqL.of hl8, ?_⟩
          refine for_enumL (xs := vs) (fun i σ Hx => (∃ z f g h, σ = [some (.ref S), some (.int k), some (.ref L), some (.str x), z, some (.ref D), f, g, h]) ∧ Same He Hx ∧ Hx D = some (.lst vs) ∧ Paired (EntAt Hx) (vs.drop i) (gs.drop i)) ⟨⟨_, _, _, _, rfl⟩, s7.trans s8, hl8, hP8⟩ (fun i σ Hx _ h => SqL.of h.2.2.1) ?_ ?_
          · rintro i v σ Hx Tn hv ⟨⟨g5, g6, g7, g8, rfl⟩, sx, hDx, hPx⟩ hTn
            have hi : i < vs.length := (List.getElem?_eq_some_iff.mp hv).1
            have hig : i < gs.length := by omega
            rw [List.drop_eq_getElem_cons hi, List.drop_eq_getElem_cons hig] at hPx
            obtain rfl : vs[i] = v := by rw [List.getElem?_eq_getElem hi] at hv; exact Option.some.inj hv
            have hPt : Paired (EntAt Hx) (vs.drop (i + 1)) (gs.drop (i + 1)) := by cases hPx with | cons r t => exact t
            obtain ⟨t, et, ht, ws, hw, hst⟩ : EntAt Hx vs[i] gs[i] := by cases hPx with | cons r t => exact r
            have hm : gs[i] ∈ gs := List.getElem_mem hig
            have okm := okg _ hm
            have newm := newg _ hm
            have notin : ∀ e ∈ gs.drop (i + 1), e.2.1 ≠ gs[i].2.1 := fun e he z => by
              have nd2 := ndg
              rw [← List.take_append_drop i gs, List.drop_eq_getElem_cons hig, List.map_append, List.map_cons, List.nodup_append] at nd2
              exact (List.nodup_cons.mp nd2.2.1).1 (List.mem_map.mpr ⟨e, he, z⟩)
            have sT := same_upd (o := .tup [.int (i : Nat), vs[i]]) hTn
            have eT := upd_same (H := Hx) (a := Tn) (o := .tup [.int (i : Nat), vs[i]])
            generalize upd Hx Tn (.tup [.int (i : Nat), vs[i]]) = Hy at sT eT ⊢
            rw [et] at eT
            generalize gs[i] = en at ht hw hst okm newm notin
            refine ⟨Tn, _, rfl, SqT.of eT, rfl, _, _, rfl, _, _, rfl, ⟨t, _, rfl, SqT.of (sT _ _ ht), rfl, _, _, rfl, _, _, rfl, rfl, ?_⟩⟩
            have hw1 := sT _ _ hw
            have lw := hst.length
            have l9 := okm.2.1
            refine ⟨rfl, _, rfl, .inl ⟨rfl, _, SqL.of hw1⟩, by show 1 ≤ sizeLine; decide, fun p hp => ?_⟩
            have sp := same_upd (o := .tup [.str "say"]) hp
            have fp := upd_same (H := Hy) (a := p) (o := .tup [.str "say"])
            generalize upd Hy p (.tup [.str "say"]) = Hz at sp fp ⊢
            have hw2 := sp _ _ hw1
            have xz := sT.trans sp
            have nDe : D ≠ en.2.1 := fun z => newm.2 z.symm
            refine ⟨en.2.1, ws, _, rfl, rfl, hw2, by rw [sizeLine_eq]; omega, ?_⟩
            have Ls : Lists [en.2.1] Hz := fun a ha => by rw [List.mem_singleton.mp ha]; exact ⟨_, hw2⟩
            have B := But.upd (H := Hz) (a := en.2.1) (o := .lst (ws ++ [.ref p]))
            have sE : Same He (upd Hz en.2.1 (.lst (ws ++ [.ref p]))) := same_new (sx.trans xz) newm.1
            have hDz : upd Hz en.2.1 (.lst (ws ++ [.ref p])) D = some (.lst vs) := by rw [upd_ne nDe]; exact xz _ _ hDx
            have hPz : Paired (EntAt (upd Hz en.2.1 (.lst (ws ++ [.ref p])))) (vs.drop (i + 1)) (gs.drop (i + 1)) := paired_imp hPt fun v e he z => (z.same xz).but Ls B (fun y => notin e he (List.mem_singleton.mp y))
            generalize upd Hz en.2.1 (.lst (ws ++ [.ref p])) = Hu at sE hDz hPz ⊢
            obtain ⟨us9, hl9, hP9⟩ := hb1.same (s1e.trans sE)
            have lenu : us9.length = fs.length := hP9.length
            refine ⟨_, rfl, _, rfl, _, _, rfl, rfl, _, rfl, D, vs, rfl, SqL.of hDz, fun p1 hp1 => ?_⟩
            have ec : ∀ {xs : List V}, i + 1 ≤ xs.length → cutV xs (some ((i : Int) + 1)) none = xs.drop (i + 1) := fun {xs} h => by
              rw [show ((i : Int) + 1) = ((i + 1 : Nat) : Int) from by omega]
              exact cut_from xs h
            rw [ec hi]
            have z1 := same_upd (o := .lst (vs.drop (i + 1))) hp1
            have g1 := upd_same (H := Hu) (a := p1) (o := .lst (vs.drop (i + 1)))
            generalize upd Hu p1 (.lst (vs.drop (i + 1))) = Hv at z1 g1 ⊢
            refine ⟨_, rfl, _, rfl, _, _, rfl, rfl, _, rfl, L, us9, rfl, SqL.of (z1 _ _ hl9), fun p2 hp2 => ?_⟩
            rw [ec (by omega)]
            have z2 := same_upd (o := .lst (us9.drop (i + 1))) hp2
            have g2 := upd_same (H := Hv) (a := p2) (o := .lst (us9.drop (i + 1)))
            generalize upd Hv p2 (.lst (us9.drop (i + 1))) = Hw at z2 g2 ⊢
            have z12 := z1.trans z2
            have bA : BookAt Hw p1 (gs.drop (i + 1)) := ⟨_, z2 _ _ g1, L2.Paired.mapP hPz fun _ _ z => z.same z12⟩
            have bB : BookAt Hw p2 (fs.drop (i + 1)) := ⟨_, g2, L2.Paired.mapP (paired_drop _ hP9) fun _ _ z => z.same z12⟩
            have fl := book_flat (es := fs.drop (i + 1)) fun e he => okb.each e (List.mem_of_mem_drop he)
            have eD2 : bookD (gs.drop (i + 1)) = bookD (fs.drop (i + 1)) := congrArg PyData.list (bookD_of (fs := gs.drop (i + 1)) (gs := fs.drop (i + 1)) (by simp only [List.map_drop, eg]))
            refine ⟨bookD (fs.drop (i + 1)), bookD (fs.drop (i + 1)), eD2 ▸ bA.dp, bB.dp, fl.shaped, fl.shaped, _, rfl, ?_⟩
            rw [fl.refl]
            refine iteF ⟨⟨_, _, _, _, rfl⟩, sE.trans z12, z12 _ _ hDz, L2.Paired.mapP hPz fun _ _ z => z.same z12⟩
          · rintro σ Hx ⟨⟨g5, g6, g7, g8, rfl⟩, sx, hDx, hPx⟩
            refine ⟨_, rfl, .inl ⟨rfl, _, SqL.of hDx⟩, D, vs, _, rfl, rfl, hDx, by rw [sizeLine_eq]; omega, ⟨_, _, _, _, _, rfl⟩, ?_⟩
            exact se.trans (same_new sx nD)
        · rintro σ He ⟨⟨d4, d5, d6, d7, d8, rfl⟩, se⟩
          exact ⟨⟨_, _, _, _, _, _, rfl⟩, se⟩
      · rintro σ Hd ⟨⟨c3, c4, c5, c6, c7, c8, rfl⟩, sd⟩
        exact ⟨⟨_, _, _, _, _, _, _, _, rfl⟩, sc.trans (sc1.trans (s16.trans sd))⟩
    · rintro σ Hc ⟨⟨a1, a2, a3, a4, a5, a6, a7, a8, rfl⟩, sc⟩
      have hTc := hT.same (s0.trans sc)
      have S1 : ∀ {x : Str} {rows : List Str}, x = Txt.join "\n" rows → [V.str x] = [.str (Txt.join "\n" rows)] := fun {x rows} h => congrArg (fun z => [V.str z]) h
      have nilB : ∀ {gs : List Ent}, gs.map entSB = [] → gs = [] := fun {gs} h => List.map_eq_nil_iff.mp h
      have fl0 := book_flat (es := []) (fun e he => absurd he (by simp))
      refine ⟨[""], [none], [], S1 (by decide +kernel), by simp, .cons rowK_nil .nil, by decide, by decide +kernel, .refl _, List.nodup_nil, rfl, by decide, hTc.1, hTc.2.2.2, fun H1 D1 gs1 s1 _ hb1 eg1 _ _ => ?_⟩
      obtain rfl := nilB eg1
      refine ⟨by show 0 ≤ sizeLine; decide, fun q1 hq1 => ?_⟩
      have x1 := same_upd (o := .lst []) hq1
      have f1 := upd_same (H := H1) (a := q1) (o := .lst [])
      generalize upd H1 q1 (.lst []) = H2 at x1 f1 ⊢
      refine ⟨bookD [], bookD [], (hb1.same x1).dp, BookAt.dp (es := []) ⟨[], f1, .nil⟩, fl0.shaped, fl0.shaped, _, rfl, ?_⟩
      rw [fl0.refl]
      have hT2 := hTc.same (s1.trans x1)
      have k1 : RowK " -- a" none := rowK_none _ (by decide +kernel) (by decide +kernel) (by decide +kernel)
      refine iteF ⟨["", " -- a", ""], [none, none, none], [], S1 (by decide +kernel), by simp, .cons rowK_nil (.cons k1 (.cons rowK_nil .nil)), by decide, by decide +kernel, .refl _, List.nodup_nil, rfl, by decide, hT2.1, hT2.2.2.2, fun H3 D3 gs3 s3 _ hb3 eg3 _ _ => ?_⟩
      obtain rfl := nilB eg3
      refine ⟨by show 0 ≤ sizeLine; decide, fun q3 hq3 => ?_⟩
      have x3 := same_upd (o := .lst []) hq3
      have f3 := upd_same (H := H3) (a := q3) (o := .lst [])
      generalize upd H3 q3 (.lst []) = H4 at x3 f3 ⊢
      refine ⟨bookD [], bookD [], (hb3.same x3).dp, BookAt.dp (es := []) ⟨[], f3, .nil⟩, fl0.shaped, fl0.shaped, _, rfl, ?_⟩
      rw [fl0.refl]
      have hT4 := hT2.same (s3.trans x3)
      refine iteF ?_
      try dsimp only [tNext]
      have aok : WordOk "a" := ⟨by decide +kernel, by decide +kernel, by decide +kernel⟩
      have bok : WordOk "b" := ⟨by decide +kernel, by decide +kernel, by decide +kernel⟩
      have okB : BodyOk [.say, .odd "a"] := ⟨by show 2 ≤ 9; decide, fun s hs => by
        rcases List.mem_cons.mp hs with rfl | hs
        · trivial
        · rw [List.mem_singleton.mp hs]; exact aok⟩
      have ok0 : BodyOk [] := ⟨Nat.zero_le _, fun s hs => absurd hs (by simp)⟩
      have r1 := (show RowOf " b :say ;odd a" "b" [.say, .odd "a"] from ⟨1, 1, 0, 0, 1, 0, by decide, by decide, by decide, by decide, by decide, by decide, by decide +kernel⟩).rowK bok okB
      have r2 := (show RowOf "a:" "a" [] from ⟨0, 0, 0, 0, 0, 0, by decide, by decide, by decide, by decide, by decide, by decide, by decide +kernel⟩).rowK aok ok0
      refine ⟨[" b :say ;odd a", "a:"], [some ("b", [.say, .odd "a"]), some ("a", [])], [("a", []), ("b", [.say, .odd "a"])], S1 (by decide +kernel), by simp, .cons r1.1 (.cons r2.1 .nil), by decide, by decide +kernel, .swap _ _ _, by decide +kernel, by decide +kernel, by decide, hT4.1, hT4.2.2.2, fun H5 D5 gs5 s5 _ hb5 eg5 _ _ => ?_⟩
      refine ⟨by show 0 ≤ sizeLine; decide, fun r0 hr0 => ⟨by show 2 ≤ sizeLine; decide, fun u1 hu1 => ⟨by show 1 ≤ sizeLine; decide, fun t1 ht1 => ⟨by show 2 ≤ sizeLine; decide, fun t2 ht2 => ⟨by show 2 ≤ sizeLine; decide, fun l2 hl2 => ⟨by show 2 ≤ sizeLine; decide, fun u2 hu2 => ⟨by show 2 ≤ sizeLine; decide, fun M hM => ?_⟩⟩⟩⟩⟩⟩⟩
      have y1 := same_upd (o := .lst []) hr0
      have y2 := same_upd (o := .tup [.str "a", .ref r0]) hu1
      have y3 := same_upd (o := .tup [.str "say"]) ht1
      have y4 := same_upd (o := .tup [.str "odd", .str "a"]) ht2
      have y5 := same_upd (o := .lst [.ref t1, .ref t2]) hl2
      have y6 := same_upd (o := .tup [.str "b", .ref l2]) hu2
      have y7 := same_upd (o := .lst [.ref u1, .ref u2]) hM
      have y67 := y6.trans y7
      have y57 := y5.trans y67
      have y47 := y4.trans y57
      have y37 := y3.trans y47
      have y27 := y2.trans y37
      have y17 := y1.trans y27
      have hbM : BookAt _ M [("a", r0, []), ("b", l2, [.say, .odd "a"])] := ⟨_, upd_same, .cons ⟨u1, rfl, y37 _ _ upd_same, [], y27 _ _ upd_same, .nil⟩ (.cons ⟨u2, rfl, y7 _ _ upd_same, _, y67 _ _ upd_same, .cons ⟨t1, rfl, y47 _ _ upd_same⟩ (.cons ⟨t2, rfl, y57 _ _ upd_same⟩ .nil)⟩ .nil)⟩
      have flM := book_flat (es := [("a", r0, []), ("b", l2, [.say, .odd "a"])]) (fun e he => by
        rcases List.mem_cons.mp he with rfl | he
        · exact ⟨aok, ok0⟩
        · rw [List.mem_singleton.mp he]; exact ⟨bok, okB⟩)
      have eM : bookD gs5 = bookD [("a", r0, []), ("b", l2, [.say, .odd "a"])] := congrArg PyData.list (bookD_of (fs := gs5) (gs := [("a", r0, []), ("b", l2, [.say, .odd "a"])]) (by rw [eg5]; rfl))
      refine ⟨bookD [("a", r0, []), ("b", l2, [.say, .odd "a"])], bookD [("a", r0, []), ("b", l2, [.say, .odd "a"])], eM ▸ (hb5.same y17).dp, hbM.dp, flM.shaped, flM.shaped, _, rfl, ?_⟩
      rw [flM.refl]
      refine iteF ?_
      try dsimp only [tNext]
      have hT6 := hT4.same (s5.trans y17)
      have okC : BodyOk [.times 0, .turn (-9), .turn 99] := ⟨by show 3 ≤ 9; decide, fun s hs => by
        simp only [List.mem_cons, List.not_mem_nil, or_false] at hs
        rcases hs with rfl | rfl | rfl <;> exact ⟨by decide, by decide⟩⟩
      have r3 := (show RowOf "a: times 0; turn -9; turn 99" "a" [.times 0, .turn (-9), .turn 99] from ⟨0, 0, 1, 0, 0, 1, by decide, by decide, by decide, by decide, by decide, by decide, by decide +kernel⟩).rowK aok okC
      refine ⟨["a: times 0; turn -9; turn 99"], [some ("a", [.times 0, .turn (-9), .turn 99])], [("a", [.times 0, .turn (-9), .turn 99])], S1 (by decide +kernel), by simp, .cons r3.1 .nil, by decide, by decide +kernel, .refl _, by decide +kernel, by decide +kernel, by decide, hT6.1, hT6.2.2.2, fun H7 D7 gs7 s7 _ hb7 eg7 _ _ => ?_⟩
      refine ⟨by show 2 ≤ sizeLine; decide, fun a1' ha1 => ⟨_, rfl, by show 2 ≤ sizeLine; decide, fun a2' ha2 => ⟨by show 2 ≤ sizeLine; decide, fun a3' ha3 => ⟨by show 3 ≤ sizeLine; decide, fun b1 hb1' => ⟨by show 2 ≤ sizeLine; decide, fun b2 hb2 => ⟨by show 1 ≤ sizeLine; decide, fun N hN => ?_⟩⟩⟩⟩⟩⟩
      have z1 := same_upd (o := .tup [.str "times", .int 0]) ha1
      have z2 := same_upd (o := .tup [.str "turn", .int (-9)]) ha2
      have z3 := same_upd (o := .tup [.str "turn", .int 99]) ha3
      have z4 := same_upd (o := .lst [.ref a1', .ref a2', .ref a3']) hb1'
      have z5 := same_upd (o := .tup [.str "a", .ref b1]) hb2
      have z6 := same_upd (o := .lst [.ref b2]) hN
      have z56 := z5.trans z6
      have z46 := z4.trans z56
      have z36 := z3.trans z46
      have z26 := z2.trans z36
      have z16 := z1.trans z26
      have hbN : BookAt _ N [("a", b1, [.times 0, .turn (-9), .turn 99])] := ⟨_, upd_same, .cons ⟨b2, rfl, z6 _ _ upd_same, _, z56 _ _ upd_same, .cons ⟨a1', rfl, z26 _ _ upd_same⟩ (.cons ⟨a2', rfl, z36 _ _ upd_same⟩ (.cons ⟨a3', rfl, z46 _ _ upd_same⟩ .nil))⟩ .nil⟩
      have flN := book_flat (es := [("a", b1, [.times 0, .turn (-9), .turn 99])]) (fun e he => by rw [List.mem_singleton.mp he]; exact ⟨aok, okC⟩)
      have eN : bookD gs7 = bookD [("a", b1, [.times 0, .turn (-9), .turn 99])] := congrArg PyData.list (bookD_of (fs := gs7) (gs := [("a", b1, [.times 0, .turn (-9), .turn 99])]) (by rw [eg7]; rfl))
      refine ⟨bookD [("a", b1, [.times 0, .turn (-9), .turn 99])], bookD [("a", b1, [.times 0, .turn (-9), .turn 99])], eN ▸ (hb7.same z16).dp, hbN.dp, flN.shaped, flN.shaped, ?_⟩
      rw [flN.refl]
      exact q _ (hT6.same (s7.trans z16))
end
end MG

set_option Elab.async false
set_option linter.all false
set_option maxRecDepth 100000
set_option maxHeartbeats 1000000
namespace MG
open PySem PySem.Spec PyProof.Rows L2

theorem FunG.fn {K : PySem.W.Frag} {x qual : Str} {st : Stmt} {f c Pt : Addr} {fd : FuncData} (F : FunG K x qual st f fd c Pt) (kp : PySem.W.keepIn K (.ref f) = true) : Fun K x qual st f fd :=
  let ⟨oc, od, kV, doc, pm, an, ct, osl, e1, e2, e3⟩ := F.ex
  ⟨⟨oc, od, kV, doc, pm, an, .ref c, ct, osl, e1, e2, e3⟩, kp⟩
theorem tup_in {K : PySem.W.Frag} {a : Addr} {od : Option Addr} {its : Array Value} {n : Nat} {sl : Array (Option Value)} {xs : List V} (h : K.lookup a = some ⟨.type "tuple", od, .seq its n, sl⟩) (hz : its.size ≤ sizeLine) (hv : Vals xs its.toList) (H : Hp) : SqT K H a xs := .inr ⟨_, its, n, h, rfl, rfl, hz, hv⟩
theorem all_mk {l : PySem.W.OpenLaw} {w : World} {K : PySem.W.Frag} {h : Heap} {mg : Str → Option Value} {fa : Addr} {T : TB} {Ps : Addr} {Pr : Addr} {Pn : Addr} 
    {f0 : Addr} {od0 an0 : Option Addr} {sl0 : Array (Option Value)} {oc0 kV0 dc0 pm0 cd0 ct0 : Value}
    {f1 k1 : Addr} {od1 an1 : Option Addr} {sl1 : Array (Option Value)} {oc1 kV1 dc1 pm1 ct1 : Value}
    {f2 : Addr} {od2 an2 : Option Addr} {sl2 : Array (Option Value)} {oc2 kV2 dc2 pm2 cd2 ct2 : Value}
    {f3 k3 : Addr} {od3 an3 : Option Addr} {sl3 : Array (Option Value)} {oc3 kV3 dc3 pm3 ct3 : Value}
    {f4 : Addr} {od4 an4 : Option Addr} {sl4 : Array (Option Value)} {oc4 kV4 dc4 pm4 cd4 ct4 : Value}
    {f5 : Addr} {od5 an5 : Option Addr} {sl5 : Array (Option Value)} {oc5 kV5 dc5 pm5 cd5 ct5 : Value}
    {f6 : Addr} {od6 an6 : Option Addr} {sl6 : Array (Option Value)} {oc6 kV6 dc6 pm6 cd6 ct6 : Value}
    {f7 k7 : Addr} {od7 an7 : Option Addr} {sl7 : Array (Option Value)} {oc7 kV7 dc7 pm7 ct7 : Value}
    {f8 : Addr} {od8 an8 : Option Addr} {sl8 : Array (Option Value)} {oc8 kV8 dc8 pm8 cd8 ct8 : Value}
    {f9 : Addr} {od9 an9 : Option Addr} {sl9 : Array (Option Value)} {oc9 kV9 dc9 pm9 cd9 ct9 : Value}
    {f10 : Addr} {od10 an10 : Option Addr} {sl10 : Array (Option Value)} {oc10 kV10 dc10 pm10 cd10 ct10 : Value}
    {f11 : Addr} {od11 an11 : Option Addr} {sl11 : Array (Option Value)} {oc11 kV11 dc11 pm11 cd11 ct11 : Value}
    {f12 : Addr} {od12 an12 : Option Addr} {sl12 : Array (Option Value)} {oc12 kV12 dc12 pm12 cd12 ct12 : Value}
    {f13 : Addr} {od13 an13 : Option Addr} {sl13 : Array (Option Value)} {oc13 kV13 dc13 pm13 cd13 ct13 : Value}
    {f14 : Addr} {od14 an14 : Option Addr} {sl14 : Array (Option Value)} {oc14 kV14 dc14 pm14 cd14 ct14 : Value}
    {f15 : Addr} {od15 an15 : Option Addr} {sl15 : Array (Option Value)} {oc15 kV15 dc15 pm15 cd15 ct15 : Value}
    {f16 : Addr} {od16 an16 : Option Addr} {sl16 : Array (Option Value)} {oc16 kV16 dc16 pm16 cd16 ct16 : Value}
    {f17 k17 : Addr} {od17 an17 : Option Addr} {sl17 : Array (Option Value)} {oc17 kV17 dc17 pm17 ct17 : Value}
    {f18 k18 : Addr} {od18 an18 : Option Addr} {sl18 : Array (Option Value)} {oc18 kV18 dc18 pm18 ct18 : Value}
    {f19 k19 : Addr} {od19 an19 : Option Addr} {sl19 : Array (Option Value)} {oc19 kV19 dc19 pm19 ct19 : Value}
    {f20 k20 : Addr} {od20 an20 : Option Addr} {sl20 : Array (Option Value)} {oc20 kV20 dc20 pm20 ct20 : Value}
    {f21 : Addr} {od21 an21 : Option Addr} {sl21 : Array (Option Value)} {oc21 kV21 dc21 pm21 cd21 ct21 : Value}
    {f22 : Addr} {od22 an22 : Option Addr} {sl22 : Array (Option Value)} {oc22 kV22 dc22 pm22 cd22 ct22 : Value}
    {f23 : Addr} {od23 an23 : Option Addr} {sl23 : Array (Option Value)} {oc23 kV23 dc23 pm23 cd23 ct23 : Value}
    {f24 : Addr} {od24 an24 : Option Addr} {sl24 : Array (Option Value)} {oc24 kV24 dc24 pm24 cd24 ct24 : Value}
    {f25 : Addr} {od25 an25 : Option Addr} {sl25 : Array (Option Value)} {oc25 kV25 dc25 pm25 cd25 ct25 : Value}
    {f26 : Addr} {od26 an26 : Option Addr} {sl26 : Array (Option Value)} {oc26 kV26 dc26 pm26 cd26 ct26 : Value}
    {f27 : Addr} {od27 an27 : Option Addr} {sl27 : Array (Option Value)} {oc27 kV27 dc27 pm27 cd27 ct27 : Value}
    {f28 : Addr} {od28 an28 : Option Addr} {sl28 : Array (Option Value)} {oc28 kV28 dc28 pm28 cd28 ct28 : Value}
    {f29 : Addr} {od29 an29 : Option Addr} {sl29 : Array (Option Value)} {oc29 kV29 dc29 pm29 cd29 ct29 : Value}
    {t_LONGEST_WORD : Tok}
    {t_MOST_STEPS : Tok}
    {t_LARGEST_PART : Tok}
    {t_MOST_FIGURES : Tok}
    {a_BARE_STEPS : Addr} {od_BARE_STEPS : Option Addr} {nn_BARE_STEPS : Nat} {sl_BARE_STEPS : Array (Option Value)} {u_BARE_STEPS_0 u_BARE_STEPS_1 u_BARE_STEPS_2 : Tok}
    {a_NUMBER_STEPS : Addr} {od_NUMBER_STEPS : Option Addr} {nn_NUMBER_STEPS : Nat} {sl_NUMBER_STEPS : Array (Option Value)} {u_NUMBER_STEPS_0 u_NUMBER_STEPS_1 u_NUMBER_STEPS_2 : Tok}
    {a_WORD_STEPS : Addr} {od_WORD_STEPS : Option Addr} {nn_WORD_STEPS : Nat} {sl_WORD_STEPS : Array (Option Value)} {u_WORD_STEPS_0 u_WORD_STEPS_1 : Tok}
    (X : K.In h) (G : h.Ns mainGlobals mg) (hfa : mg "law" = some (.ref fa))
    (a0 : PySem.W.nsIn K mainGlobals "is_number" = some (some (.ref f0)))
    (l0 : K.lookup f0 = some ⟨oc0, od0, .func (PySem.W.fnOf "is_number" "is_number" (defArgs s_is_number) (defBody s_is_number) (defScope s_is_number) .none kV0 dc0 pm0 an0 cd0 ct0), sl0⟩) (c0 : PySem.W.codeIn K cd0 "is_number" = true) (k_0 : PySem.W.keepIn K (.ref f0) = true)
    (a1 : PySem.W.nsIn K mainGlobals "is_word" = some (some (.ref f1)))
    (l1 : K.lookup f1 = some ⟨oc1, od1, .func (PySem.W.fnOf "is_word" "is_word" (defArgs s_is_word) (defBody s_is_word) (defScope s_is_word) .none kV1 dc1 pm1 an1 (.ref k1) ct1), sl1⟩) (c1 : PySem.W.codeIn K (.ref k1) "is_word" = true) (k_1 : PySem.W.keepIn K (.ref f1) = true)
    (h1 : PySem.W.codeHdIn K k1 T.w = true)
    (a2 : PySem.W.nsIn K mainGlobals "is_step" = some (some (.ref f2)))
    (l2 : K.lookup f2 = some ⟨oc2, od2, .func (PySem.W.fnOf "is_step" "is_step" (defArgs s_is_step) (defBody s_is_step) (defScope s_is_step) .none kV2 dc2 pm2 an2 cd2 ct2), sl2⟩) (c2 : PySem.W.codeIn K cd2 "is_step" = true) (k_2 : PySem.W.keepIn K (.ref f2) = true)
    (a3 : PySem.W.nsIn K mainGlobals "is_steps" = some (some (.ref f3)))
    (l3 : K.lookup f3 = some ⟨oc3, od3, .func (PySem.W.fnOf "is_steps" "is_steps" (defArgs s_is_steps) (defBody s_is_steps) (defScope s_is_steps) .none kV3 dc3 pm3 an3 (.ref k3) ct3), sl3⟩) (c3 : PySem.W.codeIn K (.ref k3) "is_steps" = true) (k_3 : PySem.W.keepIn K (.ref f3) = true)
    (h3 : PySem.W.codeHdIn K k3 T.b = true)
    (a4 : PySem.W.nsIn K mainGlobals "is_body" = some (some (.ref f4)))
    (l4 : K.lookup f4 = some ⟨oc4, od4, .func (PySem.W.fnOf "is_body" "is_body" (defArgs s_is_body) (defBody s_is_body) (defScope s_is_body) .none kV4 dc4 pm4 an4 cd4 ct4), sl4⟩) (c4 : PySem.W.codeIn K cd4 "is_body" = true) (k_4 : PySem.W.keepIn K (.ref f4) = true)
    (a5 : PySem.W.nsIn K mainGlobals "has_word" = some (some (.ref f5)))
    (l5 : K.lookup f5 = some ⟨oc5, od5, .func (PySem.W.fnOf "has_word" "has_word" (defArgs s_has_word) (defBody s_has_word) (defScope s_has_word) .none kV5 dc5 pm5 an5 cd5 ct5), sl5⟩) (c5 : PySem.W.codeIn K cd5 "has_word" = true) (k_5 : PySem.W.keepIn K (.ref f5) = true)
    (a6 : PySem.W.nsIn K mainGlobals "has_body" = some (some (.ref f6)))
    (l6 : K.lookup f6 = some ⟨oc6, od6, .func (PySem.W.fnOf "has_body" "has_body" (defArgs s_has_body) (defBody s_has_body) (defScope s_has_body) .none kV6 dc6 pm6 an6 cd6 ct6), sl6⟩) (c6 : PySem.W.codeIn K cd6 "has_body" = true) (k_6 : PySem.W.keepIn K (.ref f6) = true)
    (a7 : PySem.W.nsIn K mainGlobals "is_book" = some (some (.ref f7)))
    (l7 : K.lookup f7 = some ⟨oc7, od7, .func (PySem.W.fnOf "is_book" "is_book" (defArgs s_is_book) (defBody s_is_book) (defScope s_is_book) .none kV7 dc7 pm7 an7 (.ref k7) ct7), sl7⟩) (c7 : PySem.W.codeIn K (.ref k7) "is_book" = true) (k_7 : PySem.W.keepIn K (.ref f7) = true)
    (h7 : PySem.W.codeHdIn K k7 T.k = true)
    (a8 : PySem.W.nsIn K mainGlobals "need_book" = some (some (.ref f8)))
    (l8 : K.lookup f8 = some ⟨oc8, od8, .func (PySem.W.fnOf "need_book" "need_book" (defArgs s_need_book) (defBody s_need_book) (defScope s_need_book) .none kV8 dc8 pm8 an8 cd8 ct8), sl8⟩) (c8 : PySem.W.codeIn K cd8 "need_book" = true) (k_8 : PySem.W.keepIn K (.ref f8) = true)
    (a9 : PySem.W.nsIn K mainGlobals "_law_cell_at" = some (some (.ref f9)))
    (l9 : K.lookup f9 = some ⟨oc9, od9, .func (PySem.W.fnOf "_law_cell_at" "_law_cell_at" (defArgs s_law_cell_at) (defBody s_law_cell_at) (defScope s_law_cell_at) .none kV9 dc9 pm9 an9 cd9 ct9), sl9⟩) (c9 : PySem.W.codeIn K cd9 "_law_cell_at" = true) (k_9 : PySem.W.keepIn K (.ref f9) = true)
    (a10 : PySem.W.nsIn K mainGlobals "_law_draw" = some (some (.ref f10)))
    (l10 : K.lookup f10 = some ⟨oc10, od10, .func (PySem.W.fnOf "_law_draw" "_law_draw" (defArgs s_law_draw) (defBody s_law_draw) (defScope s_law_draw) .none kV10 dc10 pm10 an10 cd10 ct10), sl10⟩) (c10 : PySem.W.codeIn K cd10 "_law_draw" = true) (k_10 : PySem.W.keepIn K (.ref f10) = true)
    (a11 : PySem.W.nsIn K mainGlobals "_law_number" = some (some (.ref f11)))
    (l11 : K.lookup f11 = some ⟨oc11, od11, .func (PySem.W.fnOf "_law_number" "_law_number" (defArgs s_law_number) (defBody s_law_number) (defScope s_law_number) .none kV11 dc11 pm11 an11 cd11 ct11), sl11⟩) (c11 : PySem.W.codeIn K cd11 "_law_number" = true) (k_11 : PySem.W.keepIn K (.ref f11) = true)
    (a12 : PySem.W.nsIn K mainGlobals "_law_names" = some (some (.ref f12)))
    (l12 : K.lookup f12 = some ⟨oc12, od12, .func (PySem.W.fnOf "_law_names" "_law_names" (defArgs s_law_names) (defBody s_law_names) (defScope s_law_names) .none kV12 dc12 pm12 an12 cd12 ct12), sl12⟩) (c12 : PySem.W.codeIn K cd12 "_law_names" = true) (k_12 : PySem.W.keepIn K (.ref f12) = true)
    (a13 : PySem.W.nsIn K mainGlobals "_law_step" = some (some (.ref f13)))
    (l13 : K.lookup f13 = some ⟨oc13, od13, .func (PySem.W.fnOf "_law_step" "_law_step" (defArgs s_law_step) (defBody s_law_step) (defScope s_law_step) .none kV13 dc13 pm13 an13 cd13 ct13), sl13⟩) (c13 : PySem.W.codeIn K cd13 "_law_step" = true) (k_13 : PySem.W.keepIn K (.ref f13) = true)
    (a14 : PySem.W.nsIn K mainGlobals "_law_body" = some (some (.ref f14)))
    (l14 : K.lookup f14 = some ⟨oc14, od14, .func (PySem.W.fnOf "_law_body" "_law_body" (defArgs s_law_body) (defBody s_law_body) (defScope s_law_body) .none kV14 dc14 pm14 an14 cd14 ct14), sl14⟩) (c14 : PySem.W.codeIn K cd14 "_law_body" = true) (k_14 : PySem.W.keepIn K (.ref f14) = true)
    (a15 : PySem.W.nsIn K mainGlobals "_law_book" = some (some (.ref f15)))
    (l15 : K.lookup f15 = some ⟨oc15, od15, .func (PySem.W.fnOf "_law_book" "_law_book" (defArgs s_law_book) (defBody s_law_book) (defScope s_law_book) .none kV15 dc15 pm15 an15 cd15 ct15), sl15⟩) (c15 : PySem.W.codeIn K cd15 "_law_book" = true) (k_15 : PySem.W.keepIn K (.ref f15) = true)
    (a16 : PySem.W.nsIn K mainGlobals "_law_alike" = some (some (.ref f16)))
    (l16 : K.lookup f16 = some ⟨oc16, od16, .func (PySem.W.fnOf "_law_alike" "_law_alike" (defArgs s_law_alike) (defBody s_law_alike) (defScope s_law_alike) .none kV16 dc16 pm16 an16 cd16 ct16), sl16⟩) (c16 : PySem.W.codeIn K cd16 "_law_alike" = true) (k_16 : PySem.W.keepIn K (.ref f16) = true)
    (a17 : PySem.W.nsIn K mainGlobals "written_step" = some (some (.ref f17)))
    (l17 : K.lookup f17 = some ⟨oc17, od17, .func (PySem.W.fnOf "written_step" "written_step" (defArgs s_written_step) (defBody s_written_step) (defScope s_written_step) .none kV17 dc17 pm17 an17 (.ref k17) ct17), sl17⟩) (c17 : PySem.W.codeIn K (.ref k17) "written_step" = true) (k_17 : PySem.W.keepIn K (.ref f17) = true)
    (h17 : PySem.W.codeHdIn K k17 Ps = true)
    (a18 : PySem.W.nsIn K mainGlobals "written_row" = some (some (.ref f18)))
    (l18 : K.lookup f18 = some ⟨oc18, od18, .func (PySem.W.fnOf "written_row" "written_row" (defArgs s_written_row) (defBody s_written_row) (defScope s_written_row) .none kV18 dc18 pm18 an18 (.ref k18) ct18), sl18⟩) (c18 : PySem.W.codeIn K (.ref k18) "written_row" = true) (k_18 : PySem.W.keepIn K (.ref f18) = true)
    (h18 : PySem.W.codeHdIn K k18 Pr = true)
    (a19 : PySem.W.nsIn K mainGlobals "written" = some (some (.ref f19)))
    (l19 : K.lookup f19 = some ⟨oc19, od19, .func (PySem.W.fnOf "written" "written" (defArgs s_written) (defBody s_written) (defScope s_written) .none kV19 dc19 pm19 an19 (.ref k19) ct19), sl19⟩) (c19 : PySem.W.codeIn K (.ref k19) "written" = true) (k_19 : PySem.W.keepIn K (.ref f19) = true)
    (h19 : PySem.W.codeHdIn K k19 T.c = true)
    (a20 : PySem.W.nsIn K mainGlobals "read_number" = some (some (.ref f20)))
    (l20 : K.lookup f20 = some ⟨oc20, od20, .func (PySem.W.fnOf "read_number" "read_number" (defArgs s_read_number) (defBody s_read_number) (defScope s_read_number) .none kV20 dc20 pm20 an20 (.ref k20) ct20), sl20⟩) (c20 : PySem.W.codeIn K (.ref k20) "read_number" = true) (k_20 : PySem.W.keepIn K (.ref f20) = true)
    (h20 : PySem.W.codeHdIn K k20 Pn = true)
    (a21 : PySem.W.nsIn K mainGlobals "read_step" = some (some (.ref f21)))
    (l21 : K.lookup f21 = some ⟨oc21, od21, .func (PySem.W.fnOf "read_step" "read_step" (defArgs s_read_step) (defBody s_read_step) (defScope s_read_step) .none kV21 dc21 pm21 an21 cd21 ct21), sl21⟩) (c21 : PySem.W.codeIn K cd21 "read_step" = true) (k_21 : PySem.W.keepIn K (.ref f21) = true)
    (a22 : PySem.W.nsIn K mainGlobals "read_body" = some (some (.ref f22)))
    (l22 : K.lookup f22 = some ⟨oc22, od22, .func (PySem.W.fnOf "read_body" "read_body" (defArgs s_read_body) (defBody s_read_body) (defScope s_read_body) .none kV22 dc22 pm22 an22 cd22 ct22), sl22⟩) (c22 : PySem.W.codeIn K cd22 "read_body" = true) (k_22 : PySem.W.keepIn K (.ref f22) = true)
    (a23 : PySem.W.nsIn K mainGlobals "tells_nothing" = some (some (.ref f23)))
    (l23 : K.lookup f23 = some ⟨oc23, od23, .func (PySem.W.fnOf "tells_nothing" "tells_nothing" (defArgs s_tells_nothing) (defBody s_tells_nothing) (defScope s_tells_nothing) .none kV23 dc23 pm23 an23 cd23 ct23), sl23⟩) (c23 : PySem.W.codeIn K cd23 "tells_nothing" = true) (k_23 : PySem.W.keepIn K (.ref f23) = true)
    (a24 : PySem.W.nsIn K mainGlobals "read_row" = some (some (.ref f24)))
    (l24 : K.lookup f24 = some ⟨oc24, od24, .func (PySem.W.fnOf "read_row" "read_row" (defArgs s_read_row) (defBody s_read_row) (defScope s_read_row) .none kV24 dc24 pm24 an24 cd24 ct24), sl24⟩) (c24 : PySem.W.codeIn K cd24 "read_row" = true) (k_24 : PySem.W.keepIn K (.ref f24) = true)
    (a25 : PySem.W.nsIn K mainGlobals "read" = some (some (.ref f25)))
    (l25 : K.lookup f25 = some ⟨oc25, od25, .func (PySem.W.fnOf "read" "read" (defArgs s_read) (defBody s_read) (defScope s_read) .none kV25 dc25 pm25 an25 cd25 ct25), sl25⟩) (c25 : PySem.W.codeIn K cd25 "read" = true) (k_25 : PySem.W.keepIn K (.ref f25) = true)
    (a26 : PySem.W.nsIn K mainGlobals "_law_step_text" = some (some (.ref f26)))
    (l26 : K.lookup f26 = some ⟨oc26, od26, .func (PySem.W.fnOf "_law_step_text" "_law_step_text" (defArgs s_law_step_text) (defBody s_law_step_text) (defScope s_law_step_text) .none kV26 dc26 pm26 an26 cd26 ct26), sl26⟩) (c26 : PySem.W.codeIn K cd26 "_law_step_text" = true) (k_26 : PySem.W.keepIn K (.ref f26) = true)
    (a27 : PySem.W.nsIn K mainGlobals "_law_row" = some (some (.ref f27)))
    (l27 : K.lookup f27 = some ⟨oc27, od27, .func (PySem.W.fnOf "_law_row" "_law_row" (defArgs s_law_row) (defBody s_law_row) (defScope s_law_row) .none kV27 dc27 pm27 an27 cd27 ct27), sl27⟩) (c27 : PySem.W.codeIn K cd27 "_law_row" = true) (k_27 : PySem.W.keepIn K (.ref f27) = true)
    (a28 : PySem.W.nsIn K mainGlobals "_law_text" = some (some (.ref f28)))
    (l28 : K.lookup f28 = some ⟨oc28, od28, .func (PySem.W.fnOf "_law_text" "_law_text" (defArgs s_law_text) (defBody s_law_text) (defScope s_law_text) .none kV28 dc28 pm28 an28 cd28 ct28), sl28⟩) (c28 : PySem.W.codeIn K cd28 "_law_text" = true) (k_28 : PySem.W.keepIn K (.ref f28) = true)
    (a29 : PySem.W.nsIn K mainGlobals "law" = some (some (.ref f29)))
    (l29 : K.lookup f29 = some ⟨oc29, od29, .func (PySem.W.fnOf "law" "law" (defArgs s_law) (defBody s_law) (defScope s_law) .none kV29 dc29 pm29 an29 cd29 ct29), sl29⟩) (c29 : PySem.W.codeIn K cd29 "law" = true) (k_29 : PySem.W.keepIn K (.ref f29) = true)
    (z0 : PySem.W.nsIn K mainGlobals "isinstance" = some none)
    (z1 : PySem.W.nsIn K mainGlobals "int" = some none)
    (z2 : PySem.W.nsIn K mainGlobals "bool" = some none)
    (z3 : PySem.W.nsIn K mainGlobals "str" = some none)
    (z4 : PySem.W.nsIn K mainGlobals "tuple" = some none)
    (z5 : PySem.W.nsIn K mainGlobals "list" = some none)
    (z6 : PySem.W.nsIn K mainGlobals "len" = some none)
    (z7 : PySem.W.nsIn K mainGlobals "all" = some none)
    (z8 : PySem.W.nsIn K mainGlobals "sorted" = some none)
    (z9 : PySem.W.nsIn K mainGlobals "set" = some none)
    (z10 : PySem.W.nsIn K mainGlobals "range" = some none)
    (z11 : PySem.W.nsIn K mainGlobals "enumerate" = some none)
    (z12 : PySem.W.nsIn K mainGlobals "zip" = some none)
    (n_LONGEST_WORD : PySem.W.nsIn K mainGlobals "LONGEST_WORD" = some (some (.int 8 t_LONGEST_WORD)))
    (n_MOST_STEPS : PySem.W.nsIn K mainGlobals "MOST_STEPS" = some (some (.int 9 t_MOST_STEPS)))
    (n_LARGEST_PART : PySem.W.nsIn K mainGlobals "LARGEST_PART" = some (some (.int 99 t_LARGEST_PART)))
    (n_MOST_FIGURES : PySem.W.nsIn K mainGlobals "MOST_FIGURES" = some (some (.int 2 t_MOST_FIGURES)))
    (n_BARE_STEPS : PySem.W.nsIn K mainGlobals "BARE_STEPS" = some (some (.ref a_BARE_STEPS))) (l_BARE_STEPS : K.lookup a_BARE_STEPS = some ⟨.type "tuple", od_BARE_STEPS, .seq #[.str "say" u_BARE_STEPS_0, .str "hear" u_BARE_STEPS_1, .str "end" u_BARE_STEPS_2] nn_BARE_STEPS, sl_BARE_STEPS⟩)
    (n_NUMBER_STEPS : PySem.W.nsIn K mainGlobals "NUMBER_STEPS" = some (some (.ref a_NUMBER_STEPS))) (l_NUMBER_STEPS : K.lookup a_NUMBER_STEPS = some ⟨.type "tuple", od_NUMBER_STEPS, .seq #[.str "plus" u_NUMBER_STEPS_0, .str "times" u_NUMBER_STEPS_1, .str "turn" u_NUMBER_STEPS_2] nn_NUMBER_STEPS, sl_NUMBER_STEPS⟩)
    (n_WORD_STEPS : PySem.W.nsIn K mainGlobals "WORD_STEPS" = some (some (.ref a_WORD_STEPS))) (l_WORD_STEPS : K.lookup a_WORD_STEPS = some ⟨.type "tuple", od_WORD_STEPS, .seq #[.str "ask" u_WORD_STEPS_0, .str "odd" u_WORD_STEPS_1] nn_WORD_STEPS, sl_WORD_STEPS⟩)
    : ∃ fd : FuncData, (∀ (s : Shared) (v : Value), BindsTo s fd ⟨[v], []⟩ [("_law_script", v)]) ∧ ∀ base : Heap, K.In base → base.Ns mainGlobals mg → BM mg base → FnOk l.prog w K mg base CX0 90 fa fd ["_law_script"] (spLaw2 T Ps Pr Pn K) := by
  have e := hfa.symm.trans (PySem.W.mg_of X G a29)
  cases e
  have b : ∀ x ∈ blts, mg x = none := by
    intro x hx
    simp only [blts, List.mem_cons, List.not_mem_nil, or_false] at hx
    rcases hx with rfl | rfl | rfl | rfl | rfl | rfl | rfl | rfl | rfl | rfl | rfl | rfl | rfl
    · exact PySem.W.mg_none_of X G z0
    · exact PySem.W.mg_none_of X G z1
    · exact PySem.W.mg_none_of X G z2
    · exact PySem.W.mg_none_of X G z3
    · exact PySem.W.mg_none_of X G z4
    · exact PySem.W.mg_none_of X G z5
    · exact PySem.W.mg_none_of X G z6
    · exact PySem.W.mg_none_of X G z7
    · exact PySem.W.mg_none_of X G z8
    · exact PySem.W.mg_none_of X G z9
    · exact PySem.W.mg_none_of X G z10
    · exact PySem.W.mg_none_of X G z11
    · exact PySem.W.mg_none_of X G z12
  have g_LONGEST_WORD := PySem.W.mg_of X G n_LONGEST_WORD
  have g_MOST_STEPS := PySem.W.mg_of X G n_MOST_STEPS
  have g_LARGEST_PART := PySem.W.mg_of X G n_LARGEST_PART
  have g_MOST_FIGURES := PySem.W.mg_of X G n_MOST_FIGURES
  have g_BARE_STEPS := PySem.W.mg_of X G n_BARE_STEPS
  have q_BARE_STEPS : ∀ H, SqT K H a_BARE_STEPS bareL := fun H => tup_in (xs := bareL) l_BARE_STEPS (by show 3 ≤ sizeLine; decide) (.cons ⟨_, rfl⟩ (.cons ⟨_, rfl⟩ (.cons ⟨_, rfl⟩ .nil))) H
  have g_NUMBER_STEPS := PySem.W.mg_of X G n_NUMBER_STEPS
  have q_NUMBER_STEPS : ∀ H, SqT K H a_NUMBER_STEPS numL := fun H => tup_in (xs := numL) l_NUMBER_STEPS (by show 3 ≤ sizeLine; decide) (.cons ⟨_, rfl⟩ (.cons ⟨_, rfl⟩ (.cons ⟨_, rfl⟩ .nil))) H
  have g_WORD_STEPS := PySem.W.mg_of X G n_WORD_STEPS
  have q_WORD_STEPS : ∀ H, SqT K H a_WORD_STEPS wrdL := fun H => tup_in (xs := wrdL) l_WORD_STEPS (by show 2 ≤ sizeLine; decide) (.cons ⟨_, rfl⟩ (.cons ⟨_, rfl⟩ .nil)) H
  refine ⟨PySem.W.fnOf "law" "law" (defArgs s_law) (defBody s_law) (defScope s_law) .none kV29 dc29 pm29 an29 cd29 ct29, fun s v => .of_eq rfl, fun base _ _ ⟨bm, ob, hB⟩ => ?_⟩
  have F0 := fun_mk (st := s_is_number) l0 c0 k_0
  have B0 := F0.binds (ps := ["thing"]) fun _ _ _ _ _ _ us hl => match us, hl with | [_], _ => rfl
  have c_is_number : Cal l.prog w K mg base "is_number" 5 ["thing"] spNumber := ⟨f0, _, PySem.W.mg_of X G a0, ok_is_number F0 b, k_0, B0⟩
  have G1 : FunG K "is_word" "is_word" s_is_word f1 _ k1 T.w := ⟨⟨_, _, _, _, _, _, _, _, rfl, l1, c1⟩, h1⟩
  have F1 := G1.fn k_1
  have B1 := F1.binds (ps := ["thing"]) fun _ _ _ _ _ _ us hl => match us, hl with | [_], _ => rfl
  have c_is_word : Cal l.prog w K mg base "is_word" 10 ["thing"] (spWord T.w) := ⟨f1, _, PySem.W.mg_of X G a1, ok_is_word G1 b hB g_LONGEST_WORD, k_1, B1⟩
  have F2 := fun_mk (st := s_is_step) l2 c2 k_2
  have B2 := F2.binds (ps := ["thing"]) fun _ _ _ _ _ _ us hl => match us, hl with | [_], _ => rfl
  have c_is_step : Cal l.prog w K mg base "is_step" 20 ["thing"] (spStep T.w) := ⟨f2, _, PySem.W.mg_of X G a2, ok_is_step F2 b g_BARE_STEPS g_NUMBER_STEPS g_WORD_STEPS g_LARGEST_PART q_BARE_STEPS q_NUMBER_STEPS q_WORD_STEPS c_is_number c_is_word, k_2, B2⟩
  have G3 : FunG K "is_steps" "is_steps" s_is_steps f3 _ k3 T.b := ⟨⟨_, _, _, _, _, _, _, _, rfl, l3, c3⟩, h3⟩
  have F3 := G3.fn k_3
  have B3 := F3.binds (ps := ["thing"]) fun _ _ _ _ _ _ us hl => match us, hl with | [_], _ => rfl
  have c_is_steps : Cal l.prog w K mg base "is_steps" 25 ["thing"] (spSteps T.w T.b) := ⟨f3, _, PySem.W.mg_of X G a3, ok_is_steps G3 b hB c_is_step, k_3, B3⟩
  have F4 := fun_mk (st := s_is_body) l4 c4 k_4
  have B4 := F4.binds (ps := ["thing"]) fun _ _ _ _ _ _ us hl => match us, hl with | [_], _ => rfl
  have c_is_body : Cal l.prog w K mg base "is_body" 30 ["thing"] (spBody T.w T.b) := ⟨f4, _, PySem.W.mg_of X G a4, ok_is_body F4 b g_MOST_STEPS c_is_steps, k_4, B4⟩
  have F5 := fun_mk (st := s_has_word) l5 c5 k_5
  have B5 := F5.binds (ps := ["thing"]) fun _ _ _ _ _ _ us hl => match us, hl with | [_], _ => rfl
  have c_has_word : Cal l.prog w K mg base "has_word" 20 ["thing"] (spHasWord T.w) := ⟨f5, _, PySem.W.mg_of X G a5, ok_has_word F5 b c_is_word, k_5, B5⟩
  have F6 := fun_mk (st := s_has_body) l6 c6 k_6
  have B6 := F6.binds (ps := ["thing"]) fun _ _ _ _ _ _ us hl => match us, hl with | [_], _ => rfl
  have c_has_body : Cal l.prog w K mg base "has_body" 40 ["thing"] (spHasBody T.w T.b) := ⟨f6, _, PySem.W.mg_of X G a6, ok_has_body F6 c_has_word c_is_body, k_6, B6⟩
  have G7 : FunG K "is_book" "is_book" s_is_book f7 _ k7 T.k := ⟨⟨_, _, _, _, _, _, _, _, rfl, l7, c7⟩, h7⟩
  have F7 := G7.fn k_7
  have B7 := F7.binds (ps := ["thing"]) fun _ _ _ _ _ _ us hl => match us, hl with | [_], _ => rfl
  have c_is_book : Cal l.prog w K mg base "is_book" 50 ["thing"] (spBook T) := ⟨f7, _, PySem.W.mg_of X G a7, ok_is_book G7 b hB c_has_body, k_7, B7⟩
  have F8 := fun_mk (st := s_need_book) l8 c8 k_8
  have B8 := F8.binds (ps := ["book"]) fun _ _ _ _ _ _ us hl => match us, hl with | [_], _ => rfl
  have c_need_book : Cal l.prog w K mg base "need_book" 60 ["book"] (spNeedBook T) := ⟨f8, _, PySem.W.mg_of X G a8, ok_need_book F8 c_is_book, k_8, B8⟩
  have F9 := fun_mk (st := s_law_cell_at) l9 c9 k_9
  have B9 := F9.binds (ps := ["_law_script", "_law_k"]) fun _ _ _ _ _ _ us hl => match us, hl with | [_, _], _ => rfl
  have c_law_cell_at : Cal l.prog w K mg base "_law_cell_at" 5 ["_law_script", "_law_k"] (spCell K) := ⟨f9, _, PySem.W.mg_of X G a9, ok_cell_at F9 b, k_9, B9⟩
  have F10 := fun_mk (st := s_law_draw) l10 c10 k_10
  have B10 := F10.binds (ps := ["_law_cell", "_law_k", "_law_most"]) fun _ _ _ _ _ _ us hl => match us, hl with | [_, _, _], _ => rfl
  have c_law_draw : Cal l.prog w K mg base "_law_draw" 5 ["_law_cell", "_law_k", "_law_most"] spDraw := ⟨f10, _, PySem.W.mg_of X G a10, ok_draw F10 b, k_10, B10⟩
  have F11 := fun_mk (st := s_law_number) l11 c11 k_11
  have B11 := F11.binds (ps := ["_law_cell", "_law_k", "_law_limit"]) fun _ _ _ _ _ _ us hl => match us, hl with | [_, _, _], _ => rfl
  have c_law_number : Cal l.prog w K mg base "_law_number" 10 ["_law_cell", "_law_k", "_law_limit"] spNum := ⟨f11, _, PySem.W.mg_of X G a11, ok_number F11 b c_law_draw, k_11, B11⟩
  have F12 := fun_mk (st := s_law_names) l12 c12 k_12
  have B12 := F12.binds (ps := []) fun _ _ _ _ _ _ us hl => match us, hl with | [], _ => rfl
  have c_law_names : Cal l.prog w K mg base "_law_names" 5 [] spNames := ⟨f12, _, PySem.W.mg_of X G a12, ok_names F12, k_12, B12⟩
  have F13 := fun_mk (st := s_law_step) l13 c13 k_13
  have B13 := F13.binds (ps := ["_law_cell", "_law_at"]) fun _ _ _ _ _ _ us hl => match us, hl with | [_, _], _ => rfl
  have c_law_step : Cal l.prog w K mg base "_law_step" 20 ["_law_cell", "_law_at"] spStepL := ⟨f13, _, PySem.W.mg_of X G a13, ok_law_step F13 b c_law_number c_law_names, k_13, B13⟩
  have F14 := fun_mk (st := s_law_body) l14 c14 k_14
  have B14 := F14.binds (ps := ["_law_cell", "_law_at"]) fun _ _ _ _ _ _ us hl => match us, hl with | [_, _], _ => rfl
  have c_law_body : Cal l.prog w K mg base "_law_body" 30 ["_law_cell", "_law_at"] spBodyL := ⟨f14, _, PySem.W.mg_of X G a14, ok_law_body F14 b c_law_number c_law_step, k_14, B14⟩
  have F15 := fun_mk (st := s_law_book) l15 c15 k_15
  have B15 := F15.binds (ps := ["_law_script", "_law_by"]) fun _ _ _ _ _ _ us hl => match us, hl with | [_, _], _ => rfl
  have c_law_book : Cal l.prog w K mg base "_law_book" 40 ["_law_script", "_law_by"] (spBookL K) := ⟨f15, _, PySem.W.mg_of X G a15, ok_law_book F15 b c_law_cell_at c_law_number c_law_names c_law_body, k_15, B15⟩
  have F16 := fun_mk (st := s_law_alike) l16 c16 k_16
  have B16 := F16.binds (ps := ["_law_found", "_law_due"]) fun _ _ _ _ _ _ us hl => match us, hl with | [_, _], _ => rfl
  have c_law_alike : Cal l.prog w K mg base "_law_alike" 15 ["_law_found", "_law_due"] (spA 5) := cal_alike F16 b (PySem.W.mg_of X G a16) B16 5
  have G17 : FunG K "written_step" "written_step" s_written_step f17 _ k17 Ps := ⟨⟨_, _, _, _, _, _, _, _, rfl, l17, c17⟩, h17⟩
  have F17 := G17.fn k_17
  have B17 := F17.binds (ps := ["step"]) fun _ _ _ _ _ _ us hl => match us, hl with | [_], _ => rfl
  have c_written_step : Cal l.prog w K mg base "written_step" 10 ["step"] (spWStep Ps) := ⟨f17, _, PySem.W.mg_of X G a17, ok_written_step G17 b hB, k_17, B17⟩
  have G18 : FunG K "written_row" "written_row" s_written_row f18 _ k18 Pr := ⟨⟨_, _, _, _, _, _, _, _, rfl, l18, c18⟩, h18⟩
  have F18 := G18.fn k_18
  have B18 := F18.binds (ps := ["word", "body"]) fun _ _ _ _ _ _ us hl => match us, hl with | [_, _], _ => rfl
  have c_written_row : Cal l.prog w K mg base "written_row" 20 ["word", "body"] (spWRow Ps Pr) := ⟨f18, _, PySem.W.mg_of X G a18, ok_written_row G18 b hB c_written_step, k_18, B18⟩
  have G19 : FunG K "written" "written" s_written f19 _ k19 T.c := ⟨⟨_, _, _, _, _, _, _, _, rfl, l19, c19⟩, h19⟩
  have F19 := G19.fn k_19
  have B19 := F19.binds (ps := ["book"]) fun _ _ _ _ _ _ us hl => match us, hl with | [_], _ => rfl
  have c_written : Cal l.prog w K mg base "written" 70 ["book"] (spWritten T Ps Pr) := ⟨f19, _, PySem.W.mg_of X G a19, ok_written G19 b hB c_need_book c_written_row, k_19, B19⟩
  have G20 : FunG K "read_number" "read_number" s_read_number f20 _ k20 Pn := ⟨⟨_, _, _, _, _, _, _, _, rfl, l20, c20⟩, h20⟩
  have F20 := G20.fn k_20
  have B20 := F20.binds (ps := ["text"]) fun _ _ _ _ _ _ us hl => match us, hl with | [_], _ => rfl
  have c_read_number : Cal l.prog w K mg base "read_number" 10 ["text"] (spReadNum Pn) := ⟨f20, _, PySem.W.mg_of X G a20, ok_read_number G20 b hB g_MOST_FIGURES, k_20, B20⟩
  have F21 := fun_mk (st := s_read_step) l21 c21 k_21
  have B21 := F21.binds (ps := ["text"]) fun _ _ _ _ _ _ us hl => match us, hl with | [_], _ => rfl
  have c_read_step : Cal l.prog w K mg base "read_step" 15 ["text"] (spReadStep Pn) := ⟨f21, _, PySem.W.mg_of X G a21, ok_read_step F21 b g_NUMBER_STEPS q_NUMBER_STEPS c_read_number, k_21, B21⟩
  have F22 := fun_mk (st := s_read_body) l22 c22 k_22
  have B22 := F22.binds (ps := ["text"]) fun _ _ _ _ _ _ us hl => match us, hl with | [_], _ => rfl
  have c_read_body : Cal l.prog w K mg base "read_body" 35 ["text"] (spReadBody T Pn) := ⟨f22, _, PySem.W.mg_of X G a22, ok_read_body F22 b c_read_step c_is_body, k_22, B22⟩
  have F23 := fun_mk (st := s_tells_nothing) l23 c23 k_23
  have B23 := F23.binds (ps := ["row"]) fun _ _ _ _ _ _ us hl => match us, hl with | [_], _ => rfl
  have c_tells_nothing : Cal l.prog w K mg base "tells_nothing" 5 ["row"] spTells := ⟨f23, _, PySem.W.mg_of X G a23, ok_tells_nothing F23, k_23, B23⟩
  have F24 := fun_mk (st := s_read_row) l24 c24 k_24
  have B24 := F24.binds (ps := ["row"]) fun _ _ _ _ _ _ us hl => match us, hl with | [_], _ => rfl
  have c_read_row : Cal l.prog w K mg base "read_row" 40 ["row"] (spReadRow T Pn) := ⟨f24, _, PySem.W.mg_of X G a24, ok_read_row F24 b c_is_word c_read_body, k_24, B24⟩
  have F25 := fun_mk (st := s_read) l25 c25 k_25
  have B25 := F25.binds (ps := ["text"]) fun _ _ _ _ _ _ us hl => match us, hl with | [_], _ => rfl
  have c_read : Cal l.prog w K mg base "read" 50 ["text"] (spRead T Pn) := ⟨f25, _, PySem.W.mg_of X G a25, ok_read F25 b c_tells_nothing c_read_row, k_25, B25⟩
  have F26 := fun_mk (st := s_law_step_text) l26 c26 k_26
  have B26 := F26.binds (ps := ["_law_step_here"]) fun _ _ _ _ _ _ us hl => match us, hl with | [_], _ => rfl
  have c_law_step_text : Cal l.prog w K mg base "_law_step_text" 5 ["_law_step_here"] spSText := ⟨f26, _, PySem.W.mg_of X G a26, ok_law_step_text F26 b, k_26, B26⟩
  have F27 := fun_mk (st := s_law_row) l27 c27 k_27
  have B27 := F27.binds (ps := ["_law_word", "_law_body_here", "_law_wide"]) fun _ _ _ _ _ _ us hl => match us, hl with | [_, _, _], _ => rfl
  have c_law_row : Cal l.prog w K mg base "_law_row" 10 ["_law_word", "_law_body_here", "_law_wide"] spRowL := ⟨f27, _, PySem.W.mg_of X G a27, ok_law_row F27 b c_law_step_text, k_27, B27⟩
  have F28 := fun_mk (st := s_law_text) l28 c28 k_28
  have B28 := F28.binds (ps := ["_law_book_here", "_law_script", "_law_by"]) fun _ _ _ _ _ _ us hl => match us, hl with | [_, _, _], _ => rfl
  have c_law_text : Cal l.prog w K mg base "_law_text" 20 ["_law_book_here", "_law_script", "_law_by"] (spTextL K) := ⟨f28, _, PySem.W.mg_of X G a28, ok_law_text F28 b c_law_cell_at c_law_number c_law_row, k_28, B28⟩
  exact ok_law (fun_mk (st := s_law) l29 c29 k_29) b c_law_book c_law_text c_law_alike c_written c_read
end MG

set_option Elab.async false
set_option linter.all false
set_option maxRecDepth 100000
namespace MG
open PySem PySem.Spec PyProof.Rows L2
/-- where the defs' tables stand behind the top -/
def tabs0 : List (Addr × Addr) := [(67, 63), (81, 77), (93, 91), (135, 131), (128, 124), (121, 117), (173, 169)]
def tb0 : TB := ⟨63, 77, 91, 117⟩
theorem on_tabs {H : Hp} (h : Tabs (tabs0.map (·.2)) H) : tb0.on H ∧ H 131 = some (tabH 131) ∧ H 124 = some (tabH 124) ∧ H 169 = some (tabH 169) := ⟨⟨h 63 (by decide), h 77 (by decide), h 91 (by decide), h 117 (by decide)⟩, h 131 (by decide), h 124 (by decide), h 169 (by decide)⟩
theorem tabs_on {H : Hp} (h : tb0.on H ∧ H 131 = some (tabH 131) ∧ H 124 = some (tabH 124) ∧ H 169 = some (tabH 169)) : Tabs (tabs0.map (·.2)) H := by
  intro P hP
  have m : P = 63 ∨ P = 77 ∨ P = 91 ∨ P = 131 ∨ P = 124 ∨ P = 117 ∨ P = 169 := by simpa [tabs0] using hP
  rcases m with m | m | m | m | m | m | m
  · rw [m]; exact h.1.1
  · rw [m]; exact h.1.2.1
  · rw [m]; exact h.1.2.2.1
  · rw [m]; exact h.2.1
  · rw [m]; exact h.2.2.1
  · rw [m]; exact h.1.2.2.2
  · rw [m]; exact h.2.2.2
theorem walk {l : PySem.W.OpenLaw} {q : Program} {loose : List Str} {XP : (Str → Option Value) → Heap → Prop} {YP : World → Heap → Prop} {d : DefRec} {K : Params → PySem.W.Frag} (hn : l.most = some 63) (hdf : d.params.defaults = [])
    (hY : ∀ (w : World) (h : Heap), YP w h → (K w.params).In h ∧ ∀ q ∈ tabs0, h.get? q.2 = some (PySem.W.tabObj #[]))
    (hC : ∀ (w : World), ∀ q ∈ tabs0, PySem.W.codeHdIn (K w.params) q.1 q.2 = true ∧ (K w.params).lookup q.2 = none)
    (F : ∀ (w : World) (mg : Str → Option Value) (fa : Addr) (h : Heap), (K w.params).In h → h.Ns mainGlobals mg → mg d.name = some (.ref fa) →
      ∃ fd : FuncData, (∀ (s : Shared) (u : Value), BindsTo s fd ⟨[u], []⟩ [("_law_script", u)]) ∧
        ∀ base : Heap, (K w.params).In base → base.Ns mainGlobals mg → BM mg base → FnOk l.prog w (K w.params) mg base CX0 90 fa fd ["_law_script"] (spLaw2 tb0 131 124 169 (K w.params))) :
    PySem.W.WalkO q loose XP YP l.row.toRowW d [] (fun f vs => PySem.call f vs) := by
  refine walk_ofT (n := 63) (k := 90) (x := "_law_script") (sp := spLaw2 tb0 131 124 169) (tabs := tabs0) hn (by decide) hdf ⟨rfl, by decide, by decide⟩ hY hC F ?_
  intro K H a ns hl hO hT hS
  refine ⟨a, rfl, ?_, on_tabs hT, fun H' hT' => ⟨rfl, tabs_on hT'⟩⟩
  rcases hS with (h | ⟨o, h⟩) | h
  · exfalso
    by_cases m : a ∈ tabs0.map (·.2)
    · have := hT a m
      rw [h] at this
      cases this
    · rcases hO a m with z | ⟨o, xs, z⟩
      · rw [h] at z; cases z
      · rw [h] at z; cases z
  · exact ⟨ns, .inl ⟨o, h⟩⟩
  · exact ⟨ns, .inr fun H' => .inr h⟩
end MG

open PySem PySem.W PyProof.Rows
set_option Elab.async false
local macro_rules
  | `(tactic| o_head ($f:ident $k $a $e)) => `(tactic| o_head (PySem.W.kmHook $k $a $e [63, 77, 91, 131, 124, 117, 169]))
set_option maxRecDepth 100000 in
set_option maxHeartbeats 0 in
theorem PySem.Challenge.cw_midstride_k02_whole_read_holds : PySem.Challenge.rw_midstride_k02_whole_read.Holds := by
  w_on; o_law; k_head; (case hw => w_witness2)
  k_fill
  refine MG.walk (l := PySem.Challenge.rw_midstride_k02_whole_read) rfl rfl (fun w h Y => ⟨PySem.W.km_in_of Y, ?hT⟩) ?hC ?F
  case hT =>
    intro q hq
    refine PySem.W.km_tabs_of Y q.2 ?_
    exact List.mem_map.mpr ⟨q, hq, rfl⟩
  case hC =>
    intro w q hq
    have m : q = (67, 63) ∨ q = (81, 77) ∨ q = (93, 91) ∨ q = (135, 131) ∨ q = (128, 124) ∨ q = (121, 117) ∨ q = (173, 169) := by simpa [MG.tabs0] using hq
    rcases m with m | m | m | m | m | m | m <;> rw [m]
    · exact ⟨by kernel_rfl, by kernel_rfl⟩
    · exact ⟨by kernel_rfl, by kernel_rfl⟩
    · exact ⟨by kernel_rfl, by kernel_rfl⟩
    · exact ⟨by kernel_rfl, by kernel_rfl⟩
    · exact ⟨by kernel_rfl, by kernel_rfl⟩
    · exact ⟨by kernel_rfl, by kernel_rfl⟩
    · exact ⟨by kernel_rfl, by kernel_rfl⟩
  case F =>
    intro w mg fa h KX G hmg
    refine' MG.all_mk (T := MG.tb0) (Ps := 131) (Pr := 124) (Pn := 169) KX G hmg ?a0 ?l0 ?c0 ?k_0 ?a1 ?l1 ?c1 ?k_1 ?h1 ?a2 ?l2 ?c2 ?k_2 ?a3 ?l3 ?c3 ?k_3 ?h3 ?a4 ?l4 ?c4 ?k_4 ?a5 ?l5 ?c5 ?k_5 ?a6 ?l6 ?c6 ?k_6 ?a7 ?l7 ?c7 ?k_7 ?h7 ?a8 ?l8 ?c8 ?k_8 ?a9 ?l9 ?c9 ?k_9 ?a10 ?l10 ?c10 ?k_10 ?a11 ?l11 ?c11 ?k_11 ?a12 ?l12 ?c12 ?k_12 ?a13 ?l13 ?c13 ?k_13 ?a14 ?l14 ?c14 ?k_14 ?a15 ?l15 ?c15 ?k_15 ?a16 ?l16 ?c16 ?k_16 ?a17 ?l17 ?c17 ?k_17 ?h17 ?a18 ?l18 ?c18 ?k_18 ?h18 ?a19 ?l19 ?c19 ?k_19 ?h19 ?a20 ?l20 ?c20 ?k_20 ?h20 ?a21 ?l21 ?c21 ?k_21 ?a22 ?l22 ?c22 ?k_22 ?a23 ?l23 ?c23 ?k_23 ?a24 ?l24 ?c24 ?k_24 ?a25 ?l25 ?c25 ?k_25 ?a26 ?l26 ?c26 ?k_26 ?a27 ?l27 ?c27 ?k_27 ?a28 ?l28 ?c28 ?k_28 ?a29 ?l29 ?c29 ?k_29 ?z0 ?z1 ?z2 ?z3 ?z4 ?z5 ?z6 ?z7 ?z8 ?z9 ?z10 ?z11 ?z12 ?n_LONGEST_WORD ?n_MOST_STEPS ?n_LARGEST_PART ?n_MOST_FIGURES ?n_BARE_STEPS ?l_BARE_STEPS ?n_NUMBER_STEPS ?l_NUMBER_STEPS ?n_WORD_STEPS ?l_WORD_STEPS
    (case a0 => k_is)
    (case l0 => k_is)
    (case c0 => k_is)
    (case k_0 => k_is)
    (case a1 => k_is)
    (case l1 => k_is)
    (case c1 => k_is)
    (case k_1 => k_is)
    (case h1 => kernel_rfl)
    (case a2 => k_is)
    (case l2 => k_is)
    (case c2 => k_is)
    (case k_2 => k_is)
    (case a3 => k_is)
    (case l3 => k_is)
    (case c3 => k_is)
    (case k_3 => k_is)
    (case h3 => kernel_rfl)
    (case a4 => k_is)
    (case l4 => k_is)
    (case c4 => k_is)
    (case k_4 => k_is)
    (case a5 => k_is)
    (case l5 => k_is)
    (case c5 => k_is)
    (case k_5 => k_is)
    (case a6 => k_is)
    (case l6 => k_is)
    (case c6 => k_is)
    (case k_6 => k_is)
    (case a7 => k_is)
    (case l7 => k_is)
    (case c7 => k_is)
    (case k_7 => k_is)
    (case h7 => kernel_rfl)
    (case a8 => k_is)
    (case l8 => k_is)
    (case c8 => k_is)
    (case k_8 => k_is)
    (case a9 => k_is)
    (case l9 => k_is)
    (case c9 => k_is)
    (case k_9 => k_is)
    (case a10 => k_is)
    (case l10 => k_is)
    (case c10 => k_is)
    (case k_10 => k_is)
    (case a11 => k_is)
    (case l11 => k_is)
    (case c11 => k_is)
    (case k_11 => k_is)
    (case a12 => k_is)
    (case l12 => k_is)
    (case c12 => k_is)
    (case k_12 => k_is)
    (case a13 => k_is)
    (case l13 => k_is)
    (case c13 => k_is)
    (case k_13 => k_is)
    (case a14 => k_is)
    (case l14 => k_is)
    (case c14 => k_is)
    (case k_14 => k_is)
    (case a15 => k_is)
    (case l15 => k_is)
    (case c15 => k_is)
    (case k_15 => k_is)
    (case a16 => k_is)
    (case l16 => k_is)
    (case c16 => k_is)
    (case k_16 => k_is)
    (case a17 => k_is)
    (case l17 => k_is)
    (case c17 => k_is)
    (case k_17 => k_is)
    (case h17 => kernel_rfl)
    (case a18 => k_is)
    (case l18 => k_is)
    (case c18 => k_is)
    (case k_18 => k_is)
    (case h18 => kernel_rfl)
    (case a19 => k_is)
    (case l19 => k_is)
    (case c19 => k_is)
    (case k_19 => k_is)
    (case h19 => kernel_rfl)
    (case a20 => k_is)
    (case l20 => k_is)
    (case c20 => k_is)
    (case k_20 => k_is)
    (case h20 => kernel_rfl)
    (case a21 => k_is)
    (case l21 => k_is)
    (case c21 => k_is)
    (case k_21 => k_is)
    (case a22 => k_is)
    (case l22 => k_is)
    (case c22 => k_is)
    (case k_22 => k_is)
    (case a23 => k_is)
    (case l23 => k_is)
    (case c23 => k_is)
    (case k_23 => k_is)
    (case a24 => k_is)
    (case l24 => k_is)
    (case c24 => k_is)
    (case k_24 => k_is)
    (case a25 => k_is)
    (case l25 => k_is)
    (case c25 => k_is)
    (case k_25 => k_is)
    (case a26 => k_is)
    (case l26 => k_is)
    (case c26 => k_is)
    (case k_26 => k_is)
    (case a27 => k_is)
    (case l27 => k_is)
    (case c27 => k_is)
    (case k_27 => k_is)
    (case a28 => k_is)
    (case l28 => k_is)
    (case c28 => k_is)
    (case k_28 => k_is)
    (case a29 => k_is)
    (case l29 => k_is)
    (case c29 => k_is)
    (case k_29 => k_is)
    (case z0 => k_is)
    (case z1 => k_is)
    (case z2 => k_is)
    (case z3 => k_is)
    (case z4 => k_is)
    (case z5 => k_is)
    (case z6 => k_is)
    (case z7 => k_is)
    (case z8 => k_is)
    (case z9 => k_is)
    (case z10 => k_is)
    (case z11 => k_is)
    (case z12 => k_is)
    (case n_LONGEST_WORD => k_is)
    (case n_MOST_STEPS => k_is)
    (case n_LARGEST_PART => k_is)
    (case n_MOST_FIGURES => k_is)
    (case n_BARE_STEPS => k_is)
    (case l_BARE_STEPS => k_is)
    (case n_NUMBER_STEPS => k_is)
    (case l_NUMBER_STEPS => k_is)
    (case n_WORD_STEPS => k_is)
    (case l_WORD_STEPS => k_is)
