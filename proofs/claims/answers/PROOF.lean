import PyProof.Rows.All
import Wide.All
import OpenK.AllK
import Wide.FinOn
import PyProof.EqAt
import PyProof.EqKinds
import PyProof.TupleCall
import KE.BitLaws
import Open.SpecLaws
import KE.OsHead
import KE.OsGo
import KE.KLam
import KE.KMinKey
import PySem.Challenge.RW_schoolplaces_s01_answers
set_option Elab.async false
set_option linter.all false
set_option maxRecDepth 100000
/-! THE HAND LAYER, for ints, bools, texts, own classes, lists, tuples, dicts, comprehensions, walks over dicts, enumerate, zip, reversed, texts, calls, loops. Paste it whole ahead of your own text; what your proof does not reach may be deleted. -/
namespace L2
open PySem PySem.Spec PyProof.Rows

/-- a key: an int or a str -/
abbrev Key := Sum Int Str
def keyIs : Key → Value → Bool
  | .inl k, v => Value.isInt k v
  | .inr x, v => Value.isStrOf x v
def keyH (w : World) : Key → Int
  | .inl k => hashInt k
  | .inr x => hashStr w x
theorem keyIs_shape : ∀ {k : Key} {v : Value}, keyIs k v = true → (∃ i t, k = Sum.inl i ∧ v = Value.int i t) ∨ (∃ x t, k = Sum.inr x ∧ v = Value.str x t)
  | .inl i, v, h => by
    obtain ⟨t, e⟩ := Value.isInt_shape (k := i) (v := v) h
    exact .inl ⟨i, t, rfl, e⟩
  | .inr x, v, h => by
    obtain ⟨t, e⟩ := Value.isStrOf_shape (x := x) (v := v) h
    exact .inr ⟨x, t, rfl, e⟩
theorem keyIs_int (i : Int) (t : Tok) : keyIs (.inl i) (.int i t) = true := by simp [keyIs, Value.isInt]
theorem keyIs_str (x : Str) (t : Tok) : keyIs (.inr x) (.str x t) = true := by simp [keyIs, Value.isStrOf]
theorem key_ll (a b : Int) : decide ((Sum.inl a : Key) = Sum.inl b) = (a == b) := by
  by_cases e : a = b
  · subst e; simp
  · have h : ¬ (Sum.inl a : Key) = Sum.inl b := fun q => e (Sum.inl.inj q)
    rw [decide_eq_false h]
    exact (beq_eq_false_iff_ne.mpr e).symm
theorem key_rr (a b : Str) : decide ((Sum.inr a : Key) = Sum.inr b) = decide (a = b) := by
  by_cases e : a = b
  · subst e; simp
  · have h : ¬ (Sum.inr a : Key) = Sum.inr b := fun q => e (Sum.inr.inj q)
    rw [decide_eq_false h, decide_eq_false e]
theorem key_lr (a : Int) (b : Str) : decide ((Sum.inl a : Key) = Sum.inr b) = false := decide_eq_false (fun q => nomatch q)
theorem key_rl (a : Str) (b : Int) : decide ((Sum.inr a : Key) = Sum.inl b) = false := decide_eq_false (fun q => nomatch q)

def mixKind (prog : Program) (w : World) : PySem.KeyKind prog w Key where
  is := keyIs
  hash := keyH w
  inj := fun v a b ha hb => by
    rcases keyIs_shape ha with ⟨i, t, rfl, rfl⟩ | ⟨x, t, rfl, rfl⟩
    · rcases keyIs_shape hb with ⟨j, u, rfl, e⟩ | ⟨y, u, rfl, e⟩
      · injection e with e1 _; rw [e1]
      · exact nomatch e
    · rcases keyIs_shape hb with ⟨j, u, rfl, e⟩ | ⟨y, u, rfl, e⟩
      · exact nomatch e
      · injection e with e1 _; rw [e1]
  byValue := fun k v h => by
    rcases keyIs_shape h with ⟨i, t, rfl, rfl⟩ | ⟨x, t, rfl, rfl⟩ <;> rfl
  pyHash := fun hv h => by
    rcases keyIs_shape hv with ⟨i, t, rfl, rfl⟩ | ⟨x, t, rfl, rfl⟩
    · exact wpAny_pyHash_int h
    · exact wpAny_pyHash_str h
  eqBool := fun hu hv h => by
    rcases keyIs_shape hu with ⟨i, t, rfl, rfl⟩ | ⟨x, t, rfl, rfl⟩
    · rcases keyIs_shape hv with ⟨j, u, rfl, rfl⟩ | ⟨y, u, rfl, rfl⟩
      · rw [key_ll] at h; exact wpAny_eqBool_int h
      · rw [key_lr] at h; exact SeqAt.EqAt.int_str i t y u _ _ _ _ h
    · rcases keyIs_shape hv with ⟨j, u, rfl, rfl⟩ | ⟨y, u, rfl, rfl⟩
      · rw [key_rl] at h; exact SeqAt.EqAt.str_int x t j u _ _ _ _ h
      · rw [key_rr] at h; exact wpAny_eqBool_str h
  «strs» := fun k x t v h => by
    rcases keyIs_shape h with ⟨i, u, rfl, e⟩ | ⟨y, u, rfl, e⟩
    · exact nomatch e
    · injection e with e1 _
      subst e1
      cases v <;> rfl

theorem mixKind_int (prog : Program) (w : World) (i : Int) (t : Tok) : (mixKind prog w).is (.inl i) (.int i t) = true := keyIs_int i t
theorem mixKind_str (prog : Program) (w : World) (x : Str) (t : Tok) : (mixKind prog w).is (.inr x) (.str x t) = true := keyIs_str x t
end L2

namespace L2
open PySem PySem.Spec PyProof.Rows

/-- a value, without the heap -/
inductive V where
  | non | bl (b : Bool) | int (i : Int) | str (x : Str) | byt (b : Array UInt8) | flt (b : UInt64) | ref (a : Addr) | ty (n : String)
  deriving DecidableEq

def RelV : V → Value → Prop
  | .non, u => u = Value.none
  | .bl b, u => u = Value.bool b
  | .int i, u => ∃ t, u = Value.int i t
  | .str x, u => ∃ t, u = Value.str x t
  | .byt b, u => ∃ t, u = Value.bytes b t
  | .flt b, u => ∃ t, u = Value.float b t
  | .ref a, u => u = Value.ref a
  | .ty n, u => u = Value.type n

abbrev Vals : List V → List Value → Prop := Paired RelV
theorem Vals.length {xs : List V} {us : List Value} (r : Vals xs us) : xs.length = us.length := Paired.length r
theorem Vals.get : ∀ {xs : List V} {us : List Value} {i : Nat} {x : V}, Vals xs us → xs[i]? = some x → ∃ u, us[i]? = some u ∧ RelV x u
  | _, _, _, _, .nil, e => by simp at e
  | _, _, 0, _, .cons r _, e => by simp at e; subst e; exact ⟨_, rfl, r⟩
  | _, _, i + 1, x, .cons _ t, e => by
    obtain ⟨u, h1, h2⟩ := Vals.get (i := i) (x := x) t (by simpa using e)
    exact ⟨u, by simpa using h1, h2⟩
theorem Vals.set {x : V} {u : Value} (r : RelV x u) : ∀ {xs : List V} {us : List Value} (i : Nat), Vals xs us → Vals (xs.set i x) (us.set i u)
  | _, _, _, .nil => .nil
  | _, _, 0, .cons _ t => .cons r t
  | _, _, i + 1, .cons q t => .cons q (Vals.set r i t)
theorem Vals.append : ∀ {xs ys : List V} {us ws : List Value}, Vals xs us → Vals ys ws → Vals (xs ++ ys) (us ++ ws)
  | _, _, _, _, .nil, s => s
  | _, _, _, _, .cons r t, s => .cons r (Vals.append t s)
theorem Vals.take : ∀ {xs : List V} {us : List Value} (n : Nat), Vals xs us → Vals (xs.take n) (us.take n)
  | _, _, 0, _ => .nil
  | _, _, _ + 1, .nil => .nil
  | _, _, n + 1, .cons r t => .cons r (Vals.take n t)
theorem Vals.drop : ∀ {xs : List V} {us : List Value} (n : Nat), Vals xs us → Vals (xs.drop n) (us.drop n)
  | _, _, 0, r => r
  | _, _, _ + 1, .nil => .nil
  | _, _, n + 1, .cons _ t => Vals.drop n t
theorem Vals.none_of : ∀ {xs : List V} {us : List Value} {i : Nat}, Vals xs us → xs[i]? = none → us[i]? = none := fun {xs us i} r e => by
  have h1 := r.length
  have h2 : xs.length ≤ i := List.getElem?_eq_none_iff.mp e
  exact List.getElem?_eq_none_iff.mpr (by omega)

def RelO : Option V → Option Value → Prop
  | some v, some u => RelV v u
  | none, none => True
  | _, _ => False
def KV {κ : Type} : List (κ × V) → List (κ × Value) → Prop := Paired fun (p : κ × V) (q : κ × Value) => p.1 = q.1 ∧ RelV p.2 q.2

/-- a key of a dict (00_mix): an int or a text -/
def kV : Key → V
  | .inl i => .int i
  | .inr x => .str x

/-- what stands at a tracked address -/
inductive HO where
  /-- a list -/
  | lst (xs : List V)
  /-- a tuple (never changes) -/
  | tup (xs : List V)
  /-- a dict whose keys are ints and texts; one whose keys are tuples of ints and texts (the empty one is both) -/
  | dK (kvs : List (Key × V)) | dT (kvs : List (List Key × V))
  /-- a set of ints: its members, its size -/
  | set (S : Int → Bool) (n : Nat)
  /-- an instance of the class at C, its dict at dx, its attributes -/
  | ins (C dx : Addr) (fs : List (Str × V))
  /-- the dict of the instance at x -/
  | own (x : Addr)
  /-- the dict of an exception -/
  | xd (fs : List (Str × V))
  /-- a bound method, f of x -/
  | met (f x : Addr)
  /-- a range object lo, lo + 1, .. below hi -/
  | rng (lo hi : Int)
  /-- a thing that is known to the object (the script; a dict while a loop walks it): read, never written while it is so -/
  | frz (o : Obj) (u : HO)
  /-- a code object's table -/
  | tbl (ps : Array Value)
  /-- any other thing, by what is true of its one object (a def of one's own: SetO a S n := HO.ext fun h => ..) -/
  | ext (φ : Heap → Prop)

abbrev Hp := Addr → Option HO
def upd (H : Hp) (a : Addr) (o : HO) : Hp := fun b => if b = a then some o else H b
theorem upd_same {H : Hp} {a : Addr} {o : HO} : upd H a o a = some o := by unfold upd; rw [if_pos rfl]
theorem upd_ne {H : Hp} {a b : Addr} {o : HO} (h : b ≠ a) : upd H a o b = H b := by unfold upd; rw [if_neg h]
theorem upd_upd {H : Hp} {a : Addr} {o u : HO} : upd (upd H a o) a u = upd H a u := by
  funext b; unfold upd; split <;> rfl
/-- two objects of different content stand apart -/
theorem ne_of {H : Hp} {a b : Addr} {o u : HO} (h : H a = some o) (h' : H b = some u) (d : o ≠ u) : a ≠ b := by
  intro e; subst e; rw [h] at h'; exact d (Option.some.inj h')
theorem ne_of_none {H : Hp} {a b : Addr} {o : HO} (h : H a = some o) (h' : H b = none) : a ≠ b := by
  intro e; subst e; rw [h] at h'; cases h'

section
variable (P : Program) (w : World)
def ObjOk (H : Hp) (h : Heap) (a : Addr) : HO → Prop
  | .lst xs => xs.length ≤ sizeLine ∧ ∃ (its : List Value) (n : Nat), Vals xs its ∧ h.get? a = some { cls := .type "list", data := .seq its.toArray n }
  | .tup xs => xs.length ≤ sizeLine ∧ ∃ its : List Value, Vals xs its ∧ IsTup h a its.toArray
  | .dK kvs => kvs.length ≤ sizeLine ∧ (a == sysModules) = false ∧ ∃ vs, KV kvs vs ∧ h.DictOf (mixKind P w) a vs
  | .dT kvs => kvs.length ≤ sizeLine ∧ (a == sysModules) = false ∧ ∃ xs : List (List Key × Addr × Value),
      Paired (fun (p : List Key × V) (q : List Key × Addr × Value) => p.1 = q.1 ∧ H q.2.1 = some (.tup (p.1.map kV)) ∧ RelV p.2 q.2.2) kvs xs ∧
      ∃ o es ep, h.get? a = some o ∧ o.ExactDict ∧ o.data = .dict es ep ∧ es.toList = xs.map (entryOfKey (tupleKind (mixKind P w))) ∧ (xs.map (·.1)).Nodup
  | .set S n => h.SetOf (intKind P w) a S n
  | .ins C dx fs => H dx = some (.own a) ∧ fs.length ≤ 1000 ∧ dx ≠ a ∧ h.get? a = some (PySem.W.instObj C dx) ∧
      ∃ mA, h.Ns1 dx mA ∧ (∀ f, RelO (fs.lookup f) (mA f)) ∧ PySem.Within mA (fs.map (·.1))
  | .own _ => ∃ o, h.get? a = some o
  | .xd fs => ∃ mA, h.Ns1 a mA ∧ ∀ f, RelO (fs.lookup f) (mA f)
  | .rng lo hi => ∃ t u v, h.get? a = some { cls := .type "range", data := .fields #[.int lo t, .int hi u, .int 1 v] }
  | .frz o u => h.get? a = some o ∧ ObjOk H h a u
  | .tbl ps => h.get? a = some { cls := .none, data := .fields ps }
  | .met f x => h.get? a = some (PySem.W.methodObj (.ref f) (.ref x))
  | .ext φ => φ h ∧ (∃ o, h.get? a = some o) ∧ ∀ h1 h2 : Heap, φ h1 → (∀ o, h1.get? a = some o → h2.get? a = some o) → φ h2
/-- the abstract heap is held -/
def HOk (H : Hp) (h : Heap) : Prop := ∀ a o, H a = some o → ObjOk P w H h a o
end

section
variable {P : Program} {w : World} {H H' : Hp} {h h' : Heap} {a : Addr} {o : HO}
theorem ObjOk.lt (x : ObjOk P w H h a o) : a < h.objs.size := by
  cases o with
  | lst xs => obtain ⟨_, _, _, _, e⟩ := x; exact Heap.lt_size e
  | tup xs => obtain ⟨_, _, _, p⟩ := x; exact p.lt
  | dK kvs => obtain ⟨_, _, _, _, o, _, _, e, _⟩ := x; exact Heap.lt_size e
  | dT kvs => obtain ⟨_, _, _, _, o, _, _, e, _⟩ := x; exact Heap.lt_size e
  | set S n => obtain ⟨o, _, _, _, e, _⟩ := x; exact Heap.lt_size e
  | ins C dx fs => obtain ⟨_, _, _, e, _⟩ := x; exact Heap.lt_size e
  | own y => obtain ⟨_, e⟩ := x; exact Heap.lt_size e
  | xd fs => obtain ⟨_, ⟨_, _, _, e, _⟩, _⟩ := x; exact Heap.lt_size e
  | rng lo hi => obtain ⟨_, _, _, e⟩ := x; exact Heap.lt_size e
  | frz ob u => obtain ⟨e, _⟩ := x; exact Heap.lt_size e
  | tbl ps => exact Heap.lt_size (show h.get? a = some _ from x)
  | met f y => exact Heap.lt_size (show h.get? a = some _ from x)
  | ext φ => obtain ⟨_, ⟨_, e⟩, _⟩ := x; exact Heap.lt_size e
theorem Paired.mapP {α β : Type} {F G : α → β → Prop} : ∀ {l₁ : List α} {l₂ : List β}, Paired F l₁ l₂ → (∀ a b, F a b → G a b) → Paired G l₁ l₂
  | _, _, .nil, _ => .nil
  | _, _, .cons r t, f => .cons (f _ _ r) (Paired.mapP t f)
/-- what an object's description leans on: its own object, its own dict, the tuples -/
theorem ObjOk.stay (x : ObjOk P w H h a o) (k : ∀ b u, (b = a ∨ H b = some (.own a)) → h.get? b = some u → h'.get? b = some u)
    (ho : ∀ b, H b = some (.own a) → H' b = some (.own a)) (ht : ∀ b xs, H b = some (.tup xs) → H' b = some (.tup xs)) : ObjOk P w H' h' a o := by
  induction o with
  | lst xs => obtain ⟨z, its, n, r, e⟩ := x; exact ⟨z, its, n, r, k _ _ (.inl rfl) e⟩
  | tup xs => obtain ⟨z, its, r, ob, e, c⟩ := x; exact ⟨z, its, r, ob, k _ _ (.inl rfl) e, c⟩
  | dK kvs => obtain ⟨z, y, vs, r, ob, es, ep, e, c⟩ := x; exact ⟨z, y, vs, r, ob, es, ep, k _ _ (.inl rfl) e, c⟩
  | dT kvs =>
    obtain ⟨z, y, xs, r, ob, es, ep, e, c⟩ := x
    exact ⟨z, y, xs, Paired.mapP r fun p q z => ⟨z.1, ht _ _ z.2.1, z.2.2⟩, ob, es, ep, k _ _ (.inl rfl) e, c⟩
  | set S n => obtain ⟨ob, es, ep, t, e, c⟩ := x; exact ⟨ob, es, ep, t, k _ _ (.inl rfl) e, c⟩
  | ins C dx fs =>
    obtain ⟨d, z, ne, e, mA, ⟨od, es, ep, e2, c⟩, r⟩ := x
    exact ⟨ho _ d, z, ne, k _ _ (.inl rfl) e, mA, ⟨od, es, ep, k _ _ (.inr d) e2, c⟩, r⟩
  | own y => obtain ⟨ob, e⟩ := x; exact ⟨ob, k _ _ (.inl rfl) e⟩
  | xd fs => obtain ⟨mA, ⟨od, es, ep, e, c⟩, r⟩ := x; exact ⟨mA, ⟨od, es, ep, k _ _ (.inl rfl) e, c⟩, r⟩
  | rng lo hi => obtain ⟨t, u, v, e⟩ := x; exact ⟨t, u, v, k _ _ (.inl rfl) e⟩
  | frz ob u ih => obtain ⟨e, q⟩ := x; exact ⟨k _ _ (.inl rfl) e, ih q⟩
  | tbl ps =>
    have e : h.get? a = some { cls := .none, data := .fields ps } := x
    show h'.get? a = some { cls := .none, data := .fields ps }
    exact k a _ (.inl rfl) e
  | met f y =>
    have e : h.get? a = some (PySem.W.methodObj (.ref f) (.ref y)) := x
    show h'.get? a = some (PySem.W.methodObj (.ref f) (.ref y))
    exact k a _ (.inl rfl) e
  | ext φ => obtain ⟨p, ⟨o, e⟩, st⟩ := x; exact ⟨st _ _ p fun o q => k _ _ (.inl rfl) q, ⟨o, k _ _ (.inl rfl) e⟩, st⟩
theorem HOk.lt (x : HOk P w H h) (e : H a = some o) : a < h.objs.size := (x a o e).lt
theorem HOk.fresh (x : HOk P w H h) (e : h.objs.size ≤ a) : H a = none := by
  cases q : H a with
  | none => rfl
  | some u => exact absurd (Nat.lt_of_lt_of_le (x.lt q) e) (Nat.lt_irrefl _)
/-- every object of the heap is kept -/
theorem HOk.kept (x : HOk P w H h) (k : ∀ b u, h.get? b = some u → h'.get? b = some u) : HOk P w H h' := fun a o e =>
  (x a o e).stay (fun b u _ q => k b u q) (fun _ q => q) fun _ _ q => q
/-- a new object is laid and tracked -/
theorem HOk.laid (x : HOk P w H h) (k : ∀ b u, h.get? b = some u → h'.get? b = some u) (hp : h.objs.size ≤ a) (new : ObjOk P w (upd H a o) h' a o) : HOk P w (upd H a o) h' := fun b u e => by
  have hn := x.fresh hp
  by_cases hb : b = a
  · subst hb; rw [upd_same] at e; cases e; exact new
  · rw [upd_ne hb] at e
    exact (x b u e).stay (fun c v _ q => k c v q) (fun c q => by rw [upd_ne (ne_of_none q hn)]; exact q) fun c xs q => by rw [upd_ne (ne_of_none q hn)]; exact q
end

/-- what may be read as u: it is u, or a known u -/
def Rd (H : Hp) (a : Addr) (u : HO) : Prop := H a = some u ∨ ∃ o, H a = some (.frz o u)
theorem Rd.of {H : Hp} {a : Addr} {u : HO} (h : H a = some u) : Rd H a u := .inl h
theorem Rd.ok {P : Program} {w : World} {H : Hp} {h : Heap} {a : Addr} {u : HO} (r : Rd H a u) (x : HOk P w H h) : ObjOk P w H h a u := by
  rcases r with r | ⟨o, r⟩
  · exact x a u r
  · obtain ⟨_, q⟩ := x a _ r
    exact q
/-- what may be written -/
def Mut : Option HO → Prop
  | some (.lst _) => True
  | some (.dK _) => True
  | some (.dT _) => True
  | some (.set _ _) => True
  | some (.ins _ _ _) => True
  | some (.ext _) => True
  | _ => False
section
variable {P : Program} {w : World} {H : Hp} {h h' : Heap} {x e : Addr} {o' : HO}
/-- the object at e is changed: x itself, or the dict of the instance x -/
theorem HOk.write (ok : HOk P w H h) (mu : Mut (H x)) (he : e = x ∨ H e = some (.own x)) (k : ∀ b u, b ≠ e → h.get? b = some u → h'.get? b = some u) (heo : ∃ u, h'.get? e = some u)
    (new : ObjOk P w (upd H x o') h' x o') : HOk P w (upd H x o') h' := fun b u q => by
  have nown : ∀ c y, H c = some (.own y) → c ≠ x := fun c y r z => by subst z; rw [r] at mu; exact mu
  have ntup : ∀ c xs, H c = some (.tup xs) → c ≠ x := fun c xs r z => by subst z; rw [r] at mu; exact mu
  by_cases hb : b = x
  · subst hb; rw [upd_same] at q; cases q; exact new
  · rw [upd_ne hb] at q
    by_cases hbe : b = e
    · have q' : H b = some (.own x) := by
        rcases he with z | z
        · exact absurd (hbe.trans z) hb
        · rw [hbe]; exact z
      rw [q] at q'; cases q'
      obtain ⟨v, hv⟩ := heo
      exact ⟨v, by rw [hbe]; exact hv⟩
    · refine (ok b u q).stay (fun c v hc r => k c v ?_ r) (fun c r => by rw [upd_ne (nown c b r)]; exact r) fun c xs r => by rw [upd_ne (ntup c xs r)]; exact r
      rcases hc with rfl | hc
      · exact hbe
      · rintro rfl
        rcases he with z | z
        · exact nown c b hc z
        · rw [hc] at z; cases z; exact hb rfl
end

/-! ### kept unless tracked; of the frames at fs (the callers') the slots may change (an exception that passes writes there); of the records at ex (iterators) nothing is said -/
structure Un (fs ex : List Addr) (H H' : Hp) (h h' : Heap) : Prop where
  keep : ∀ b o, h.get? b = some o → H b = none → b ∉ fs → b ∉ ex → h'.get? b = some o
  slot : ∀ b o, h.get? b = some o → H b = none → b ∈ fs → b ∉ ex → ∃ sl, h'.get? b = some { o with slots := sl }
  free : ∀ b o, h.get? b = some o → H b = none → b ∉ ex → H' b = none
  there : ∀ b o, h.get? b = some o → b ∉ ex → ∃ o', h'.get? b = some o'
  tups : ∀ b xs, H b = some (.tup xs) → H' b = some (.tup xs)
  frzs : ∀ b o u, H b = some (.frz o u) → H' b = some (.frz o u)
  tbls : ∀ b ps, H b = some (.tbl ps) → ∃ more, H' b = some (.tbl (ps ++ more))
section
variable {fs fs' ex ex' : List Addr} {H H1 H2 : Hp} {h h1 h2 h' : Heap} {a x e : Addr} {o : HO}
theorem Un.any (u : Un fs ex H H1 h h1) {b : Addr} {ob : Obj} (q : h.get? b = some ob) (n : H b = none) (hx : b ∉ ex) : ∃ sl, h1.get? b = some { ob with slots := sl } := by
  by_cases hb : b ∈ fs
  · exact u.slot b ob q n hb hx
  · exact ⟨ob.slots, u.keep b ob q n hb hx⟩
theorem Un.trans (a : Un fs ex H H1 h h1) (b : Un fs ex H1 H2 h1 h2) : Un fs ex H H2 h h2 where
  keep := fun c ob q n hc hx => b.keep c ob (a.keep c ob q n hc hx) (a.free c ob q n hx) hc hx
  slot := fun c ob q n hc hx => by
    obtain ⟨sl, e1⟩ := a.slot c ob q n hc hx
    obtain ⟨sl', e2⟩ := b.slot c _ e1 (a.free c ob q n hx) hc hx
    exact ⟨sl', e2⟩
  free := fun c ob q n hx => by
    obtain ⟨o', e1⟩ := a.there c ob q hx
    exact b.free c o' e1 (a.free c ob q n hx) hx
  there := fun c ob q hx => by
    obtain ⟨o', e1⟩ := a.there c ob q hx
    exact b.there c o' e1 hx
  tups := fun c xs q => b.tups c xs (a.tups c xs q)
  frzs := fun c ob xs q => b.frzs c ob xs (a.frzs c ob xs q)
  tbls := fun c ps q => by
    obtain ⟨m1, e1⟩ := a.tbls c ps q
    obtain ⟨m2, e2⟩ := b.tbls c _ e1
    exact ⟨m1 ++ m2, by rw [e2, Array.append_assoc]⟩
theorem Un.kept (k : ∀ b u, h.get? b = some u → h'.get? b = some u) : Un fs ex H H h h' :=
  ⟨fun b ob q _ _ _ => k b ob q, fun b ob q _ _ _ => ⟨ob.slots, k b ob q⟩, fun _ _ _ n _ => n, fun b ob q _ => ⟨ob, k b ob q⟩, fun _ _ q => q, fun _ _ _ q => q, fun _ ps q => ⟨#[], by rw [q]; simp⟩⟩
theorem Un.refl : Un fs ex H H h h := Un.kept fun _ _ q => q
theorem Un.laid (k : ∀ b u, h.get? b = some u → h'.get? b = some u) (hp : h.objs.size ≤ a) (hn : H a = none) : Un fs ex H (upd H a o) h h' where
  keep := fun b u q _ _ _ => k b u q
  slot := fun b u q _ _ _ => ⟨u.slots, k b u q⟩
  free := fun b u q n _ => by rw [upd_ne (Nat.ne_of_lt (Nat.lt_of_lt_of_le (Heap.lt_size q) hp))]; exact n
  there := fun b u q _ => ⟨u, k b u q⟩
  tups := fun b xs q => by rw [upd_ne (ne_of_none q hn)]; exact q
  frzs := fun b u xs q => by rw [upd_ne (ne_of_none q hn)]; exact q
  tbls := fun b ps q => ⟨#[], by rw [upd_ne (ne_of_none q hn), q]; simp⟩
theorem Un.write (mu : Mut (H x)) (he : e = x ∨ H e = some (.own x)) (k : ∀ b u, b ≠ e → h.get? b = some u → h'.get? b = some u) (heo : ∃ u, h'.get? e = some u) : Un fs ex H (upd H x o) h h' := by
  have hx : ∀ b, H b = none → b ≠ x := fun b n z => by subst z; rw [n] at mu; exact mu
  have hb : ∀ b, H b = none → b ≠ e := fun b n z => by
    subst z
    rcases he with r | r
    · exact hx b n r
    · rw [n] at r; cases r
  have hm : ∀ b u, H b = some u → ¬ Mut (some u) → b ≠ x := fun b u q nm z => by subst z; rw [q] at mu; exact nm mu
  refine ⟨fun b u q n _ _ => k b u (hb b n) q, fun b u q n _ _ => ⟨u.slots, k b u (hb b n) q⟩, fun b u q n _ => by rw [upd_ne (hx b n)]; exact n, fun b u q _ => ?_,
    fun b xs q => by rw [upd_ne (hm b _ q fun z => z)]; exact q, fun b u xs q => by rw [upd_ne (hm b _ q fun z => z)]; exact q, fun b ps q => ⟨#[], by rw [upd_ne (hm b _ q fun z => z), q]; simp⟩⟩
  by_cases hbe : b = e
  · subst hbe; exact heo
  · exact ⟨u, k b u hbe q⟩
theorem Un.mono (u : Un fs ex H H1 h h1) (hs : ∀ b ∈ fs, b ∈ fs') (hx : ∀ b ∈ ex, b ∈ ex') : Un fs' ex' H H1 h h1 :=
  ⟨fun b ob q n hb he => u.keep b ob q n (fun z => hb (hs b z)) fun z => he (hx b z), fun _ _ q n _ he => u.any q n fun z => he (hx _ z), fun b ob q n he => u.free b ob q n fun z => he (hx b z), fun b ob q he => u.there b ob q fun z => he (hx b z), u.tups, u.frzs, u.tbls⟩
end

/-! ### the heap without what is tracked -/
def trk (h : Heap) (H : Hp) : List Addr := (List.range h.objs.size).filter fun a => (H a).isSome
def hidT (h : Heap) (H : Hp) : Heap := PySem.W.hideAll h (trk h H)
theorem hidT_size (h : Heap) (H : Hp) : (hidT h H).objs.size = h.objs.size := PySem.W.hideAll_size _ _
theorem hidT_get {h : Heap} {H : Hp} {b : Addr} {o : Obj} (e : h.get? b = some o) (n : H b = none) : (hidT h H).get? b = some o :=
  PySem.W.hideAll_get _ e fun hm => by
    have q : (H b).isSome = true := (List.mem_filter.mp hm).2
    rw [n] at q; simp at q
theorem of_hidT {h : Heap} {H : Hp} {b : Addr} {o : Obj} (e : (hidT h H).get? b = some o) : h.get? b = some o ∧ H b = none := by
  have e' : h.get? b = some o := PySem.W.of_hideAll (trk h H) e
  refine ⟨e', ?_⟩
  cases q : H b with
  | none => rfl
  | some x =>
    have hm : b ∈ trk h H := List.mem_filter.mpr ⟨List.mem_range.mpr (Heap.lt_size e'), by simp [q]⟩
    have z : (hidT h H).get? b = none := PySem.W.hideAll_none (trk h H) hm
    rw [z] at e; cases e

/-! ### OpenK's ledger, filled with every new object but one -/
def allNews (g h : Heap) (L : Addr) : List (Addr × Obj) := (List.range h.objs.size).filterMap fun a => if a = L ∨ (g.get? a).isSome = true then none else (h.get? a).map fun o => (a, o)
def rest (g h : Heap) (L d : Addr) : List (Addr × Obj) := (allNews g h L).filter fun p => decide (p.1 ≠ d)
end L2

namespace L2
open PySem PySem.Spec PyProof.Rows

/-- the module's facts, over the base: the heap at the law's entry without what is tracked there -/
structure Mod (K : PySem.W.Frag) (mg : Str → Option Value) (base : Heap) : Prop where
  kin : K.In base
  glob : base.Ns mainGlobals mg
  blt : ∃ mb, base.Ns builtinsNs mb ∧ ∀ x : Str, x ≠ "__name__" → mb x = bootBuiltins x
  nolimit : base.NoLimit

/-- the context: a def's body (or a comprehension's block) running. base: fixed through the whole law; s₀, H₀: the entry; outer: the frames whose slots others may change (a def's callers); stack: all frames that run;
   ex: iterators that were made ahead of the entry and are walked here (a comprehension's); fn: the names whose cells were made at the entry (a def: all; a comprehension's block: its own); calm: not within an except suite; pn: pins that every state bears; xe: what is wanted of an exception that leaves the code -/
structure Cx where
  prog : Program
  w : World
  K : PySem.W.Frag
  mg : Str → Option Value
  base : Heap
  A : Around
  N : List Str
  s_0 : Shared
  H_0 : Hp
  env : Env
  outer : List Env
  stack : List Env
  ex : List Addr
  fn : Str → Bool
  calm : Bool
  pn : List (Addr × Obj)
  xe : Value → Shared → Prop
/-- the callers' frames -/
def frs (l : List Env) : List Addr := l.filterMap (·.frame)
abbrev Cx.fs (X : Cx) : List Addr := frs X.outer

def Vis (sc : Scope) (x : Str) : Prop := sc.names.lookup x = some .local ∨ sc.names.lookup x = some .cell ∨ sc.names.lookup x = some .free
def Loc (sc : Scope) (x : Str) : Prop := sc.names.lookup x = some .local ∨ sc.names.lookup x = some .cell
def Look (env : Env) (h : Heap) (m : Str → Option Value) (x : Str) (u : Value) : Prop :=
  (env.kindOf x = some .local ∧ m x = some u) ∨ ((env.kindOf x = some .cell ∨ env.kindOf x = some .free) ∧ ∃ c, env.cells.lookup x = some c ∧ h.IsCell c (some u))

structure Cx.Ok (X : Cx) : Prop where
  mod : Mod X.K X.mg X.base
  kind : X.env.scope.kind = .function
  glob : X.env.globals = mainGlobals
  blt : X.env.builtins = builtinsNs
  above : X.s_0.heap.objs.size ≤ X.env.locals
  inj : ∀ x y c, X.env.cells.lookup x = some c → X.env.cells.lookup y = some c → x = y
  has : ∀ x, (X.env.kindOf x = some .cell ∨ X.env.kindOf x = some .free) → ∃ c, X.env.cells.lookup x = some c
  cab : ∀ x c, X.fn x = true → X.env.cells.lookup x = some c → X.s_0.heap.objs.size ≤ c
  hd : X.calm = true → X.A.handled = none
  frames : X.A.frames = some X.stack
  stk : X.stack = X.outer ∨ (X.stack = X.env :: X.outer ∧ X.env.frame = some X.env.locals)
  exf : ∀ b ∈ X.ex, b ≠ X.env.locals ∧ ∀ x c, X.env.cells.lookup x = some c → c ≠ b
  bs : ∀ b o, X.base.get? b = some o → X.s_0.heap.get? b = some o ∧ X.H_0 b = none
  bsz : X.base.objs.size ≤ X.s_0.heap.objs.size
  noex : ∀ b o, X.base.get? b = some o → b ∉ X.ex
  exfs : ∀ b ∈ X.ex, b ∉ X.fs
  funs : X.s_0.heap.FunFrames X.base X.outer
  frf : ∀ b ∈ X.fs, X.H_0 b = none

structure Inv (X : Cx) (pins : List (Addr × Obj)) (σ : List (Option V)) (H : Hp) (s : Shared) : Prop where
  ok : X.Ok
  os : s.os = X.s_0.os
  bare : AllBare s.gens
  base : Un X.fs X.ex X.H_0 H X.s_0.heap s.heap
  loc : ∃ m, s.heap.Ns X.env.locals m ∧ ∀ (i : Nat) (x : Str) (v : V), X.N[i]? = some x → σ[i]? = some (some v) → Vis X.env.scope x → ∃ u, RelV v u ∧ Look X.env s.heap m x u
  cell : ∀ x c, X.env.cells.lookup x = some c → ∃ v, s.heap.IsCell c v
  free : H X.env.locals = none
  freeC : ∀ x c, X.env.cells.lookup x = some c → H c = none
  pin : ∀ p ∈ X.pn ++ pins, s.heap.get? p.1 = some p.2 ∧ H p.1 = none ∧ p.1 ≠ X.env.locals ∧ p.1 ∉ X.fs ∧ ∀ v, p.2.data ≠ .cell v
  hok : HOk X.prog X.w H s.heap
  len : σ.length = X.N.length

section
variable {X : Cx} {pins : List (Addr × Obj)} {σ : List (Option V)} {H H' : Hp} {s : Shared} {h' : Heap}

theorem Cx.Ok.nofr (ok : X.Ok) {b : Addr} {o : Obj} (e : X.base.get? b = some o) : b ∉ X.fs := fun hb => by
  have := (ok.funs.mem hb).1
  rw [e] at this; cases this
theorem Inv.bs (I : Inv X pins σ H s) : ∀ b o, X.base.get? b = some o → s.heap.get? b = some o ∧ H b = none := fun b o e =>
  ⟨I.base.keep b o (I.ok.bs b o e).1 (I.ok.bs b o e).2 (I.ok.nofr e) (I.ok.noex b o e), I.base.free b o (I.ok.bs b o e).1 (I.ok.bs b o e).2 (I.ok.noex b o e)⟩
theorem Inv.bk (I : Inv X pins σ H s) : ∀ b o, X.base.get? b = some o → s.heap.get? b = some o := fun b o e => (I.bs b o e).1
theorem Inv.mod (I : Inv X pins σ H s) : Mod X.K X.mg X.base := I.ok.mod
theorem Inv.kIn (I : Inv X pins σ H s) : X.K.In s.heap := I.ok.mod.kin.keeps I.bk
theorem Inv.nolimit (I : Inv X pins σ H s) : s.heap.NoLimit := I.ok.mod.nolimit.keeps I.bk
theorem Inv.lt (I : Inv X pins σ H s) : X.env.locals < s.heap.objs.size := let ⟨_, hn, _⟩ := I.loc; hn.lt
theorem Inv.sz (I : Inv X pins σ H s) : X.s_0.heap.objs.size ≤ s.heap.objs.size := Nat.le_trans I.ok.above (Nat.le_of_lt I.lt)
theorem Inv.nofs (I : Inv X pins σ H s) {a : Addr} (h : s.heap.objs.size ≤ a) : a ∉ X.fs := fun hb => by
  obtain ⟨_, o, ho, _⟩ := I.ok.funs.mem hb
  exact absurd (Nat.lt_of_lt_of_le (Heap.lt_size ho) (Nat.le_trans I.sz h)) (Nat.lt_irrefl _)
theorem Inv.cne (I : Inv X pins σ H s) : ∀ x c, X.env.cells.lookup x = some c → c ≠ X.env.locals := fun x c e z => by
  obtain ⟨v, o, ho, hd⟩ := I.cell x c e
  obtain ⟨m, ⟨o', es, ep, ho', hd', _⟩, _⟩ := I.loc
  rw [z, ho'] at ho; cases ho; rw [hd'] at hd; cases hd
theorem Inv.funs (I : Inv X pins σ H s) : s.heap.FunFrames X.base X.outer := by
  have all : ∀ (l : List Env), (∀ b ∈ frs l, b ∈ X.fs) → X.s_0.heap.FunFrames X.base l → s.heap.FunFrames X.base l := by
    intro l
    induction l with
    | nil => intro _ _; trivial
    | cons env r ih =>
      intro hs hl
      obtain ⟨hk, ⟨L, o, hf, hn, ho, hd⟩, hr⟩ := hl
      have hL : L ∈ X.fs := hs L (by unfold frs; rw [List.filterMap_cons, hf]; exact List.mem_cons_self)
      obtain ⟨sl, e⟩ := I.base.slot L o ho (I.ok.frf L hL) hL fun z => I.ok.exfs L z hL
      exact ⟨hk, ⟨L, _, hf, hn, e, hd⟩, ih (fun b hb => hs b (by unfold frs; rw [List.filterMap_cons, hf]; exact List.mem_cons_of_mem _ hb)) hr⟩
  exact all X.outer (fun _ hb => hb) I.ok.funs

/-- the frames that run, for a call -/
theorem Inv.stack (I : Inv X pins σ H s) : s.heap.FunFrames X.base X.stack := by
  rcases I.ok.stk with e | ⟨e, hf⟩
  · rw [e]; exact I.funs
  · rw [e]
    obtain ⟨m, hn, _⟩ := I.loc
    refine .cons (by rw [I.ok.kind]; decide) hf hn ?_ I.funs
    exact Heap.get?_none_of_le (Nat.le_trans I.ok.bsz I.ok.above)
theorem Inv.stkSub (I : Inv X pins σ H s) : ∀ b ∈ frs X.stack, b ∈ X.env.locals :: X.fs := fun b hb => by
  rcases I.ok.stk with e | ⟨e, hf⟩
  · rw [e] at hb; exact List.mem_cons_of_mem _ hb
  · rw [e] at hb
    unfold frs at hb
    rw [List.filterMap_cons, hf] at hb
    exact hb
theorem Inv.stkFree (I : Inv X pins σ H s) : ∀ b ∈ frs X.stack, H b = none := fun b hb => by
  rcases List.mem_cons.mp (I.stkSub b hb) with e | hb
  · rw [e]; exact I.free
  · obtain ⟨_, o, ho, _⟩ := I.ok.funs.mem hb
    exact I.base.free b o ho (I.ok.frf b hb) fun z => I.ok.exfs b z hb

/-- THE STEP: the untracked objects but the frame and the records at ch are kept (the callers' frames up to slots), the frame's map is kept, the new abstract heap is held -/
theorem Inv.step {g' : Array GenState} {t' : Nat} {d' : Drawn} {ch : List Addr} (I : Inv X pins σ H s)
    (hch : ∀ b ∈ ch, (b ∈ X.ex ∨ X.s_0.heap.objs.size ≤ b) ∧ b ≠ X.env.locals ∧ (∀ x c, X.env.cells.lookup x = some c → c ≠ b) ∧ ∀ p ∈ X.pn ++ pins, p.1 ≠ b)
    (keep : ∀ b o, b ≠ X.env.locals → b ∉ X.fs → b ∉ ch → s.heap.get? b = some o → H b = none → h'.get? b = some o)
    (slot : ∀ b o, b ≠ X.env.locals → b ∈ X.fs → b ∉ ch → s.heap.get? b = some o → H b = none → ∃ sl, h'.get? b = some { o with slots := sl }) (free : ∀ b o, b ∉ ch → s.heap.get? b = some o → H b = none → H' b = none)
    (there : ∀ b o, b ∉ ch → s.heap.get? b = some o → ∃ o', h'.get? b = some o')
    (tups : ∀ b xs, H b = some (.tup xs) → H' b = some (.tup xs)) (frzs : ∀ b o u, H b = some (.frz o u) → H' b = some (.frz o u)) (tbls : ∀ b ps, H b = some (.tbl ps) → ∃ more, H' b = some (.tbl (ps ++ more)))
    (ns : ∀ m, s.heap.Ns X.env.locals m → h'.Ns X.env.locals m) (hok : HOk X.prog X.w H' h') (hg : AllBare g') :
    Inv X pins σ H' { s with heap := h', gens := g', drawn := d', toks := t' } := by
  have neL : ∀ b o, X.s_0.heap.get? b = some o → b ≠ X.env.locals := fun b o e => Nat.ne_of_lt (Nat.lt_of_lt_of_le (Heap.lt_size e) I.ok.above)
  have neC : ∀ b o, X.s_0.heap.get? b = some o → b ∉ X.ex → b ∉ ch := fun b o e hx hb => by
    rcases (hch b hb).1 with z | z
    · exact hx z
    · exact absurd (Nat.lt_of_lt_of_le (Heap.lt_size e) z) (Nat.lt_irrefl _)
  have cellK : ∀ x c, X.env.cells.lookup x = some c → ∀ v, s.heap.IsCell c v → h'.IsCell c v := fun x c e v ⟨o, ho, hd⟩ => by
    have nch : c ∉ ch := fun z => (hch c z).2.2.1 x c e rfl
    by_cases hc : c ∈ X.fs
    · obtain ⟨sl, q⟩ := slot c o (I.cne x c e) hc nch ho (I.freeC x c e)
      exact ⟨_, q, hd⟩
    · exact ⟨o, keep c o (I.cne x c e) hc nch ho (I.freeC x c e), hd⟩
  refine ⟨I.ok, I.os, hg, ⟨fun b o e n hb hx => ?_, fun b o e n hb hx => ?_, fun b o e n hx => ?_, fun b o e hx => ?_, fun b xs e => tups b xs (I.base.tups b xs e), fun b o xs e => frzs b o xs (I.base.frzs b o xs e), fun b ps e => ?_⟩, ?_, fun x c e => ?_, ?_, fun x c e => ?_, fun p hp => ?_, hok, I.len⟩
  · exact keep b o (neL b o e) hb (neC b o e hx) (I.base.keep b o e n hb hx) (I.base.free b o e n hx)
  · obtain ⟨sl, e1⟩ := I.base.slot b o e n hb hx
    obtain ⟨sl', e2⟩ := slot b _ (neL b o e) hb (neC b o e hx) e1 (I.base.free b o e n hx)
    exact ⟨sl', e2⟩
  · obtain ⟨o', e1⟩ := I.base.there b o e hx
    exact free b o' (neC b o e hx) e1 (I.base.free b o e n hx)
  · obtain ⟨o', e1⟩ := I.base.there b o e hx
    exact there b o' (neC b o e hx) e1
  · obtain ⟨m1, e1⟩ := I.base.tbls b ps e
    obtain ⟨m2, e2⟩ := tbls b _ e1
    exact ⟨m1 ++ m2, by rw [e2, Array.append_assoc]⟩
  · obtain ⟨m, hn, hl⟩ := I.loc
    refine ⟨m, ns m hn, fun i x v e1 e2 e3 => ?_⟩
    obtain ⟨u, r, l⟩ := hl i x v e1 e2 e3
    refine ⟨u, r, ?_⟩
    rcases l with l | ⟨k, c, e, z⟩
    · exact .inl l
    · exact .inr ⟨k, c, e, cellK x c e _ z⟩
  · obtain ⟨v, z⟩ := I.cell x c e
    exact ⟨v, cellK x c e v z⟩
  · obtain ⟨m, ⟨o, _, _, ho, _⟩, _⟩ := I.loc
    exact free _ o (fun z => (hch _ z).2.1 rfl) ho I.free
  · obtain ⟨v, o, ho, hd⟩ := I.cell x c e
    exact free c o (fun z => (hch c z).2.2.1 x c e rfl) ho (I.freeC x c e)
  · obtain ⟨e, n, ne, nf, d⟩ := I.pin p hp
    have nch : p.1 ∉ ch := fun z => (hch p.1 z).2.2.2 p hp rfl
    exact ⟨keep p.1 p.2 ne nf nch e n, free p.1 p.2 nch e n, ne, nf, d⟩
/-- .. where the frame's own object is kept too -/
theorem Inv.un {t' : Nat} (I : Inv X pins σ H s) (u : Un X.fs [] H H' s.heap h') (hok : HOk X.prog X.w H' h') : Inv X pins σ H' { s with heap := h', toks := t' } := by
  obtain ⟨m, ⟨o, es, ep, ho, r⟩, _⟩ := id I.loc
  obtain ⟨sl, hL⟩ := u.any ho I.free (by simp)
  exact I.step (g' := s.gens) (d' := s.drawn) (ch := []) (fun _ z => nomatch z) (fun b o _ hb _ e n => u.keep b o e n hb (by simp)) (fun b o _ hb _ e n => u.slot b o e n hb (by simp)) (fun b o _ e n => u.free b o e n (by simp)) (fun b o _ e => u.there b o e (by simp)) u.tups u.frzs u.tbls (fun m' hm => by
    obtain ⟨o', es', ep', ho', r'⟩ := hm
    rw [ho] at ho'; cases ho'
    exact ⟨_, es', ep', hL, r'⟩) hok I.bare
/-- behind a call (or a comprehension's block): the slots of this frame may have changed too, the records at ch may have turned -/
theorem Inv.call {g' : Array GenState} {t' : Nat} {d' : Drawn} {ch : List Addr} (I : Inv X pins σ H s) (u : Un (frs X.stack) ch H H' s.heap h') (hok : HOk X.prog X.w H' h') (hg : AllBare g')
    (hch : ∀ b ∈ ch, (b ∈ X.ex ∨ X.s_0.heap.objs.size ≤ b) ∧ b ≠ X.env.locals ∧ (∀ x c, X.env.cells.lookup x = some c → c ≠ b) ∧ ∀ p ∈ X.pn ++ pins, p.1 ≠ b) :
    Inv X pins σ H' { s with heap := h', gens := g', drawn := d', toks := t' } := by
  obtain ⟨m, ⟨o, es, ep, ho, r⟩, _⟩ := id I.loc
  obtain ⟨sl, hL⟩ := u.any ho I.free fun z => (hch _ z).2.1 rfl
  exact I.step (ch := ch) hch (fun b o hL hb hc e n => u.keep b o e n (fun z => (List.mem_cons.mp (I.stkSub b z)).elim hL hb) hc) (fun b o _ _ hc e n => u.any e n hc) (fun b o hc e n => u.free b o e n hc) (fun b o hc e => u.there b o e hc) u.tups u.frzs u.tbls (fun m' hm => by
    obtain ⟨o', es', ep', ho', r'⟩ := hm
    rw [ho] at ho'; cases ho'
    exact ⟨_, es', ep', hL, r'⟩) hok hg
/-- an untracked record of ours (an iterator) has turned -/
theorem Inv.turned {t' : Nat} {it : Addr} (I : Inv X pins σ H s) (k : ∀ b o, b ≠ it → s.heap.get? b = some o → h'.get? b = some o) (hn : H it = none) (hL : it ≠ X.env.locals)
    (h1 : it ∈ X.ex ∨ X.s_0.heap.objs.size ≤ it) (h2 : ∀ x c, X.env.cells.lookup x = some c → c ≠ it) (h3 : ∀ p ∈ X.pn ++ pins, p.1 ≠ it) : Inv X pins σ H { s with heap := h', toks := t' } := by
  have nit : ∀ b u, H b = some u → b ≠ it := fun b u e z => by rw [z, hn] at e; cases e
  refine I.step (g' := s.gens) (d' := s.drawn) (ch := [it]) (fun b hb => ?_) (fun b o _ _ hc e _ => k b o (fun z => hc (by simp [z])) e) (fun b o _ _ hc e _ => ⟨o.slots, k b o (fun z => hc (by simp [z])) e⟩) (fun _ _ _ _ n => n)
    (fun b o hc e => ⟨o, k b o (fun z => hc (by simp [z])) e⟩) (fun _ _ e => e) (fun _ _ _ e => e) (fun b ps e => ⟨#[], by rw [e]; simp⟩) (fun m hm => ?_) (fun b u e => ?_) I.bare
  · have e : b = it := by simpa using hb
    subst e
    exact ⟨h1, hL, h2, h3⟩
  · obtain ⟨o, es, ep, ho, r⟩ := hm
    exact ⟨o, es, ep, k _ o (Ne.symm hL) ho, r⟩
  · refine (I.hok b u e).stay (fun c v hc q => k c v ?_ q) (fun _ q => q) fun _ _ q => q
    rcases hc with z | z
    · rw [z]; exact nit b u e
    · exact nit c _ z
theorem Inv.tok (I : Inv X pins σ H s) (t : Nat) : Inv X pins σ H { s with toks := t } := I.un (h' := s.heap) (t' := t) Un.refl I.hok
/-- all objects kept -/
theorem Inv.kept {t' : Nat} (I : Inv X pins σ H s) (k : ∀ b u, s.heap.get? b = some u → h'.get? b = some u) : Inv X pins σ H { s with heap := h', toks := t' } := I.un (Un.kept k) (I.hok.kept k)
/-- a new object laid and tracked -/
theorem Inv.laid {a : Addr} {o : HO} {t' : Nat} (I : Inv X pins σ H s) (k : ∀ b u, s.heap.get? b = some u → h'.get? b = some u) (hp : s.heap.objs.size ≤ a) (new : ObjOk X.prog X.w (upd H a o) h' a o) :
    Inv X pins σ (upd H a o) { s with heap := h', toks := t' } := I.un (Un.laid k hp (I.hok.fresh hp)) (I.hok.laid k hp new)
/-- an object written -/
theorem Inv.write {x e : Addr} {o : HO} {t' : Nat} (I : Inv X pins σ H s) (mu : Mut (H x)) (he : e = x ∨ H e = some (.own x)) (k : ∀ b u, b ≠ e → s.heap.get? b = some u → h'.get? b = some u) (heo : ∃ u, h'.get? e = some u)
    (new : ObjOk X.prog X.w (upd H x o) h' x o) : Inv X pins σ (upd H x o) { s with heap := h', toks := t' } := I.un (Un.write mu he k heo) (I.hok.write mu he k heo new)
/-- forgetting slots, pins -/
theorem Inv.weak {σ' : List (Option V)} (I : Inv X pins σ H s) (hl : σ'.length = σ.length) (w : ∀ (i : Nat) v, σ'[i]? = some (some v) → σ[i]? = some (some v)) : Inv X pins σ' H s :=
  ⟨I.ok, I.os, I.bare, I.base, let ⟨m, hn, hl'⟩ := I.loc; ⟨m, hn, fun i x v e1 e2 e3 => hl' i x v e1 (w i v e2) e3⟩, I.cell, I.free, I.freeC, I.pin, I.hok, hl.trans I.len⟩
theorem Inv.pins_of {pins' : List (Addr × Obj)} (I : Inv X pins σ H s) (h : ∀ p ∈ pins', s.heap.get? p.1 = some p.2 ∧ H p.1 = none ∧ p.1 ≠ X.env.locals ∧ p.1 ∉ X.fs ∧ ∀ v, p.2.data ≠ .cell v) : Inv X pins' σ H s :=
  ⟨I.ok, I.os, I.bare, I.base, I.loc, I.cell, I.free, I.freeC, fun p hp => (List.mem_append.mp hp).elim (fun z => I.pin p (List.mem_append_left _ z)) (h p), I.hok, I.len⟩

theorem nodup_ix {N : List Str} (hN : N.Nodup) {i j : Nat} {x : Str} (a : N[i]? = some x) (b : N[j]? = some x) : i = j := by
  obtain ⟨h1, e1⟩ := List.getElem?_eq_some_iff.mp a
  obtain ⟨h2, e2⟩ := List.getElem?_eq_some_iff.mp b
  exact (List.getElem_inj hN).mp (e1.trans e2.symm)

/-- a name is stored; what changed -/
theorem store_ok2 {M : Model} {A : Around} {E : Value → Shared → Prop} {i : Nat} {x : Str} {v : V} {u : Value} {Q : Unit → Shared → Prop} (I : Inv X pins σ H s) (hN : X.N.Nodup) (hi : X.N[i]? = some x) (hx : Loc X.env.scope x) (r : RelV v u)
    (h : ∀ s', Inv X pins (σ.set i (some v)) H s' → (∃ a, Heap.SameBut a s.heap s'.heap ∧ (a = X.env.locals ∨ X.env.cells.lookup x = some a)) → Q () s') (hf : X.fn x = true ∨ X.env.scope.names.lookup x = some .local := by first | exact .inl rfl | exact .inr rfl | assumption) : wpAny M A (storeName X.env x u) Q E s := by
  obtain ⟨m, hn, hl⟩ := id I.loc
  have hcls : (X.env.scope.kind == .class || (X.env.scope.kind == .module && X.env.locals != X.env.globals)) = false := by rw [I.ok.kind]; rfl
  have hiσ : i < σ.length := by rw [I.len]; exact (List.getElem?_eq_some_iff.mp hi).1
  have cne := I.cne
  have tracked : ∀ {a : Addr} {h' : Heap}, (∃ o, s.heap.get? a = some o ∧ H a = none) → Heap.SameBut a s.heap h' → HOk X.prog X.w H h' := fun {a h'} ha hs b ob e => by
    obtain ⟨_, _, hfree⟩ := ha
    refine (I.hok b ob e).stay (fun c w' hc q => (hs.2 c ?_).trans q) (fun _ q => q) fun _ _ q => q
    rintro rfl
    rcases hc with rfl | hc
    · rw [hfree] at e; cases e
    · rw [hfree] at hc; cases hc
  rcases hx with hk | hk
  · refine wpAny_storeName_local hk hn (fun h' hn' hs => ?_) hcls
    obtain ⟨oL, _, _, hoL, _⟩ := id hn
    refine h _ ⟨I.ok, I.os, I.bare, ⟨fun b o e n hb hx => ?_, fun b o e n hb hx => ?_, I.base.free, fun b o e hx => ?_, I.base.tups, I.base.frzs, I.base.tbls⟩, ⟨_, hn', fun j y v' e1 e2 e3 => ?_⟩, fun y c e => ?_, I.free, I.freeC, fun p hp => ?_, tracked ⟨oL, hoL, I.free⟩ hs, by simpa using I.len⟩ ⟨_, hs, .inl rfl⟩
    · exact (hs.2 b (Nat.ne_of_lt (Nat.lt_of_lt_of_le (Heap.lt_size e) I.ok.above))).trans (I.base.keep b o e n hb hx)
    · obtain ⟨sl, e1⟩ := I.base.slot b o e n hb hx
      exact ⟨sl, (hs.2 b (Nat.ne_of_lt (Nat.lt_of_lt_of_le (Heap.lt_size e) I.ok.above))).trans e1⟩
    · obtain ⟨o', e1⟩ := I.base.there b o e hx
      exact ⟨o', (hs.2 b (Nat.ne_of_lt (Nat.lt_of_lt_of_le (Heap.lt_size e) I.ok.above))).trans e1⟩
    · by_cases hj : j = i
      · subst hj
        rw [hi] at e1; cases e1
        rw [List.getElem?_set_self hiσ] at e2
        cases e2
        exact ⟨u, r, .inl ⟨hk, by simp⟩⟩
      · rw [List.getElem?_set_ne (Ne.symm hj)] at e2
        obtain ⟨u', r', q⟩ := hl j y v' e1 e2 e3
        refine ⟨u', r', ?_⟩
        rcases q with ⟨k, e⟩ | ⟨k, c, e, z⟩
        · refine .inl ⟨k, ?_⟩
          have : y ≠ x := fun e => hj (nodup_ix hN e1 (e ▸ hi))
          simp [this, e]
        · exact .inr ⟨k, c, e, z.sameBut hs (cne y c e)⟩
    · obtain ⟨w', z⟩ := I.cell y c e
      exact ⟨w', z.sameBut hs (cne y c e)⟩
    · obtain ⟨e, n, ne, nf, d⟩ := I.pin p hp
      exact ⟨(hs.2 p.1 ne).trans e, n, ne, nf, d⟩
  · have hfn : X.fn x = true := by
      rcases hf with z | z
      · exact z
      · rw [z] at hk; cases hk
    obtain ⟨c, hc⟩ := I.ok.has x (.inl hk)
    obtain ⟨w', z⟩ := I.cell x c hc
    refine wpAny_storeName_cell I.ok.kind hk hc z (fun h' hc' hs => ?_)
    obtain ⟨oc, hoc, hocd⟩ := id z
    refine h { s with heap := h' } ⟨I.ok, I.os, I.bare, ⟨fun b o e n hb hx => ?_, fun b o e n hb hx => ?_, I.base.free, fun b o e hx => ?_, I.base.tups, I.base.frzs, I.base.tbls⟩, ⟨m, hn.sameBut hs (Ne.symm (cne x c hc)), fun j y v' e1 e2 e3 => ?_⟩, fun y c' e => ?_, I.free, I.freeC, fun p hp => ?_, tracked ⟨oc, hoc, I.freeC x c hc⟩ hs, by simpa using I.len⟩ ⟨c, hs, .inr hc⟩
    · exact (hs.2 b (Nat.ne_of_lt (Nat.lt_of_lt_of_le (Heap.lt_size e) (I.ok.cab x c hfn hc)))).trans (I.base.keep b o e n hb hx)
    · obtain ⟨sl, e1⟩ := I.base.slot b o e n hb hx
      exact ⟨sl, (hs.2 b (Nat.ne_of_lt (Nat.lt_of_lt_of_le (Heap.lt_size e) (I.ok.cab x c hfn hc)))).trans e1⟩
    · obtain ⟨o', e1⟩ := I.base.there b o e hx
      exact ⟨o', (hs.2 b (Nat.ne_of_lt (Nat.lt_of_lt_of_le (Heap.lt_size e) (I.ok.cab x c hfn hc)))).trans e1⟩
    · by_cases hj : j = i
      · subst hj
        rw [hi] at e1; cases e1
        rw [List.getElem?_set_self hiσ] at e2
        cases e2
        exact ⟨u, r, .inr ⟨.inl hk, c, hc, hc'⟩⟩
      · rw [List.getElem?_set_ne (Ne.symm hj)] at e2
        obtain ⟨u', r', q⟩ := hl j y v' e1 e2 e3
        refine ⟨u', r', ?_⟩
        rcases q with q | ⟨k, c', e, z'⟩
        · exact .inl q
        · refine .inr ⟨k, c', e, z'.sameBut hs ?_⟩
          rintro rfl
          exact hj (nodup_ix hN e1 (I.ok.inj _ _ _ e hc ▸ hi))
    · by_cases hcc : c' = c
      · subst hcc; exact ⟨_, hc'⟩
      · obtain ⟨w2, z2⟩ := I.cell y c' e
        exact ⟨w2, z2.sameBut hs hcc⟩
    · obtain ⟨e, n, ne, nf, d⟩ := I.pin p hp
      refine ⟨(hs.2 p.1 ?_).trans e, n, ne, nf, d⟩
      intro q
      rw [q, hoc] at e
      have q' : oc = p.2 := Option.some.inj e
      exact d w' (by rw [← q']; exact hocd)
theorem store_ok {M : Model} {A : Around} {E : Value → Shared → Prop} {i : Nat} {x : Str} {v : V} {u : Value} {Q : Unit → Shared → Prop} (I : Inv X pins σ H s) (hN : X.N.Nodup) (hi : X.N[i]? = some x) (hx : Loc X.env.scope x) (r : RelV v u)
    (h : ∀ s', Inv X pins (σ.set i (some v)) H s' → Q () s') (hf : X.fn x = true ∨ X.env.scope.names.lookup x = some .local := by first | exact .inl rfl | exact .inr rfl | assumption) : wpAny M A (storeName X.env x u) Q E s :=
  store_ok2 I hN hi hx r (fun s' I' _ => h s' I') hf
/-- behind a call or a block, the state as it is -/
theorem Inv.call' {s' : Shared} {ch : List Addr} (I : Inv X pins σ H s) (ho : s'.os = s.os) (u : Un (frs X.stack) ch H H' s.heap s'.heap) (hok : HOk X.prog X.w H' s'.heap) (hg : AllBare s'.gens)
    (hch : ∀ b ∈ ch, (b ∈ X.ex ∨ X.s_0.heap.objs.size ≤ b) ∧ b ≠ X.env.locals ∧ (∀ x c, X.env.cells.lookup x = some c → c ≠ b) ∧ ∀ p ∈ X.pn ++ pins, p.1 ≠ b) : Inv X pins σ H' s' := by
  obtain ⟨h', g', d', t', o'⟩ := s'
  have e : o' = s.os := ho
  subst e
  exact I.call (g' := g') (t' := t') (d' := d') u hok hg hch
end

/-! ### the judgements -/
/-- an exception: its class, its own dict's address (where it has one), the abstract heap behind it -/
abbrev XK := Value → Option Addr → Hp → Prop
abbrev St := List (Option V)
abbrev VK := V → Hp → Prop
/-- an expression's reading; a test's; an argument list's -/
abbrev TE := St → Hp → VK → Prop
abbrev TT := St → Hp → (Bool → Hp → Prop) → Prop
abbrev TA := St → Hp → (List V → Hp → Prop) → Prop
/-- what is wanted behind a statement -/
structure Ends where
  nx : St → Hp → Prop
  rt : VK
  bk : St → Hp → Prop := fun _ _ => False
  ct : St → Hp → Prop := fun _ _ => False
abbrev TS := Ends → St → Hp → Prop

def EP (X : Cx) (pins : List (Addr × Obj)) (σ : St) (Q : VK) (u : Value) (s' : Shared) : Prop := ∃ v H', Inv X pins σ H' s' ∧ RelV v u ∧ Q v H'
def TP (X : Cx) (pins : List (Addr × Obj)) (σ : St) (Q : Bool → Hp → Prop) (b : Bool) (s' : Shared) : Prop := ∃ H', Inv X pins σ H' s' ∧ Q b H'
def AP (X : Cx) (pins : List (Addr × Obj)) (σ : St) (Q : List V → Hp → Prop) (us : List Value) (s' : Shared) : Prop := ∃ vs H', Inv X pins σ H' s' ∧ Vals vs us ∧ Q vs H'
def SP (X : Cx) (pins : List (Addr × Obj)) (D : Ends) (f : Flow) (s' : Shared) : Prop :=
  match f with
  | .next => ∃ σ' H', Inv X pins σ' H' s' ∧ D.nx σ' H'
  | .brk => ∃ σ' H', Inv X pins σ' H' s' ∧ D.bk σ' H'
  | .cont => ∃ σ' H', Inv X pins σ' H' s' ∧ D.ct σ' H'
  | .ret u => ∃ v σ' H', Inv X pins σ' H' s' ∧ RelV v u ∧ D.rt v H'

def PE (X : Cx) (e : Expr) (t : TE) : Prop :=
  ∀ (pins : List (Addr × Obj)) (s : Shared) (σ : St) (H : Hp) (Q : VK), Inv X pins σ H s → t σ H Q → wpAny (model X.prog X.w) X.A (eval e X.env) (EP X pins σ Q) X.xe s
def PT (X : Cx) (e : Expr) (t : TT) : Prop :=
  ∀ (pins : List (Addr × Obj)) (s : Shared) (σ : St) (H : Hp) (Q : Bool → Hp → Prop), Inv X pins σ H s → t σ H Q → wpAny (model X.prog X.w) X.A (isTrue e X.env (eval e X.env)) (TP X pins σ Q) X.xe s
/-- a test whatever its 'whole' is (and, or) -/
def PW (X : Cx) (e : Expr) (t : TT) : Prop :=
  ∀ (whole : Sem Value) (pins : List (Addr × Obj)) (s : Shared) (σ : St) (H : Hp) (Q : Bool → Hp → Prop), Inv X pins σ H s → t σ H Q → wpAny (model X.prog X.w) X.A (isTrue e X.env whole) (TP X pins σ Q) X.xe s
theorem PW.pt {X : Cx} {e : Expr} {t : TT} (h : PW X e t) : PT X e t := h _
/-- an argument list (no star), from the left -/
def PA (X : Cx) (es : List Expr) (t : TA) : Prop :=
  ∀ (pos : Pos) (pins : List (Addr × Obj)) (s : Shared) (σ : St) (H : Hp) (Q : List V → Hp → Prop), Inv X pins σ H s → t σ H Q → wpAny (model X.prog X.w) X.A (spliced (backTo pos (starEach es X.env))) (AP X pins σ Q) X.xe s
def PS (X : Cx) (st : Stmt) (t : TS) : Prop :=
  ∀ (pins : List (Addr × Obj)) (s : Shared) (σ : St) (H : Hp) (D : Ends), Inv X pins σ H s → t D σ H → wpAny (model X.prog X.w) X.A (exec st X.env) (SP X pins D) X.xe s
def PSs (X : Cx) (st : List Stmt) (t : TS) : Prop :=
  ∀ (pins : List (Addr × Obj)) (s : Shared) (σ : St) (H : Hp) (D : Ends), Inv X pins σ H s → t D σ H → wpAny (model X.prog X.w) X.A (execs st X.env) (SP X pins D) X.xe s
/-- weaken the end -/
theorem thn {α : Type} {t : Sem α} {Q Q' : α → Shared → Prop} {M : Model} {A : Around} {E : Value → Shared → Prop} {s : Shared} (h : wpAny M A t Q E s) (hQ : ∀ a s, Q a s → Q' a s) : wpAny M A t Q' E s := wpAny_mono h hQ fun _ _ x => x
end L2

namespace L2
open PySem PySem.Spec PyProof.Rows
section
variable {X : Cx}

/-! ### names and constants -/
def tVar (i : Nat) : TE := fun σ H Q => ∃ v, σ[i]? = some (some v) ∧ Q v H
def tC (v : V) : TE := fun _ H Q => Q v H
theorem pe_var {i : Nat} {x : Str} {pos : Pos} (hN : X.N[i]? = some x) (hv : Vis X.env.scope x) (hd : (x == ("__debug__" : Str)) = false := by decide) (hcd : (x == ("__classdict__" : Str)) = false := by decide) : PE X (.Name x pos) (tVar i) := by
  intro pins s σ H Q I h
  obtain ⟨v, e, h⟩ := h
  obtain ⟨m, hn, hl⟩ := I.loc
  obtain ⟨u, r, l⟩ := hl i x v hN e hv
  have fin : EP X pins σ Q u s := ⟨v, H, I, r, h⟩
  rcases l with ⟨hk, hm⟩ | ⟨hk, c, hc, hcell⟩
  · exact wpAny_Name (wpAny_loadName_local I.ok.kind hk hn hm fin) hd
  · rcases hk with hk | hk
    · exact wpAny_Name (wpAny_loadName_cell I.ok.kind hk hc hcell fin) hd
    · exact wpAny_Name (wpAny_loadName_free I.ok.kind hk hc hcell fin hcd) hd
theorem pe_int {i j pos} : PE X (.Constant (.int i) j pos) (tC (.int i)) := fun _ _ _ H _ I h => wpAny_Constant_int ⟨.int i, H, I.tok _, ⟨_, rfl⟩, h⟩
theorem pe_non {j pos} : PE X (.Constant .none j pos) (tC .non) := fun _ _ _ H _ I h => Constant_none ⟨.non, H, I, rfl, h⟩
/-- a global name of the def -/
def Gl (X : Cx) (x : Str) : Prop := X.env.kindOf x = some .globalImplicit
theorem ld_glob {E : Value → Shared → Prop} {pins : List (Addr × Obj)} {s : Shared} {σ : St} {H : Hp} {x : Str} {u : Value} {pos : Pos} {Q : Value → Shared → Prop} (I : Inv X pins σ H s) (hg : Gl X x) (hm : X.mg x = some u) (h : Q u s)
    (hd : (x == ("__debug__" : Str)) = false := by decide) : wpAny (model X.prog X.w) X.A (eval (.Name x pos) X.env) Q E s :=
  Calls.Name_function_global I.ok.kind hg (Calls.loadGlobal_global (by rw [I.ok.glob]; exact I.mod.glob.keeps I.bk) hm h) hd
theorem ld_blt {E : Value → Shared → Prop} {pins : List (Addr × Obj)} {s : Shared} {σ : St} {H : Hp} {x : Str} {u : Value} {pos : Pos} {Q : Value → Shared → Prop} (I : Inv X pins σ H s) (hg : Gl X x) (hm : X.mg x = none) (hv : bootBuiltins x = some u) (h : Q u s)
    (hn : x ≠ "__name__" := by decide) (hd : (x == ("__debug__" : Str)) = false := by decide) : wpAny (model X.prog X.w) X.A (eval (.Name x pos) X.env) Q E s := by
  obtain ⟨mb, h1, h2⟩ := I.mod.blt
  exact Calls.Name_function_global I.ok.kind hg (Calls.loadGlobal_builtin (by rw [I.ok.glob]; exact I.mod.glob.keeps I.bk) hm (by rw [I.ok.blt]; exact h1.keeps I.bk) ((h2 x hn).trans hv) h) hd
/-- a module's constant, a class, a function, as a value -/
theorem pe_glob {x : Str} {v : V} {u : Value} {pos : Pos} (hg : Gl X x) (hm : X.mg x = some u) (r : RelV v u) (hd : (x == ("__debug__" : Str)) = false := by decide) : PE X (.Name x pos) (tC v) :=
  fun _ _ _ H _ I h => ld_glob I hg hm ⟨v, H, I, r, h⟩ hd
/-! ### arithmetic -/
variable {a b : Expr} {ta tb : TE} {pos : Pos}
/-! ### comparisons -/
def PC (X : Cx) (op : CmpOp) (a b : Expr) (t : TE) : Prop :=
  ∀ (pins : List (Addr × Obj)) (s : Shared) (σ : St) (H : Hp) (Q : VK), Inv X pins σ H s → t σ H Q →
    wpAny (model X.prog X.w) X.A (eval a X.env) (fun v s₁ => wpAny (model X.prog X.w) X.A (eval b X.env) (fun u s₂ => wpAny (model X.prog X.w) X.A (compareOp op v u) (EP X pins σ Q) X.xe s₂) X.xe s₁) X.xe s
theorem nobehind (b : Expr) {op : CmpOp} (h : op ≠ .In) (h2 : op ≠ .NotIn) : behindInMarks op b = false := by
  have e1 : (op == CmpOp.In) = false := by cases op <;> first | rfl | exact absurd rfl h
  have e2 : (op == CmpOp.NotIn) = false := by cases op <;> first | rfl | exact absurd rfl h2
  cases b <;> simp [behindInMarks, e1, e2]
/-- is None -/
def tIsN (ta : TE) : TE := fun σ H Q => ta σ H fun x H1 => Q (.bl (decide (x = .non))) H1
def tNotN (ta : TE) : TE := fun σ H Q => ta σ H fun x H1 => Q (.bl (!decide (x = .non))) H1
theorem RelV.none_iff {x : V} {v : Value} (r : RelV x v) : (v == Value.none) = decide (x = .non) := by
  cases x with
  | non => cases r; rfl
  | bl _ => cases r; rfl
  | int _ => obtain ⟨t, rfl⟩ := r; rfl
  | str _ => obtain ⟨t, rfl⟩ := r; rfl
  | byt _ => obtain ⟨t, rfl⟩ := r; rfl
  | flt _ => obtain ⟨t, rfl⟩ := r; rfl
  | ref _ => cases r; rfl
  | ty _ => cases r; rfl
theorem pc_isN {j pos'} (ha : PE X a ta) : PC X .Is a (.Constant .none j pos') (tIsN ta) := by
  intro pins s σ H Q I h
  refine thn (ha pins s σ H _ I h) fun v s1 ⟨x, H1, I1, r1, q1⟩ => ?_
  exact Constant_none (is_none_gen ⟨.bl _, H1, I1, by rw [r1.none_iff]; rfl, q1⟩)
theorem pc_notN {j pos'} (ha : PE X a ta) : PC X .IsNot a (.Constant .none j pos') (tNotN ta) := by
  intro pins s σ H Q I h
  refine thn (ha pins s σ H _ I h) fun v s1 ⟨x, H1, I1, r1, q1⟩ => ?_
  exact Constant_none (isnot_none_gen ⟨.bl _, H1, I1, by rw [r1.none_iff]; rfl, q1⟩)
/-- a comparison as a value, as a test -/
def tB (t : TE) : TT := fun σ H Q => t σ H fun x H1 => ∃ c, x = .bl c ∧ Q c H1
theorem pt_cmp {op : CmpOp} {t : TE} (h : PC X op a b t) (h1 : behindInMarks op b = false := by first | exact nobehind _ (by decide) (by decide) | rfl) : PT X (.Compare a [op] [b] pos) (tB t) := by
  intro pins s σ H Q I hw
  refine wpAny_isTrue_Compare1 (thn (h pins s σ H _ I hw) fun v s1 h1 => thn h1 fun u s2 h2 => thn h2 fun c s3 ⟨x, H1, I1, r1, q1⟩ => ?_) h1
  obtain ⟨d, rfl, q⟩ := q1
  cases r1
  exact wpAny_truthy_bool ⟨H1, I1, q⟩
/-- an expression whose value is a bool, as a test -/
theorem pt_val {e : Expr} {t : TE} (h : PE X e t) (he : ∀ whole, isTrue e X.env whole = (do let v ← whole; standAt e.pos; holding [v] (truthy v)) := by intro _; rfl) : PT X e (tB t) := by
  intro pins s σ H Q I hw
  refine isTrue_plain (thn (h pins s σ H _ I hw) fun v s1 ⟨x, H1, I1, r1, q1⟩ => ?_) (he _)
  obtain ⟨d, rfl, q⟩ := q1
  cases r1
  exact wpAny_truthy_bool ⟨H1, I1, q⟩

/-! ### and, or, not -/
variable {tA tB' : TT} {rest : List Expr}
def tOr (t u : TT) : TT := fun σ H Q => t σ H fun c H1 => if c = true then Q true H1 else u σ H1 Q
def tNot (t : TT) : TT := fun σ H Q => t σ H fun c H1 => Q (!c) H1
theorem pw_or1 (ha : PT X a tA) : PW X (.BoolOp .Or [a] pos) tA := by
  intro wh pins s σ H Q I h
  refine isTrue_or (thn (ha pins s σ H Q I h) fun c s1 e => ?_)
  cases c with
  | false => exact isTrue_or_nil e
  | true => exact e
theorem pw_or (ha : PT X a tA) (hb : PW X (.BoolOp .Or (b :: rest) pos) tB') : PW X (.BoolOp .Or (a :: b :: rest) pos) (tOr tA tB') := by
  intro wh pins s σ H Q I h
  refine isTrue_or (thn (ha pins s σ H _ I h) fun c s1 ⟨H1, I1, q1⟩ => ?_)
  cases c with
  | true => exact ⟨H1, I1, q1⟩
  | false => exact hb wh pins s1 σ H1 Q I1 q1
theorem pt_not (ha : PT X a tA) : PT X (.UnaryOp .Not a pos) (tNot tA) := by
  intro pins s σ H Q I h
  exact isTrue_not (ha pins s σ H (fun c H1 => Q (!c) H1) I h)
/-- .. as values (bools) -/
def tAndV (ta tb : TE) : TE := fun σ H Q => ta σ H fun x H1 => ∃ c, x = .bl c ∧ if c = true then tb σ H1 Q else Q (.bl false) H1
def tOrV (ta tb : TE) : TE := fun σ H Q => ta σ H fun x H1 => ∃ c, x = .bl c ∧ if c = true then Q (.bl true) H1 else tb σ H1 Q
theorem pe_one {op} {t : TE} (h : PE X a t) : PE X (.BoolOp op [a] pos) t := fun pins s σ H Q I hw => BoolOp_one (h pins s σ H Q I hw)
theorem pe_and (ha : PE X a ta) (hb : PE X (.BoolOp .And (b :: rest) pos) tb) : PE X (.BoolOp .And (a :: b :: rest) pos) (tAndV ta tb) := by
  intro pins s σ H Q I h
  refine BoolOp_and (thn (ha pins s σ H _ I h) fun v s1 ⟨x, H1, I1, r1, q1⟩ => ?_)
  obtain ⟨c, rfl, q1⟩ := q1
  cases r1
  refine wpAny_truthy_bool ?_
  cases c with
  | true => exact hb pins s1 σ H1 Q I1 q1
  | false => exact ⟨.bl false, H1, I1, rfl, q1⟩
theorem pe_or (ha : PE X a ta) (hb : PE X (.BoolOp .Or (b :: rest) pos) tb) : PE X (.BoolOp .Or (a :: b :: rest) pos) (tOrV ta tb) := by
  intro pins s σ H Q I h
  refine BoolOp_or (thn (ha pins s σ H _ I h) fun v s1 ⟨x, H1, I1, r1, q1⟩ => ?_)
  obtain ⟨c, rfl, q1⟩ := q1
  cases r1
  refine wpAny_truthy_bool ?_
  cases c with
  | false => exact hb pins s1 σ H1 Q I1 q1
  | true => exact ⟨.bl true, H1, I1, rfl, q1⟩
/-- a if t else b -/
def tIf (t : TT) (ta tb : TE) : TE := fun σ H Q => t σ H fun c H1 => if c = true then ta σ H1 Q else tb σ H1 Q
theorem pe_ifExp {c : Expr} (hc : PT X c tA) (ha : PE X a ta) (hb : PE X b tb) : PE X (.IfExp c a b pos) (tIf tA ta tb) := by
  intro pins s σ H Q I h
  refine wpAny_IfExp (thn (hc pins s σ H _ I h) fun d s1 ⟨H1, I1, q1⟩ => ?_)
  cases d with
  | true => exact ha pins s1 σ H1 Q I1 q1
  | false => exact hb pins s1 σ H1 Q I1 q1
end
end L2

namespace L2
open PySem PySem.Spec PyProof.Rows

/-! ### a list, a tuple that is read: tracked, frozen, or an object of the module -/
def SqL (K : PySem.W.Frag) (H : Hp) (a : Addr) (xs : List V) : Prop :=
  Rd H a (.lst xs) ∨
    ∃ (o : Obj) (its : Array Value) (n : Nat), K.lookup a = some o ∧ o.cls = .type "list" ∧ o.dict = none ∧ o.data = .seq its n ∧ its.size ≤ sizeLine ∧ Vals xs its.toList
def SqT (K : PySem.W.Frag) (H : Hp) (a : Addr) (xs : List V) : Prop :=
  Rd H a (.tup xs) ∨
    ∃ (o : Obj) (its : Array Value) (n : Nat), K.lookup a = some o ∧ o.cls = .type "tuple" ∧ o.data = .seq its n ∧ its.size ≤ sizeLine ∧ Vals xs its.toList
def absV : Value → Option V
  | .none => some .non
  | .bool b => some (.bl b)
  | .int i _ => some (.int i)
  | .str x _ => some (.str x)
  | .bytes b _ => some (.byt b)
  | .float b _ => some (.flt b)
  | .ref a => some (.ref a)
  | .type n => some (.ty n)
  | _ => none
theorem RelV.abs {x : V} {u : Value} (r : RelV x u) : absV u = some x := by
  cases x with
  | non => cases r; rfl
  | bl _ => cases r; rfl
  | int _ => obtain ⟨t, rfl⟩ := r; rfl
  | str _ => obtain ⟨t, rfl⟩ := r; rfl
  | byt _ => obtain ⟨t, rfl⟩ := r; rfl
  | flt _ => obtain ⟨t, rfl⟩ := r; rfl
  | ref _ => cases r; rfl
  | ty _ => cases r; rfl
theorem RelV.inj {x y : V} {u : Value} (r : RelV x u) (q : RelV y u) : x = y := Option.some.inj (r.abs.symm.trans q.abs)
theorem Vals.inj : ∀ {xs ys : List V} {us : List Value}, Vals xs us → Vals ys us → xs = ys
  | _, _, _, .nil, .nil => rfl
  | _, _, _, .cons r t, .cons r' t' => by rw [r.inj r', Vals.inj t t']
section
variable {X : Cx} {pins : List (Addr × Obj)} {σ : St} {H : Hp} {s : Shared} {a : Addr} {xs ys : List V}
theorem SqL.of {K : PySem.W.Frag} (h : H a = some (.lst xs)) : SqL K H a xs := .inl (.inl h)
theorem SqT.of {K : PySem.W.Frag} (h : H a = some (.tup xs)) : SqT K H a xs := .inl (.inl h)
theorem Inv.list (I : Inv X pins σ H s) (h : SqL X.K H a xs) : ∃ its : List Value, Vals xs its ∧ PlainL s.heap a its.toArray ∧ xs.length ≤ sizeLine := by
  rcases h with h | ⟨o, its, n, hk, hc, hd, hs, hz, r⟩
  · obtain ⟨z, its, n, r, e⟩ := h.ok I.hok
    exact ⟨its, r, ⟨_, n, e, rfl, rfl, rfl⟩, z⟩
  · refine ⟨its.toList, r, ⟨o, n, I.kIn a o hk, hc, hd, by simpa using hs⟩, ?_⟩
    have e := r.length
    simp only [Array.length_toList] at e
    omega
theorem Inv.tuple (I : Inv X pins σ H s) (h : SqT X.K H a xs) : ∃ its : List Value, Vals xs its ∧ IsTup s.heap a its.toArray ∧ xs.length ≤ sizeLine := by
  rcases h with h | ⟨o, its, n, hk, hc, hs, hz, r⟩
  · obtain ⟨z, its, r, p⟩ := h.ok I.hok
    exact ⟨its, r, p, z⟩
  · refine ⟨its.toList, r, ⟨o, I.kIn a o hk, hc, n, by simpa using hs⟩, ?_⟩
    have e := r.length
    simp only [Array.length_toList] at e
    omega
theorem Inv.list_inj (I : Inv X pins σ H s) (h : SqL X.K H a xs) (h' : SqL X.K H a ys) : xs = ys := by
  obtain ⟨its, r, ⟨o, n, e, _, _, d⟩, _⟩ := I.list h
  obtain ⟨its', r', ⟨o', n', e', _, _, d'⟩, _⟩ := I.list h'
  rw [e] at e'; cases e'
  rw [d] at d'
  injection d' with d1 _
  have : its = its' := by simpa using congrArg Array.toList d1
  subst this
  exact r.inj r'
end

/-! ### another wish about exceptions -/
abbrev Cx.wish (X : Cx) (E : Value → Shared → Prop) : Cx := { X with xe := E }
/-- no exception leaves -/
abbrev Cx.nox (X : Cx) : Cx := X.wish fun _ _ => False
theorem Cx.Ok.wish {X : Cx} (ok : X.Ok) (E : Value → Shared → Prop) : (X.wish E).Ok :=
  ⟨ok.mod, ok.kind, ok.glob, ok.blt, ok.above, ok.inj, ok.has, ok.cab, ok.hd, ok.frames, ok.stk, ok.exf, ok.bs, ok.bsz, ok.noex, ok.exfs, ok.funs, ok.frf⟩
theorem Cx.Ok.unwish {X : Cx} {E : Value → Shared → Prop} (ok : (X.wish E).Ok) : X.Ok :=
  ⟨ok.mod, ok.kind, ok.glob, ok.blt, ok.above, ok.inj, ok.has, ok.cab, ok.hd, ok.frames, ok.stk, ok.exf, ok.bs, ok.bsz, ok.noex, ok.exfs, ok.funs, ok.frf⟩
section
variable {X : Cx} {pins : List (Addr × Obj)} {σ : St} {H : Hp} {s : Shared} {E : Value → Shared → Prop}
theorem Inv.wish (I : Inv X pins σ H s) (E : Value → Shared → Prop) : Inv (X.wish E) pins σ H s := ⟨I.ok.wish E, I.os, I.bare, I.base, I.loc, I.cell, I.free, I.freeC, I.pin, I.hok, I.len⟩
theorem Inv.unwish (I : Inv (X.wish E) pins σ H s) : Inv X pins σ H s := ⟨I.ok.unwish, I.os, I.bare, I.base, I.loc, I.cell, I.free, I.freeC, I.pin, I.hok, I.len⟩
theorem SP.unwish {D : Ends} {f : Flow} {s' : Shared} (h : SP (X.wish E) pins D f s') : SP X pins D f s' := by
  cases f with
  | next => obtain ⟨σ', H', I, q⟩ := h; exact ⟨σ', H', I.unwish, q⟩
  | brk => obtain ⟨σ', H', I, q⟩ := h; exact ⟨σ', H', I.unwish, q⟩
  | cont => obtain ⟨σ', H', I, q⟩ := h; exact ⟨σ', H', I.unwish, q⟩
  | ret u => obtain ⟨v, σ', H', I, r, q⟩ := h; exact ⟨v, σ', H', I.unwish, r, q⟩
theorem PE.nox {e : Expr} {t : TE} (h : PE X.nox e t) : PE X e t := fun pins s σ H Q I hw =>
  wpAny_mono (h pins s σ H Q (I.wish _) hw) (fun _ _ ⟨v, H', I', r, q⟩ => ⟨v, H', I'.unwish, r, q⟩) fun _ _ z => False.elim z
theorem PT.nox {e : Expr} {t : TT} (h : PT X.nox e t) : PT X e t := fun pins s σ H Q I hw =>
  wpAny_mono (h pins s σ H Q (I.wish _) hw) (fun _ _ ⟨H', I', q⟩ => ⟨H', I'.unwish, q⟩) fun _ _ z => False.elim z
theorem PSs.nox {st : List Stmt} {t : TS} (h : PSs X.nox st t) : PSs X st t := fun pins s σ H D I hw =>
  wpAny_mono (h pins s σ H D (I.wish _) hw) (fun _ _ q => q.unwish) fun _ _ z => False.elim z
end

/-! ### blocks and small statements -/
section
variable {X : Cx} {st : Stmt} {rest : List Stmt} {t u : TS} {e : Expr} {te : TE} {pos : Pos}
def tNext : TS := fun D σ H => D.nx σ H
def tSeq (t u : TS) : TS := fun D σ H => t { D with nx := u D } σ H
theorem pss_nil : PSs X [] tNext := fun _ _ σ H _ I h => wpAny_execs_nil ⟨σ, H, I, h⟩
theorem pss_cons (h1 : PS X st t) (h2 : PSs X rest u) : PSs X (st :: rest) (tSeq t u) := by
  intro pins s σ H D I h
  refine wpAny_execs_cons (thn (h1 pins s σ H { D with nx := u D } I h) fun f s1 q => ?_)
  cases f with
  | next =>
    obtain ⟨σ', H', I', q⟩ := q
    exact h2 pins s1 σ' H' D I' q
  | ret v => exact q
  | brk => exact q
  | cont => exact q
theorem pss_one (h1 : PS X st t) : PSs X [st] t := by
  intro pins s σ H D I h
  refine wpAny_execs_cons (thn (h1 pins s σ H D I h) fun f s1 q => ?_)
  cases f with
  | next => exact wpAny_execs_nil q
  | ret v => exact q
  | brk => exact q
  | cont => exact q
/-- in a def's body nothing is shown -/
theorem Inv.quiet {pins : List (Addr × Obj)} {σ : St} {H : Hp} {s : Shared} (I : Inv X pins σ H s) : interactive X.env = false := by simp [interactive, I.ok.kind]
/-- an expression whose value is dropped -/
def tDrop (te : TE) : TS := fun D σ H => te σ H fun _ H1 => D.nx σ H1
theorem ps_expr (he : PE X e te) (hs : swapsWith e none pos.line X.env = pure false := by rfl) : PS X (.Expr e pos) (tDrop te) := by
  intro pins s σ H D I h
  exact wpAny_Expr_any (thn (he pins s σ H _ I h) fun v s1 ⟨x, H1, I1, r1, q1⟩ => ⟨σ, H1, I1, q1⟩) I.quiet hs
def tRet (te : TE) : TS := fun D σ H => te σ H D.rt
theorem ps_ret (he : PE X e te) : PS X (.Return (some e) pos) (tRet te) := by
  intro pins s σ H D I h
  exact wpAny_Return_some (thn (he pins s σ H _ I h) fun v s1 ⟨x, H1, I1, r1, q1⟩ => ⟨x, σ, H1, I1, r1, q1⟩)
def tIfS (c : TT) (t u : TS) : TS := fun D σ H => c σ H fun b H1 => if b = true then t D σ H1 else u D σ H1
theorem ps_if {c : Expr} {a b : List Stmt} {tc : TT} (hc : PT X c tc) (ha : PSs X a t) (hb : PSs X b u) : PS X (.If c a b pos) (tIfS tc t u) := by
  intro pins s σ H D I h
  refine wpAny_If (thn (hc pins s σ H _ I h) fun d s1 ⟨H1, I1, q1⟩ => ?_)
  cases d with
  | true => exact ha pins s1 σ H1 D I1 q1
  | false => exact hb pins s1 σ H1 D I1 q1
end

/-! ### targets -/
abbrev TG := V → St → Hp → (St → Hp → Prop) → Prop
def PG (X : Cx) (target : Expr) (t : TG) : Prop :=
  ∀ (pins : List (Addr × Obj)) (s : Shared) (σ : St) (H : Hp) (v : V) (u : Value) (Q : St → Hp → Prop), Inv X pins σ H s → RelV v u → t v σ H Q →
    wpAny (model X.prog X.w) X.A (assign target X.env u) (fun _ s' => ∃ σ' H', Inv X pins σ' H' s' ∧ Q σ' H') X.xe s
section
variable {X : Cx} {pos : Pos}
def gName (i : Nat) : TG := fun v σ H Q => Q (σ.set i (some v)) H
theorem pg_name {i : Nat} {x : Str} (hN : X.N.Nodup) (hi : X.N[i]? = some x) (hx : Loc X.env.scope x) (hf : X.fn x = true ∨ X.env.scope.names.lookup x = some .local := by first | exact .inl rfl | exact .inr rfl | assumption) : PG X (.Name x pos) (gName i) := by
  intro pins s σ H v u Q I r h
  exact wpAny_assign_Name (store_ok I hN hi hx r (fun s' I' => ⟨_, H, I', h⟩) hf)
/-- target = value -/
def tAsg (te : TE) (g : TG) : TS := fun D σ H => te σ H fun x H1 => g x σ H1 D.nx
/-- name = value -/
theorem ps_set {i : Nat} {x : Str} {e : Expr} {te : TE} {pos' : Pos} (hN : X.N.Nodup) (hi : X.N[i]? = some x) (hx : Loc X.env.scope x) (he : PE X e te) (hs : swapsWith e (some (.Name x pos')) pos.line X.env = pure false := by rfl) (hf : X.fn x = true ∨ X.env.scope.names.lookup x = some .local := by first | exact .inl rfl | exact .inr rfl | assumption) :
    PS X (.Assign [.Name x pos'] e pos) (tAsg te (gName i)) := by
  intro pins s σ H D I h
  refine wpAny_Assign_Name (thn (he pins s σ H _ I h) fun v s1 ⟨y, H1, I1, r1, q1⟩ => ?_) hs
  exact store_ok I1 hN hi hx r1 (fun s2 I2 => ⟨_, H1, I2, q1⟩) hf
end

/-! ### while -/
section
variable {X : Cx} {pos : Pos}
/-- the invariant W with its measure -/
def tWhile (c : TT) (tb : TS) : TS := fun D σ H => ∃ W : Nat → St → Hp → Prop, (∃ m, W m σ H) ∧ ∀ m σ H, W m σ H →
  c σ H fun b H1 => if b = true then ∃ N : St → Hp → Prop, (∀ σ' H', N σ' H' → ∃ m', m' < m ∧ W m' σ' H') ∧ tb { D with nx := N, ct := N, bk := D.nx } σ H1 else D.nx σ H1
theorem ps_while {c : Expr} {body : List Stmt} {tc : TT} {tb : TS} (hp : PassesOwn (model X.prog X.w) X.A X.env X.xe) (hc : PT X c tc) (hb : PSs X body tb) : PS X (.While c body [] pos) (tWhile tc tb) := by
  intro pins s σ H D I h
  obtain ⟨W, ⟨m0, w0⟩, turn⟩ := h
  refine wpAny_While (codeAny_whileLoop (fun n s' => ∃ σ' H', Inv X pins σ' H' s' ∧ W n σ' H') ?_ m0 ⟨σ, H, I, w0⟩)
  rintro n s1 ⟨σ1, H1, I1, w1⟩
  refine wpAny_passesOwn hp (thn (hc pins s1 σ1 H1 _ I1 (turn n σ1 H1 w1)) fun b s2 ⟨H2, I2, q2⟩ => ?_)
  cases b with
  | true =>
    obtain ⟨N, hN, q2⟩ := q2
    rw [if_pos rfl]
    refine wpAny_passesOwn hp (thn (hb pins s2 σ1 H2 _ I2 q2) fun f s3 q3 => ?_)
    cases f with
    | next =>
      obtain ⟨σ3, H3, I3, n3⟩ := q3
      obtain ⟨m', hm, w3⟩ := hN σ3 H3 n3
      exact ⟨m', hm, σ3, H3, I3, w3⟩
    | cont =>
      obtain ⟨σ3, H3, I3, n3⟩ := q3
      obtain ⟨m', hm, w3⟩ := hN σ3 H3 n3
      exact ⟨m', hm, σ3, H3, I3, w3⟩
    | brk => exact q3
    | ret v => exact q3
  | false =>
    rw [if_neg Bool.false_ne_true]
    exact wpAny_execs_nil ⟨σ1, H2, I2, q2⟩
end

/-! ### what a loop or a comprehension walks -/
/-- at turn i: it yields x (the heap may grow), or it stops -/
structure It where
  go : Nat → Hp → Prop
  yld : Nat → Hp → V → Hp → Prop
  stop : Nat → Hp → Prop
/-- the iterator's own objects may turn: they are not the frame's, not pinned, younger than the entry (or a comprehension's own) -/
def FpOk (X : Cx) (pins : List (Addr × Obj)) (H : Hp) (b : Addr) : Prop :=
  H b = none ∧ b ≠ X.env.locals ∧ b ∉ X.fs ∧ (b ∈ X.ex ∨ X.s_0.heap.objs.size ≤ b) ∧ (∀ x c, X.env.cells.lookup x = some c → c ≠ b) ∧ ∀ p ∈ X.pn ++ pins, p.1 ≠ b
theorem Inv.fpOk {X : Cx} {pins : List (Addr × Obj)} {σ : St} {H H' : Hp} {s : Shared} {b : Addr} (I : Inv X pins σ H s) (hb : s.heap.objs.size ≤ b) (hn : H' b = none) : FpOk X pins H' b := by
  refine ⟨hn, Nat.ne_of_gt (Nat.lt_of_lt_of_le I.lt hb), I.nofs hb, .inr (Nat.le_trans I.sz hb), fun x c e z => ?_, fun p hp z => ?_⟩
  · obtain ⟨v, q⟩ := I.cell x c e
    exact absurd (Nat.lt_of_lt_of_le q.lt (by rw [z]; exact hb)) (Nat.lt_irrefl _)
  · exact absurd (Nat.lt_of_lt_of_le (Heap.lt_size (I.pin p hp).1) (by rw [z]; exact hb)) (Nat.lt_irrefl _)
structure Turn (P : Program) (w : World) (K : PySem.W.Frag) (tg : Expr) (J : It) (fp : List Addr) (it : Addr) (tn : Nat → Heap → Prop) : Prop where
  mem : it ∈ fp
  obj : ∀ i h, tn i h → ∀ b ∈ fp, ∃ o, h.get? b = some o ∧ ∀ v, o.data ≠ .cell v
  keep : ∀ i h h', tn i h → (∀ b ∈ fp, ∀ o, h.get? b = some o → h'.get? b = some o) → tn i h'
  item : ∀ (X : Cx), X.prog = P → X.w = w → X.K = K → X.calm = true → ∀ (i : Nat) (pins : List (Addr × Obj)) (s : Shared) (σ : St) (H : Hp) (E : Value → Shared → Prop), Inv X pins σ H s → (∀ b ∈ fp, FpOk X pins H b) → tn i s.heap → J.go i H →
    wpAny (model P w) X.A (pyNext (.ref it)) (fun r s1 => ∃ u, r = some u ∧
      wpAny (model P w) X.A (letOwnedTupleGo tg (.ref it) u) (fun _ s2 => ∃ x H', Inv X pins σ H' s2 ∧ RelV x u ∧ J.yld i H x H' ∧ tn (i + 1) s2.heap ∧ ∀ b ∈ fp, H' b = none) E s1) E s
  done : ∀ (X : Cx), X.prog = P → X.w = w → X.K = K → X.calm = true → ∀ (i : Nat) (pins : List (Addr × Obj)) (s : Shared) (σ : St) (H : Hp) (E : Value → Shared → Prop), Inv X pins σ H s → (∀ b ∈ fp, FpOk X pins H b) → tn i s.heap → J.stop i H →
    wpAny (model P w) X.A (pyNext (.ref it)) (fun r s1 => r = none ∧ Inv X pins σ H s1) E s
  self : ∀ (A : Around) (i : Nat) (s : Shared) (Q : Value → Shared → Prop) (E : Value → Shared → Prop), tn i s.heap → Q (.ref it) s → wpAny (model P w) A (pyIter (.ref it)) Q E s
abbrev TI := St → Hp → (It → Hp → Prop) → Prop
/-- an iterator has come -/
def PIE (X : Cx) (pins : List (Addr × Obj)) (σ : St) (tg : Expr) (R : It → Hp → Prop) (itv : Value) (s2 : Shared) : Prop :=
  ∃ (it : Addr) (fp : List Addr) (tn : Nat → Heap → Prop) (J : It) (H' : Hp), itv = .ref it ∧ Inv X pins σ H' s2 ∧ Turn X.prog X.w X.K tg J fp it tn ∧ tn 0 s2.heap ∧ (∀ b ∈ fp, FpOk X pins H' b) ∧ R J H'
def PI (X : Cx) (tg iter : Expr) (wi : TI) : Prop :=
  ∀ (pins : List (Addr × Obj)) (s : Shared) (σ : St) (H : Hp) (R : It → Hp → Prop), Inv X pins σ H s → wi σ H R →
    wpAny (model X.prog X.w) X.A (eval iter X.env) (fun v s1 => wpAny (model X.prog X.w) X.A (pyIter v) (PIE X pins σ tg R) X.xe s1) X.xe s

/-- the step ahead of the store is nothing for an iterator that keeps no tuple -/
theorem go_of {M : Model} {A : Around} {E : Value → Shared → Prop} {s : Shared} {tg : Expr} {it : Addr} {u : Value} {o : Obj} {n : String} {vs : Array Value} {Q : Unit → Shared → Prop} (ho : s.heap.get? it = some o) (hc : o.cls = .type n) (hd : o.data = .fields vs)
    (hn : ["enumerate", "zip", "dict_itemiterator", "dict_reverseitemiterator", "odict_iterator", "itertools.zip_longest", "itertools.pairwise"].contains n = false) (hQ : Q () s) : wpAny M A (letOwnedTupleGo tg (.ref it) u) Q E s := by
  unfold letOwnedTupleGo
  cases tg <;> first
    | exact wpAny_pure hQ
    | (cases u <;> first
        | exact wpAny_pure hQ
        | (refine wpAny_bind (wpAny_load ho ?_)
           rw [hc, hd]
           show wpAny M A (if (["enumerate", "zip", "dict_itemiterator", "dict_reverseitemiterator", "odict_iterator", "itertools.zip_longest", "itertools.pairwise"].contains n && vs[0]? == some (rawInt _)) = true then _ else _) Q E s
           rw [if_neg (by intro h; rw [hn, Bool.false_and] at h; cases h)]
           exact wpAny_pure hQ))

/-- the list at a, as it stands at each turn (a loop may append to it) -/
def Itl (K : PySem.W.Frag) (a : Addr) : It :=
  ⟨fun i H => ∃ xs x, SqL K H a xs ∧ xs[i]? = some x, fun i H x H' => H' = H ∧ ∀ xs, SqL K H a xs → xs[i]? = some x, fun i H => ∃ xs, SqL K H a xs ∧ xs.length ≤ i⟩
/-- lo, lo + 1, .. (n of them) -/
def Itr (lo : Int) (n : Nat) : It := ⟨fun i _ => i < n, fun i H x H' => H' = H ∧ x = .int (lo + i), fun i _ => n ≤ i⟩
theorem turn_list {P : Program} {w : World} {K : PySem.W.Frag} {tg : Expr} (a it : Addr) : Turn P w K tg (Itl K a) [it] it (fun i h => h.IsListIter it a i) where
  mem := by simp
  obj := fun i h st b hb => by
    have e : b = it := by simpa using hb
    subst e
    obtain ⟨o, e, c, d⟩ := st
    exact ⟨o, e, fun v z => by rw [d] at z; cases z⟩
  keep := fun i h h' st k => st.at fun o e => k it (by simp) o e
  item := by
    intro X hP hw hK hc i pins s σ H E I hf st hg
    subst hP hw hK
    obtain ⟨xs, x, hq, hx⟩ := hg
    obtain ⟨its, rv, p, hz⟩ := I.list hq
    obtain ⟨u, hu, ru⟩ := rv.get hx
    obtain ⟨f0, f1, f2, f3, f4, f5⟩ := hf it (by simp)
    refine wpAny_pyNext_list_item st p.isList (x := u) (by simpa using hu) fun h' st' sb => ?_
    have I1 : Inv X pins σ H { s with heap := h' } := I.turned (t' := s.toks) (fun b o hb e => (sb.2 b hb).trans e) f0 f1 f3 f4 f5
    obtain ⟨o, e, c, d⟩ := id st'
    exact ⟨u, rfl, go_of (s := { s with heap := h' }) e c d (by decide) ⟨x, H, I1, ru, ⟨rfl, fun ys hy => by rw [I.list_inj hy hq]; exact hx⟩, st', fun b hb => (hf b hb).1⟩⟩
  done := by
    intro X hP hw hK hc i pins s σ H E I hf st hg
    subst hP hw hK
    obtain ⟨xs, hq, hx⟩ := hg
    obtain ⟨its, rv, p, hz⟩ := I.list hq
    obtain ⟨f0, f1, f2, f3, f4, f5⟩ := hf it (by simp)
    have hl := rv.length
    exact wpAny_pyNext_list_end (I.ok.hd hc) st p.isList (by simp; omega) fun h' eb => ⟨rfl, I.turned (t' := s.toks) (fun b o hb e => eb b o hb e) f0 f1 f3 f4 f5⟩
  self := fun _ _ _ _ _ st h => wpAny_pyIter_listiter st h
theorem turn_range {P : Program} {w : World} {K : PySem.W.Frag} {tg : Expr} (it : Addr) (lo : Int) (n : Nat) : Turn P w K tg (Itr lo n) [it] it (fun i h => IsRangeIter h it (lo + (i : Nat) * 1) ((n : Int) - (i : Nat)) 1) where
  mem := by simp
  obj := fun i h st b hb => by
    have e : b = it := by simpa using hb
    subst e
    exact ⟨_, st, fun v z => by
      have z' : Data.fields _ = Data.cell v := z
      cases z'⟩
  keep := fun i h h' st k => k it (by simp) _ st
  item := by
    intro X hP hw hK hc i pins s σ H E I hf st hg
    subst hP hw hK
    obtain ⟨f0, f1, f2, f3, f4, f5⟩ := hf it (by simp)
    have W := Walks.range (prog := X.prog) (w := X.w) (I.ok.hd hc) it lo 1 n
    refine W.item i s _ _ hg st fun v h' tk hv st' kk => ?_
    obtain ⟨t, rfl⟩ := hv
    have I1 : Inv X pins σ H { s with heap := h', toks := tk } := I.turned (fun b o hb e => kk b o (by simpa using hb) e) f0 f1 f3 f4 f5
    refine ⟨_, rfl, go_of (s := { s with heap := h', toks := tk }) (n := "range_iterator") st' rfl rfl (by decide) ⟨.int (lo + i), H, I1, ⟨t, ?_⟩, ⟨rfl, rfl⟩, st', fun b hb => (hf b hb).1⟩⟩
    rw [Int.mul_one]
  done := by
    intro X hP hw hK hc i pins s σ H E I hf st hg
    subst hP hw hK
    obtain ⟨f0, f1, f2, f3, f4, f5⟩ := hf it (by simp)
    exact wpAny_pyNext_range_end (I.ok.hd hc) st (by have : n ≤ i := hg; omega) fun h' eb => ⟨rfl, I.turned (t' := s.toks) (fun b o hb e => eb b o hb e) f0 f1 f3 f4 f5⟩
  self := fun _ _ _ _ _ st h => wpAny_pyIter_rangeiter st h
end L2

namespace L2
open PySem PySem.Spec PyProof.Rows
section
variable {X : Cx} {tg : Expr}
def iList (K : PySem.W.Frag) (tl : TE) : TI := fun σ H R => tl σ H fun x H1 => ∃ a, x = .ref a ∧ (∃ xs, SqL K H1 a xs) ∧ R (Itl K a) H1
theorem pi_list {l : Expr} {tl : TE} (hl : PE X l tl) : PI X tg l (iList X.K tl) := by
  intro pins s σ H R I h
  refine thn (hl pins s σ H _ I h) fun v s1 ⟨x, H1, I1, r1, q1⟩ => ?_
  obtain ⟨a, e, ⟨xs, hq⟩, q⟩ := q1
  subst e
  cases r1
  obtain ⟨its, rv, p, hz⟩ := I1.list hq
  refine wpAny_pyIter_list p.isList ?_
  refine ⟨s1.heap.objs.size, [s1.heap.objs.size], _, _, H1, rfl, I1.kept (t' := s1.toks) fun b o e => Heap.get?_push_of_some _ e, turn_list a _, ⟨_, Heap.get?_push_size _ rfl, rfl, rfl⟩, fun b hb => ?_, q⟩
  have e : b = s1.heap.objs.size := by simpa using hb
  subst e
  exact I1.fpOk (Nat.le_refl _) (I1.hok.fresh (Nat.le_refl _))
/-- a range object just made, walked -/
theorem range_it {pins : List (Addr × Obj)} {σ : St} {H : Hp} {s : Shared} {R : It → Hp → Prop} {E : Value → Shared → Prop} {lo hi : Int} {t u v : Tok} {tk : Nat} (I : Inv X pins σ H s) (h1 : -(2 ^ 62) ≤ lo) (h2 : lo < 2 ^ 62) (h3 : -(2 ^ 62) ≤ hi) (h4 : hi < 2 ^ 62)
    (q : R (Itr lo (hi - lo).toNat) H) : wpAny (model X.prog X.w) X.A (pyIter (.ref s.heap.objs.size)) (PIE X pins σ tg R) E { s with heap := s.heap.push { cls := .type "range", data := .fields #[.int lo t, .int hi u, .int 1 v] }, toks := tk } := by
  refine wpAny_pyIter_range (IsRange.new ..) (small_one h1 h2 h3 h4) ?_
  have I1 : Inv X pins σ H { s with heap := s.heap.push { cls := .type "range", data := .fields #[.int lo t, .int hi u, .int 1 v] }, toks := tk } := I.kept fun b o e => Heap.get?_push_of_some _ e
  refine ⟨(s.heap.push { cls := .type "range", data := .fields #[.int lo t, .int hi u, .int 1 v] }).objs.size, [(s.heap.push { cls := .type "range", data := .fields #[.int lo t, .int hi u, .int 1 v] }).objs.size], _, _, H, rfl,
    I1.kept (t' := tk) fun b o e => Heap.get?_push_of_some _ e, turn_range _ lo (hi - lo).toNat, ?_, fun b hb => ?_, q⟩
  · have e1 : lo + ((0 : Nat) : Int) * 1 = lo := by simp
    have e2 : (((hi - lo).toNat : Nat) : Int) - ((0 : Nat) : Int) = Builtin.Range.rangeSize lo hi 1 := by rw [rangeSize_one]; split <;> omega
    show IsRangeIter _ _ (lo + ((0 : Nat) : Int) * 1) ((((hi - lo).toNat : Nat) : Int) - ((0 : Nat) : Int)) 1
    rw [e1, e2]
    exact Heap.get?_push_size _ rfl
  · have e : b = (s.heap.push { cls := .type "range", data := .fields #[.int lo t, .int hi u, .int 1 v] }).objs.size := by simpa using hb
    subst e
    exact I1.fpOk (Nat.le_refl _) (I1.hok.fresh (Nat.le_refl _))
def iRng1 (ta : TA) : TI := fun σ H R => ta σ H fun vs H1 => ∃ j : Int, vs = [.int j] ∧ -(2 ^ 62) ≤ j ∧ j < 2 ^ 62 ∧ R (Itr 0 j.toNat) H1
def iRng2 (ta : TA) : TI := fun σ H R => ta σ H fun vs H1 => ∃ i j : Int, vs = [.int i, .int j] ∧ (-(2 ^ 62) ≤ i ∧ i < 2 ^ 62 ∧ -(2 ^ 62) ≤ j ∧ j < 2 ^ 62) ∧ R (Itr i (j - i).toNat) H1
theorem pi_range1 {a : Expr} {ta : TA} {p pos : Pos} (hg : Gl X "range") (hm : X.mg "range" = none) (ha : PA X [a] ta) (hs : starEach [a] X.env = [(false, eval a X.env)] := by rfl) : PI X tg (.Call (.Name "range" p) [a] [] pos) (iRng1 ta) := by
  intro pins s σ H R I h
  refine Call_ (ld_blt I hg hm boot_range (PyProof.Rows.callWith_type1 (thn (ha pos pins s σ H _ I h) fun us s1 ⟨vs, H1, I1, r1, q1⟩ => ?_) hs rfl))
  obtain ⟨j, e, q1, q2, q⟩ := q1
  subst e
  cases r1 with
  | cons r rr =>
    cases rr
    obtain ⟨t, rfl⟩ := r
    exact call_range_1 (range_it I1 (by omega) (by omega) q1 q2 (by simpa using q))
theorem pi_range2 {a b : Expr} {ta : TA} {p pos : Pos} (hg : Gl X "range") (hm : X.mg "range" = none) (ha : PA X [a, b] ta) (hs : starEach [a, b] X.env = [(false, eval a X.env), (false, eval b X.env)] := by rfl) (hs2 : starEach [b] X.env = [(false, eval b X.env)] := by rfl) :
    PI X tg (.Call (.Name "range" p) [a, b] [] pos) (iRng2 ta) := by
  intro pins s σ H R I h
  refine Call_ (ld_blt I hg hm boot_range (PyProof.Rows.callWith_type1 (thn (ha pos pins s σ H _ I h) fun us s1 ⟨vs, H1, I1, r1, q1⟩ => ?_) (by rw [hs, hs2]) (by rw [hs2]; rfl)))
  obtain ⟨i, j, e, ⟨q1, q2, q3, q4⟩, q⟩ := q1
  subst e
  cases r1 with
  | cons r rr =>
    cases rr with
    | cons r' rr =>
      cases rr
      obtain ⟨t, rfl⟩ := r
      obtain ⟨t', rfl⟩ := r'
      exact call_range_2 (range_it I1 q1 q2 q3 q4 q)

/-! ### for -/
/-- W: the invariant by the turn and a measure; N: what the body is to reach -/
def tFor (wi : TI) (g : TG) (tb : TS) : TS := fun D σ H => wi σ H fun J H1 => ∃ W : Nat → Nat → St → Hp → Prop, (∃ m, W 0 m σ H1) ∧ ∀ i m σ H, W i m σ H →
  (J.stop i H ∧ D.nx σ H) ∨ (J.go i H ∧ ∃ N : St → Hp → Prop, (∀ σ' H', N σ' H' → ∃ m', m' < m ∧ W (i + 1) m' σ' H') ∧ ∀ x H', J.yld i H x H' → g x σ H' fun σ2 H2 => tb { D with nx := N, ct := N, bk := D.nx } σ2 H2)
/-- the records at fp as they stand -/
def pinsAt (fp : List Addr) (h : Heap) : List (Addr × Obj) := fp.filterMap fun b => (h.get? b).map fun o => (b, o)
theorem mem_pinsAt {fp : List Addr} {h : Heap} {b : Addr} {o : Obj} (hb : b ∈ fp) (e : h.get? b = some o) : (b, o) ∈ pinsAt fp h := List.mem_filterMap.mpr ⟨b, hb, by rw [e]; rfl⟩
theorem of_pinsAt {fp : List Addr} {h : Heap} {p : Addr × Obj} (hp : p ∈ pinsAt fp h) : p.1 ∈ fp ∧ h.get? p.1 = some p.2 := by
  obtain ⟨b, hb, e⟩ := List.mem_filterMap.mp hp
  cases q : h.get? b with
  | none => rw [q] at e; cases e
  | some o =>
    rw [q] at e
    have e' : (b, o) = p := Option.some.inj e
    subst e'
    exact ⟨hb, q⟩
theorem Inv.pinned {pins : List (Addr × Obj)} {σ : St} {H : Hp} {s : Shared} {fp : List Addr} (I : Inv X pins σ H s) (hf : ∀ b ∈ fp, FpOk X pins H b) (ho : ∀ b ∈ fp, ∃ o, s.heap.get? b = some o ∧ ∀ v, o.data ≠ .cell v) : Inv X (pins ++ pinsAt fp s.heap) σ H s :=
  I.pins_of fun p hp => (List.mem_append.mp hp).elim (fun z => I.pin p (List.mem_append_right _ z)) fun z => by
    obtain ⟨hb, e⟩ := of_pinsAt z
    obtain ⟨f0, f1, f2, _⟩ := hf p.1 hb
    obtain ⟨o, e', d⟩ := ho p.1 hb
    rw [e] at e'; cases e'
    exact ⟨e, f0, f1, f2, d⟩
theorem Inv.unpinned {pins pl : List (Addr × Obj)} {σ : St} {H : Hp} {s : Shared} (I : Inv X (pins ++ pl) σ H s) : Inv X pins σ H s := I.pins_of fun p hp => I.pin p (List.mem_append_right _ (List.mem_append_left _ hp))
theorem ps_for {iter : Expr} {body : List Stmt} {wi : TI} {g : TG} {tb : TS} {pos : Pos} (hp : PassesOwn (model X.prog X.w) X.A X.env X.xe) (hc : X.calm = true) (hi : PI X tg iter wi) (hg : PG X tg g) (hb : PSs X body tb)
    (hs : ∀ x, foldedSetIterable iter X.env x = pure x := by intro _; rfl) : PS X (.For tg iter body [] pos) (tFor wi g tb) := by
  intro pins s σ H D I h
  refine wpAny_For (thn (hi pins s σ H _ I h) fun v s1 h1 => thn h1 fun itv s2 h2 => ?_) hs
  obtain ⟨it, fp, tn, J, H2, e, I2, T, st2, f2, W, ⟨m0, w0⟩, turn⟩ := h2
  subst e
  -- what stays true of the iterator's objects through the loop
  have stat : ∀ {H' : Hp}, (∀ b ∈ fp, H' b = none) → ∀ b ∈ fp, FpOk X pins H' b := fun hn b hb => ⟨hn b hb, (f2 b hb).2⟩
  refine codeAny_forLoop_any (fun n s' => ∃ i σ' H', Inv X pins σ' H' s' ∧ tn i s'.heap ∧ (∀ b ∈ fp, H' b = none) ∧ W i n σ' H') ?_ m0 ⟨0, σ, H2, I2, st2, fun b hb => (f2 b hb).1, w0⟩
  rintro n s3 ⟨i, σ3, H3, I3, st3, fr3, w3⟩
  rcases turn i n σ3 H3 w3 with ⟨stop, qn⟩ | ⟨go, N, hN, step⟩
  · refine wpAny_passesOwn hp (thn (T.done X rfl rfl rfl hc i pins s3 σ3 H3 X.xe I3 (stat fr3) st3 stop) fun r s4 ⟨hr, I4⟩ => ?_)
    subst hr
    exact wpAny_execs_nil ⟨σ3, H3, I4, qn⟩
  · refine wpAny_passesOwn hp (thn (T.item X rfl rfl rfl hc i pins s3 σ3 H3 X.xe I3 (stat fr3) st3 go) fun r s4 ⟨u, hr, h4⟩ => ?_)
    subst hr
    refine wpAny_passesOwn hp (thn h4 fun _ s5 ⟨x, H5, I5, r5, y5, st5, fr5⟩ => ?_)
    have I5' := I5.pinned (stat fr5) (T.obj _ _ st5)
    refine wpAny_passesOwn hp (thn (hg _ s5 σ3 H5 x u _ I5' r5 (step x H5 y5)) fun _ s6 ⟨σ6, H6, I6, q6⟩ => ?_)
    refine wpAny_passesOwn hp (thn (hb _ s6 σ6 H6 _ I6 q6) fun f s7 q7 => ?_)
    have again : ∀ {σ7 : St} {H7 : Hp}, Inv X (pins ++ pinsAt fp s5.heap) σ7 H7 s7 → N σ7 H7 → ∃ m, m < n ∧ ∃ i σ' H', Inv X pins σ' H' s7 ∧ tn i s7.heap ∧ (∀ b ∈ fp, H' b = none) ∧ W i m σ' H' := fun {σ7 H7} I7 n7 => by
      obtain ⟨m', hm, w7⟩ := hN σ7 H7 n7
      refine ⟨m', hm, i + 1, σ7, H7, I7.unpinned, T.keep _ _ _ st5 fun b hb o e => (I7.pin (b, o) (List.mem_append_right _ (List.mem_append_right _ (mem_pinsAt hb e)))).1, fun b hb => ?_, w7⟩
      obtain ⟨o, e, d⟩ := T.obj _ _ st5 b hb
      exact (I7.pin (b, o) (List.mem_append_right _ (List.mem_append_right _ (mem_pinsAt hb e)))).2.1
    cases f with
    | next => obtain ⟨σ7, H7, I7, n7⟩ := q7; exact again I7 n7
    | cont => obtain ⟨σ7, H7, I7, n7⟩ := q7; exact again I7 n7
    | brk => obtain ⟨σ7, H7, I7, q7⟩ := q7; exact ⟨σ7, H7, I7.unpinned, q7⟩
    | ret v => obtain ⟨x7, σ7, H7, I7, r7, q7⟩ := q7; exact ⟨x7, σ7, H7, I7.unpinned, r7, q7⟩
end

/-! ### the forms one uses -/
/-- over a list that the body leaves as it is -/
theorem for_list {K : PySem.W.Frag} {a : Addr} {xs : List V} {g : TG} {tb : TS} {D : Ends} {σ : St} {H : Hp} (Pv : Nat → St → Hp → Prop) (h0 : Pv 0 σ H) (hl : ∀ i σ H, i ≤ xs.length → Pv i σ H → SqL K H a xs)
    (hs : ∀ i x σ H, xs[i]? = some x → Pv i σ H → g x σ H fun σ2 H2 => tb { D with nx := Pv (i + 1), ct := Pv (i + 1), bk := D.nx } σ2 H2) (hd : ∀ σ H, Pv xs.length σ H → D.nx σ H) :
    ∃ W : Nat → Nat → St → Hp → Prop, (∃ m, W 0 m σ H) ∧ ∀ i m σ H, W i m σ H →
      ((Itl K a).stop i H ∧ D.nx σ H) ∨ ((Itl K a).go i H ∧ ∃ N : St → Hp → Prop, (∀ σ' H', N σ' H' → ∃ m', m' < m ∧ W (i + 1) m' σ' H') ∧ ∀ x H', (Itl K a).yld i H x H' → g x σ H' fun σ2 H2 => tb { D with nx := N, ct := N, bk := D.nx } σ2 H2) := by
  refine ⟨fun i m σ H => m = xs.length - i ∧ i ≤ xs.length ∧ Pv i σ H, ⟨xs.length, by simp, Nat.zero_le _, h0⟩, ?_⟩
  rintro i m σ H ⟨rfl, hi, p⟩
  have q := hl i σ H hi p
  by_cases hlt : i < xs.length
  · refine .inr ⟨⟨xs, xs[i], q, by simp [hlt]⟩, Pv (i + 1), fun σ' H' p' => ⟨xs.length - (i + 1), by omega, rfl, hlt, p'⟩, fun x H' y => ?_⟩
    obtain ⟨e, y⟩ := y
    subst e
    exact hs i x σ _ (y xs q) p
  · have e : i = xs.length := by omega
    subst e
    exact .inl ⟨⟨xs, q, Nat.le_refl _⟩, hd σ H p⟩
theorem for_range {lo : Int} {n : Nat} {g : TG} {tb : TS} {D : Ends} {σ : St} {H : Hp} (Pv : Nat → St → Hp → Prop) (h0 : Pv 0 σ H)
    (hs : ∀ i σ H, i < n → Pv i σ H → g (.int (lo + i)) σ H fun σ2 H2 => tb { D with nx := Pv (i + 1), ct := Pv (i + 1), bk := D.nx } σ2 H2) (hd : ∀ σ H, Pv n σ H → D.nx σ H) :
    ∃ W : Nat → Nat → St → Hp → Prop, (∃ m, W 0 m σ H) ∧ ∀ i m σ H, W i m σ H →
      ((Itr lo n).stop i H ∧ D.nx σ H) ∨ ((Itr lo n).go i H ∧ ∃ N : St → Hp → Prop, (∀ σ' H', N σ' H' → ∃ m', m' < m ∧ W (i + 1) m' σ' H') ∧ ∀ x H', (Itr lo n).yld i H x H' → g x σ H' fun σ2 H2 => tb { D with nx := N, ct := N, bk := D.nx } σ2 H2) := by
  refine ⟨fun i m σ H => m = n - i ∧ i ≤ n ∧ Pv i σ H, ⟨n, by simp, Nat.zero_le _, h0⟩, ?_⟩
  rintro i m σ H ⟨rfl, hi, p⟩
  by_cases hlt : i < n
  · refine .inr ⟨hlt, Pv (i + 1), fun σ' H' p' => ⟨n - (i + 1), by omega, rfl, hlt, p'⟩, fun x H' y => ?_⟩
    obtain ⟨e, y⟩ := y
    subst e y
    exact hs i σ _ hlt p
  · have e : i = n := by omega
    subst e
    exact .inl ⟨Nat.le_refl _, hd σ H p⟩
/-- while, by a word and a measure of the state -/
theorem while_by {c : TT} {tb : TS} {D : Ends} {σ : St} {H : Hp} (Pv : St → Hp → Prop) (μ : St → Hp → Nat) (h0 : Pv σ H)
    (hs : ∀ σ H, Pv σ H → c σ H fun b H1 => if b = true then tb { D with nx := fun σ' H' => Pv σ' H' ∧ μ σ' H' < μ σ H, ct := fun σ' H' => Pv σ' H' ∧ μ σ' H' < μ σ H, bk := D.nx } σ H1 else D.nx σ H1)
    (mono : ∀ σ H Q Q', (∀ b H1, Q b H1 → Q' b H1) → c σ H Q → c σ H Q') : tWhile c tb D σ H := by
  refine ⟨fun m σ H => m = μ σ H ∧ Pv σ H, ⟨_, rfl, h0⟩, ?_⟩
  rintro m σ H ⟨rfl, p⟩
  refine mono σ H _ _ (fun b H1 q => ?_) (hs σ H p)
  cases b with
  | true => exact ⟨_, fun σ' H' ⟨p', l⟩ => ⟨_, l, rfl, p'⟩, q⟩
  | false => exact q
end L2

namespace L2
open PySem PySem.Spec PyProof.Rows

abbrev R2 := V → V → Hp → VK → Prop
/-- a two-place operation on values: f is binaryOp op, inplaceOp op or compareOp op -/
def OpR (X : Cx) (f : Value → Value → Sem Value) (r : R2) : Prop :=
  ∀ (pins : List (Addr × Obj)) (s : Shared) (σ : St) (H : Hp) (x y : V) (v u : Value) (Q : VK), Inv X pins σ H s → RelV x v → RelV y u → r x y H Q →
    wpAny (model X.prog X.w) X.A (f v u) (EP X pins σ Q) X.xe s
/-- a one-place operation -/
def UnR (X : Cx) (f : Value → Sem Value) (r : V → Hp → VK → Prop) : Prop :=
  ∀ (pins : List (Addr × Obj)) (s : Shared) (σ : St) (H : Hp) (x : V) (v : Value) (Q : VK), Inv X pins σ H s → RelV x v → r x H Q →
    wpAny (model X.prog X.w) X.A (f v) (EP X pins σ Q) X.xe s
/-- a call of a value that is known (a builtin, a type) with values -/
def CallR (X : Cx) (f : Value) (r : List V → Hp → VK → Prop) : Prop :=
  ∀ (pins : List (Addr × Obj)) (s : Shared) (σ : St) (H : Hp) (xs : List V) (us : List Value) (Q : VK), Inv X pins σ H s → Vals xs us → r xs H Q →
    wpAny (model X.prog X.w) X.A (call f us) (EP X pins σ Q) X.xe s
def tOp (r : R2) (ta tb : TE) : TE := fun σ H Q => ta σ H fun x H1 => tb σ H1 fun y H2 => r x y H2 Q
def tUn (r : V → Hp → VK → Prop) (ta : TE) : TE := fun σ H Q => ta σ H fun x H1 => r x H1 Q
/-- ints in, under C, and a value out -/
def rI (C : Int → Int → Prop) (g : Int → Int → V) : R2 := fun x y H Q => ∃ i j, x = .int i ∧ y = .int j ∧ C i j ∧ Q (g i j) H
def rI0 (g : Int → Int → V) : R2 := fun x y H Q => ∃ i j, x = .int i ∧ y = .int j ∧ Q (g i j) H
def rU (g : Int → V) : V → Hp → VK → Prop := fun x H Q => ∃ i, x = .int i ∧ Q (g i) H

section
variable {X : Cx} {a b c : Expr} {ta tb tc : TE} {pos : Pos}

theorem binT (ha : PE X a ta) (hb : PE X b tb) {pins : List (Addr × Obj)} {s : Shared} {σ : St} {H : Hp} {R : V → V → Hp → Prop} (I : Inv X pins σ H s)
    (h : ta σ H fun x H1 => tb σ H1 fun y H2 => R x y H2) {Q : Value → Shared → Prop} {f : Value → Value → Sem Value}
    (hf : ∀ v u s2 x y H2, Inv X pins σ H2 s2 → RelV x v → RelV y u → R x y H2 → wpAny (model X.prog X.w) X.A (f v u) Q X.xe s2) :
    wpAny (model X.prog X.w) X.A (eval a X.env) (fun v s₁ => wpAny (model X.prog X.w) X.A (eval b X.env) (fun u s₂ => wpAny (model X.prog X.w) X.A (f v u) Q X.xe s₂) X.xe s₁) X.xe s := by
  refine thn (ha pins s σ H _ I h) fun v s1 ⟨x, H1, I1, r1, q1⟩ => ?_
  refine thn (hb pins s1 σ H1 _ I1 q1) fun u s2 ⟨y, H2, I2, r2, q2⟩ => ?_
  exact hf v u s2 x y H2 I2 r1 r2 q2

theorem pe_op {op : Operator} {r : R2} (ho : OpR X (binaryOp op) r) (ha : PE X a ta) (hb : PE X b tb) : PE X (.BinOp a op b pos) (tOp r ta tb) := by
  intro pins s σ H Q I h
  exact wpAny_BinOp (binT ha hb I h fun v u s2 x y H2 I2 rx ry q => ho pins s2 σ H2 x y v u Q I2 rx ry q)
theorem pe_un {op : UnaryOp} {r : V → Hp → VK → Prop} (ho : UnR X (unaryOp op) r) (ha : PE X a ta) : PE X (.UnaryOp op a pos) (tUn r ta) := by
  intro pins s σ H Q I h
  exact UnaryOp_ (thn (ha pins s σ H _ I h) fun v s1 ⟨x, H1, I1, r1, q1⟩ => ho pins s1 σ H1 x v Q I1 r1 q1)
/-! ### ints -/
theorem opI {f : Value → Value → Sem Value} {C : Int → Int → Prop} {g : Int → Int → Int}
    (rule : ∀ (i j : Int) (t u : Tok) (s : Shared) (Q : Value → Shared → Prop) (E : Value → Shared → Prop), C i j → Q (.int (g i j) s.toks) { s with toks := s.toks + 1 } → wpAny (model X.prog X.w) X.A (f (.int i t) (.int j u)) Q E s) :
    OpR X f (rI C fun i j => .int (g i j)) := by
  intro pins s σ H x y v u Q I rx ry h
  obtain ⟨i, j, rfl, rfl, hc, q⟩ := h
  obtain ⟨t, rfl⟩ := rx
  obtain ⟨t', rfl⟩ := ry
  exact rule i j t t' s _ _ hc ⟨.int (g i j), H, I.tok _, ⟨_, rfl⟩, q⟩
theorem opI0 {f : Value → Value → Sem Value} {g : Int → Int → Int}
    (rule : ∀ (i j : Int) (t u : Tok) (s : Shared) (Q : Value → Shared → Prop) (E : Value → Shared → Prop), Q (.int (g i j) s.toks) { s with toks := s.toks + 1 } → wpAny (model X.prog X.w) X.A (f (.int i t) (.int j u)) Q E s) :
    OpR X f (rI0 fun i j => .int (g i j)) := by
  intro pins s σ H x y v u Q I rx ry h
  obtain ⟨i, j, rfl, rfl, q⟩ := h
  obtain ⟨t, rfl⟩ := rx
  obtain ⟨t', rfl⟩ := ry
  exact rule i j t t' s _ _ ⟨.int (g i j), H, I.tok _, ⟨_, rfl⟩, q⟩
theorem opB0 {f : Value → Value → Sem Value} {g : Int → Int → Bool}
    (rule : ∀ (i j : Int) (t u : Tok) (s : Shared) (Q : Value → Shared → Prop) (E : Value → Shared → Prop), Q (.bool (g i j)) s → wpAny (model X.prog X.w) X.A (f (.int i t) (.int j u)) Q E s) :
    OpR X f (rI0 fun i j => .bl (g i j)) := by
  intro pins s σ H x y v u Q I rx ry h
  obtain ⟨i, j, rfl, rfl, q⟩ := h
  obtain ⟨t, rfl⟩ := rx
  obtain ⟨t', rfl⟩ := ry
  exact rule i j t t' s _ _ ⟨.bl (g i j), H, I, rfl, q⟩

def CPow (i j : Int) : Prop := 0 ≤ j ∧ j ≤ 1000000 ∧ i.natAbs < 2 ^ 64
def CMul (i j : Int) : Prop := (-(2 ^ 64) < i ∧ i < 2 ^ 64) ∨ (-(2 ^ 64) < j ∧ j < 2 ^ 64)
theorem CMul.ok {i j : Int} (h : CMul i j) : IntMulOk i j := by
  rcases h with ⟨h1, h2⟩ | ⟨h1, h2⟩
  · exact .of_left (intBits_le_64 h1 h2)
  · exact .of_right (intBits_le_64 h1 h2)
theorem op_add : OpR X (binaryOp .Add) (rI0 fun i j => .int (i + j)) := opI0 fun _ _ _ _ _ _ _ q => add_int q
theorem op_sub : OpR X (binaryOp .Sub) (rI0 fun i j => .int (i - j)) := opI0 fun _ _ _ _ _ _ _ q => sub_int q
theorem op_mul : OpR X (binaryOp .Mult) (rI CMul fun i j => .int (i * j)) := opI fun _ _ _ _ _ _ _ hc q => mul_int q hc.ok
theorem op_shl : OpR X (binaryOp .LShift) (rI CPow fun i j => .int (i * 2 ^ j.toNat)) := opI fun _ _ _ _ _ _ _ hc q => lshift_int_small hc.1 hc.2.1 hc.2.2 q
theorem op_or : OpR X (binaryOp .BitOr) (rI0 fun i j => .int (Builtin.bitOr i j)) := opI0 fun _ _ _ _ _ _ _ q => or_int q
theorem unI {f : Value → Sem Value} {g : Int → Int}
    (rule : ∀ (i : Int) (t : Tok) (s : Shared) (Q : Value → Shared → Prop) (E : Value → Shared → Prop), Q (.int (g i) s.toks) { s with toks := s.toks + 1 } → wpAny (model X.prog X.w) X.A (f (.int i t)) Q E s) :
    UnR X f (rU fun i => .int (g i)) := by
  intro pins s σ H x v Q I rx h
  obtain ⟨i, rfl, q⟩ := h
  obtain ⟨t, rfl⟩ := rx
  exact rule i t s _ _ ⟨.int (g i), H, I.tok _, ⟨_, rfl⟩, q⟩
theorem un_neg : UnR X (unaryOp .USub) (rU fun i => .int (-i)) := unI fun _ _ _ _ _ q => neg_int q
/-! ### bools among ints: n += (a < b) -/
end

/-! ### comparisons -/
/-- the scalars that == tells apart as data does -/
def scal : V → V → Bool
  | .non, .non => true | .non, .int _ => true | .int _, .non => true | .non, .bl _ => true | .bl _, .non => true | .non, .str _ => true | .str _, .non => true
  | .int _, .int _ => true | .bl _, .bl _ => true | .str _, .str _ => true | .byt _, .byt _ => true
  | .int _, .str _ => true | .str _, .int _ => true | .bl _, .str _ => true | .str _, .bl _ => true
  | _, _ => false
def rEq : R2 := fun x y H Q => scal x y = true ∧ Q (.bl (decide (x = y))) H
def rNe : R2 := fun x y H Q => scal x y = true ∧ Q (.bl (!decide (x = y))) H

theorem dec_int {i j : Int} : decide (V.int i = V.int j) = (i == j) := by
  rw [Bool.eq_iff_iff]
  simp
theorem dec_bl {i j : Bool} : decide (V.bl i = V.bl j) = (i == j) := by
  rw [Bool.eq_iff_iff]
  simp
theorem dec_str {i j : Str} : decide (V.str i = V.str j) = (i == j) := by
  rw [Bool.eq_iff_iff]
  simp
theorem dec_byt {i j : Array UInt8} : decide (V.byt i = V.byt j) = (i.toList == j.toList) := by
  rw [Bool.eq_iff_iff]
  cases i
  cases j
  simp

section
variable {X : Cx} {a b c : Expr} {ta tb tc : TE} {pos : Pos}
theorem fin_bl {pins : List (Addr × Obj)} {σ : St} {H : Hp} {s : Shared} {Q : VK} {k k' : Bool} (I : Inv X pins σ H s) (q : Q (.bl k) H) (e : k = k') : EP X pins σ Q (.bool k') s := by
  subst e
  exact ⟨.bl k, H, I, rfl, q⟩
theorem op_eq : OpR X (compareOp .Eq) rEq := by
  intro pins s σ H x y v u Q I rx ry h
  obtain ⟨hs, q⟩ := h
  cases x with
  | non =>
    cases rx
    cases y with
    | non => cases ry; exact PySem.EqNone.eq_none_none (fin_bl I q (by simp))
    | bl j => cases ry; exact PySem.EqNone.eq_none_bool (fin_bl I q (by simp))
    | int j => obtain ⟨t', rfl⟩ := ry; exact PySem.EqNone.eq_none_int (fin_bl I q (by simp))
    | str j => obtain ⟨t', rfl⟩ := ry; exact PySem.EqNone.eq_none_str (fin_bl I q (by simp))
    | _ => exact absurd (show false = true from hs) Bool.false_ne_true
  | bl i =>
    cases rx
    cases y with
    | non => cases ry; exact PySem.EqNone.eq_bool_none (fin_bl I q (by simp))
    | bl j => cases ry; exact eq_bool (fin_bl I q dec_bl)
    | str j => obtain ⟨t', rfl⟩ := ry; exact PySem.EqMixed.eq_bool_str (fin_bl I q (by simp))
    | _ => exact absurd (show false = true from hs) Bool.false_ne_true
  | int i =>
    obtain ⟨t, rfl⟩ := rx
    cases y with
    | non => cases ry; exact PySem.EqNone.eq_int_none (fin_bl I q (by simp))
    | int j => obtain ⟨t', rfl⟩ := ry; exact eq_int (fin_bl I q dec_int)
    | str j => obtain ⟨t', rfl⟩ := ry; exact PySem.EqMixed.eq_int_str (fin_bl I q (by simp))
    | _ => exact absurd (show false = true from hs) Bool.false_ne_true
  | str i =>
    obtain ⟨t, rfl⟩ := rx
    cases y with
    | non => cases ry; exact PySem.EqNone.eq_str_none (fin_bl I q (by simp))
    | bl j => cases ry; exact PySem.EqMixed.eq_str_bool (fin_bl I q (by simp))
    | int j => obtain ⟨t', rfl⟩ := ry; exact PySem.EqMixed.eq_str_int (fin_bl I q (by simp))
    | str j => obtain ⟨t', rfl⟩ := ry; exact eq_str (fin_bl I q dec_str)
    | _ => exact absurd (show false = true from hs) Bool.false_ne_true
  | byt i =>
    obtain ⟨t, rfl⟩ := rx
    cases y with
    | byt j => obtain ⟨t', rfl⟩ := ry; exact PySem.W.eq_bytes (fin_bl I q dec_byt)
    | _ => exact absurd (show false = true from hs) Bool.false_ne_true
  | _ => cases y <;> exact absurd (show false = true from hs) Bool.false_ne_true
theorem op_ne : OpR X (compareOp .NotEq) rNe := by
  intro pins s σ H x y v u Q I rx ry h
  obtain ⟨hs, q⟩ := h
  cases x with
  | non =>
    cases rx
    cases y with
    | non => cases ry; exact PySem.EqNone.ne_none_none (fin_bl I q (by simp))
    | bl j => cases ry; exact PySem.EqNone.ne_none_bool (fin_bl I q (by simp))
    | int j => obtain ⟨t', rfl⟩ := ry; exact PySem.EqNone.ne_none_int (fin_bl I q (by simp))
    | str j => obtain ⟨t', rfl⟩ := ry; exact PySem.EqNone.ne_none_str (fin_bl I q (by simp))
    | _ => exact absurd (show false = true from hs) Bool.false_ne_true
  | bl i =>
    cases rx
    cases y with
    | non => cases ry; exact PySem.EqNone.ne_bool_none (fin_bl I q (by simp))
    | bl j => cases ry; exact ne_bool (fin_bl I q (congrArg not dec_bl))
    | str j => obtain ⟨t', rfl⟩ := ry; exact PySem.EqMixed.ne_bool_str (fin_bl I q (by simp))
    | _ => exact absurd (show false = true from hs) Bool.false_ne_true
  | int i =>
    obtain ⟨t, rfl⟩ := rx
    cases y with
    | non => cases ry; exact PySem.EqNone.ne_int_none (fin_bl I q (by simp))
    | int j => obtain ⟨t', rfl⟩ := ry; exact ne_int (fin_bl I q (congrArg not dec_int))
    | str j => obtain ⟨t', rfl⟩ := ry; exact PySem.EqMixed.ne_int_str (fin_bl I q (by simp))
    | _ => exact absurd (show false = true from hs) Bool.false_ne_true
  | str i =>
    obtain ⟨t, rfl⟩ := rx
    cases y with
    | non => cases ry; exact PySem.EqNone.ne_str_none (fin_bl I q (by simp))
    | bl j => cases ry; exact PySem.EqMixed.ne_str_bool (fin_bl I q (by simp))
    | int j => obtain ⟨t', rfl⟩ := ry; exact PySem.EqMixed.ne_str_int (fin_bl I q (by simp))
    | str j => obtain ⟨t', rfl⟩ := ry; exact ne_str (fin_bl I q (congrArg not dec_str))
    | _ => exact absurd (show false = true from hs) Bool.false_ne_true
  | byt i =>
    obtain ⟨t, rfl⟩ := rx
    cases y with
    | byt j => obtain ⟨t', rfl⟩ := ry; exact PySem.W.ne_bytes (fin_bl I q (congrArg not dec_byt))
    | _ => exact absurd (show false = true from hs) Bool.false_ne_true
  | _ => cases y <;> exact absurd (show false = true from hs) Bool.false_ne_true

theorem op_lt : OpR X (compareOp .Lt) (rI0 fun i j => .bl (decide (i < j))) := opB0 fun _ _ _ _ _ _ _ q => lt_int q
theorem op_le : OpR X (compareOp .LtE) (rI0 fun i j => .bl (decide (i ≤ j))) := opB0 fun _ _ _ _ _ _ _ q => le_int q
theorem op_gt : OpR X (compareOp .Gt) (rI0 fun i j => .bl (decide (j < i))) := opB0 fun _ _ _ _ _ _ _ q => gt_int q
theorem op_ge : OpR X (compareOp .GtE) (rI0 fun i j => .bl (decide (j ≤ i))) := opB0 fun _ _ _ _ _ _ _ q => ge_int q
/-- two rules for one operation: by cases -/
theorem OpR.or {f : Value → Value → Sem Value} {r r' : R2} (h : OpR X f r) (h' : OpR X f r') : OpR X f (fun x y H Q => r x y H Q ∨ r' x y H Q) := by
  intro pins s σ H x y v u Q I rx ry q
  rcases q with q | q
  · exact h pins s σ H x y v u Q I rx ry q
  · exact h' pins s σ H x y v u Q I rx ry q

theorem nomark (b : Expr) {op : CmpOp} (h : op ≠ .In := by decide) (h2 : op ≠ .NotIn := by decide) : behindInMarks op b = false := by
  have e1 : (op == CmpOp.In) = false := by cases op <;> first | rfl | exact absurd rfl h
  have e2 : (op == CmpOp.NotIn) = false := by cases op <;> first | rfl | exact absurd rfl h2
  cases b <;> simp [behindInMarks, e1, e2]
/-- a comparison as a value; hm: nomark b, or (for in, not in) by with_unfolding_all rfl -/
theorem pe_cmpR {op : CmpOp} {r : R2} (ho : OpR X (compareOp op) r) (ha : PE X a ta) (hb : PE X b tb) (hm : behindInMarks op b = false) : PE X (.Compare a [op] [b] pos) (tOp r ta tb) := by
  intro pins s σ H Q I h
  exact wpAny_Compare1 (binT ha hb I h fun v u s2 x y H2 I2 rx ry q => ho pins s2 σ H2 x y v u Q I2 rx ry q) hm
/-- a reading of a value as a test -/
def tTest (t : TE) : TT := fun σ H Q => t σ H fun x H' => ∃ k, x = .bl k ∧ Q k H'
theorem pt_cmpR {op : CmpOp} {r : R2} (ho : OpR X (compareOp op) r) (ha : PE X a ta) (hb : PE X b tb) (hm : behindInMarks op b = false) : PT X (.Compare a [op] [b] pos) (tTest (tOp r ta tb)) := by
  intro pins s σ H Q I h
  refine wpAny_isTrue_Compare1 (thn (ha pins s σ H _ I h) fun v s1 ⟨x, H1, I1, r1, q1⟩ => thn (hb pins s1 σ H1 _ I1 q1) fun u s2 ⟨y, H2, I2, r2, q2⟩ =>
    thn (ho pins s2 σ H2 x y v u _ I2 r1 r2 q2) fun c s3 ⟨z, H3, I3, r3, k, e, q3⟩ => ?_) hm
  subst e
  cases r3
  exact wpAny_truthy_bool ⟨H3, I3, q3⟩
/-- a op1 b op2 c -/
def tChain (r r' : R2) (ta tb tc : TE) : TE := fun σ H Q => ta σ H fun x H1 => tb σ H1 fun y H2 => r x y H2 fun z H3 => ∃ k, z = .bl k ∧
  (if k = true then tc σ H3 fun w' H4 => r' y w' H4 Q else Q (.bl false) H3)
theorem pe_chain {op op' : CmpOp} {r r' : R2} (ho : OpR X (compareOp op) r) (ho' : OpR X (compareOp op') r') (ha : PE X a ta) (hb : PE X b tb) (hc : PE X c tc)
    (hm : lastMarks [op, op'] [b, c] = false := by with_unfolding_all rfl) : PE X (.Compare a [op, op'] [b, c] pos) (tChain r r' ta tb tc) := by
  intro pins s σ H Q I h
  refine Compare_chain (thn (ha pins s σ H _ I h) fun v s1 ⟨x, H1, I1, r1, q1⟩ => chain_link (thn (hb pins s1 σ H1 _ I1 q1) fun u s2 ⟨y, H2, I2, r2, q2⟩ =>
    thn (ho pins s2 σ H2 x y v u _ I2 r1 r2 q2) fun d s3 ⟨z, H3, I3, r3, k, e, q3⟩ => ?_)) hm
  subst e
  cases r3
  refine wpAny_truthy_bool ?_
  cases k with
  | false => exact ite_ff ⟨.bl false, H3, I3, rfl, q3⟩
  | true => exact ite_tt (chain_last (thn (hc pins s3 σ H3 _ I3 q3) fun w' s4 ⟨z', H4, I4, r4, q4⟩ => ho' pins s4 σ H4 y z' u w' Q I4 r2 r4 q4))
/-! ### truth -/
theorem line63 : (sizeLine : Nat) < 2 ^ 63 := by rw [sizeLine_eq]; decide
/-! ### strs and bytes -/
/-! ### scalar builtins, by CallR -/
theorem vals1 {x : V} {us : List Value} (r : Vals [x] us) : ∃ u, us = [u] ∧ RelV x u := by
  cases r with
  | cons r1 r2 => cases r2; exact ⟨_, rfl, r1⟩
theorem vals2 {x y : V} {us : List Value} (r : Vals [x, y] us) : ∃ u w', us = [u, w'] ∧ RelV x u ∧ RelV y w' := by
  cases r with
  | cons r1 r2 =>
    cases r2 with
    | cons r3 r4 => cases r4; exact ⟨_, _, rfl, r1, r3⟩
theorem call_max2 (hc : X.calm = true) : CallR X (.builtin "max") (fun xs H Q => ∃ i j, xs = [.int i, .int j] ∧ Q (.int (if j > i then j else i)) H) := by
  intro pins s σ H xs us Q I r h
  obtain ⟨i, j, rfl, q⟩ := h
  obtain ⟨u, w', rfl, ⟨t, rfl⟩, ⟨t', rfl⟩⟩ := vals2 r
  refine max_two_ints (I.ok.hd hc) fun h' tk k => ⟨_, H, I.kept k, ?_, q⟩
  by_cases hj : j > i
  · rw [if_pos hj, if_pos hj]; exact ⟨_, rfl⟩
  · rw [if_neg hj, if_neg hj]; exact ⟨_, rfl⟩
theorem call_min2 (hc : X.calm = true) : CallR X (.builtin "min") (fun xs H Q => ∃ i j, xs = [.int i, .int j] ∧ Q (.int (if j < i then j else i)) H) := by
  intro pins s σ H xs us Q I r h
  obtain ⟨i, j, rfl, q⟩ := h
  obtain ⟨u, w', rfl, ⟨t, rfl⟩, ⟨t', rfl⟩⟩ := vals2 r
  refine min_two_ints (I.ok.hd hc) fun h' tk k => ⟨_, H, I.kept k, ?_, q⟩
  by_cases hj : j < i
  · rw [if_pos hj, if_pos hj]; exact ⟨_, rfl⟩
  · rw [if_neg hj, if_neg hj]; exact ⟨_, rfl⟩
end
end L2

namespace L2
open PySem PySem.Spec PyProof.Rows

/-! ### an instance, its attributes a map -/
structure ObjM (h : Heap) (x dx C : Addr) (mA : Str → Option Value) : Prop where
  obj : h.get? x = some (PySem.W.instObj C dx)
  ns : h.Ns1 dx mA
  ne : dx ≠ x

theorem lookIn_ns {h : Heap} {dx : Addr} {mA : Str → Option Value} (n : h.Ns1 dx mA) : ∃ od, h.get? dx = some od ∧ ∀ name, PySem.W.lookIn name od = some (mA name) := by
  obtain ⟨o, es, ep, ho, hd, hk, _, hm⟩ := n
  refine ⟨o, ho, fun name => ?_⟩
  have e := hm name
  unfold nsFind findBy at e
  rw [← Array.find?_toList] at e
  unfold PySem.W.lookIn
  rw [hd]
  dsimp only
  split
  · rename_i y q
    rw [q] at e
    exact congrArg some e
  · rename_i q
    rw [q] at e
    have a : es.toList.any (·.refKey) = false := by
      rw [List.any_eq_false]
      intro y hy
      obtain ⟨z, t, hkey⟩ := hk y (Array.mem_toList_iff.mp hy)
      simp [DictEntry.refKey, hkey]
    have a' : ¬ es.toList.any (·.refKey) = true := by rw [a]; exact Bool.false_ne_true
    rw [if_neg a']
    exact congrArg some e

theorem ObjM.look {h : Heap} {x dx C : Addr} {mA : Str → Option Value} (I : ObjM h x dx C mA) : ∃ od, PySem.W.InstAt h x (PySem.W.instObj C dx) C (some od) ∧ ∀ name, PySem.W.lookIn name od = some (mA name) :=
  let ⟨od, ho, hl⟩ := lookIn_ns I.ns
  ⟨od, ⟨I.obj, rfl, rfl, ho⟩, hl⟩

section
variable {prog : Program} {w : World} {A : Around} {E : Value → Shared → Prop} {s : Shared} {K : PySem.W.Frag} {x dx C f : Addr} {mA : Str → Option Value} {name : Str} {v : Value}

theorem get_map {expr : Bool} {Q : Value → Shared → Prop} (X : K.In s.heap) (I : ObjM s.heap x dx C mA) (hg : PySem.W.plainGet K C name = true) (hh : PySem.W.hasDictIn K C = true)
    (ha : PySem.W.findIn K (.ref C) name = some none) (hv : mA name = some v) (hv' : PySem.W.handedIn v = true) (h : Q v { s with toks := s.toks + 1 }) :
    wpAny (model prog w) A (getAttr (.ref x) name expr) Q E s := by
  obtain ⟨od, J, hl⟩ := I.look
  exact PySem.W.get_value X J (PySem.W.plainGet_of hg).1 (PySem.W.findObj_own hh ha rfl (by rw [hl, hv])) hv' h

theorem get_meth {pl : Sem Bool} {Q : Value × List Value → Shared → Prop} (X : K.In s.heap) (I : ObjM s.heap x dx C mA) (hg : PySem.W.plainGet K C name = true)
    (hf : PySem.W.findIn K (.ref C) name = some (some (.ref f))) (ht : PySem.W.isFn K (.ref f) = true) (hv : mA name = none) (h : Q (.ref f, [.ref x]) s) :
    wpAny (model prog w) A (getMethod (.ref x) name pl) Q E s := by
  obtain ⟨od, J, hl⟩ := I.look
  exact PySem.W.method_fn X J (PySem.W.plainGet_of hg).1 (PySem.W.plainGet_of hg).2 hf (beq_iff_eq.mp ht) (by show (PySem.W.lookIn name od).map (·.isSome) = some false; rw [hl, hv]; rfl) h

theorem set_map {ns : List Str} {Q : Unit → Shared → Prop} (X : K.In s.heap) (I : ObjM s.heap x dx C mA)
    (hs : PySem.W.findIn K (.ref C) "__setattr__" = some (some (.builtin "object.__setattr__"))) (hp : PySem.W.plainOver K C = true) (ht : PySem.W.takerIn K C name = some none) (hh : PySem.W.hasDictIn K C = true)
    (hw : PySem.Within mA ns) (hsz : ns.length ≤ sizeLine)
    (h : ∀ h', ObjM h' x dx C (fun y => if y = name then some v else mA y) → Heap.SameBut dx s.heap h' → Q () { s with heap := h', toks := s.toks + 2 }) :
    wpAny (model prog w) A (setAttr (.ref x) name v) Q E s := by
  obtain ⟨od, J, hl⟩ := I.look
  refine PySem.W.set_plain X J hs (PySem.W.osa_open (s := { s with toks := s.toks + 1 }) (r := none) X J hp ht fun b => ?_)
  obtain ⟨cd, hc, hd'⟩ := PySem.W.any_some hh
  have hx : s.heap.get? x = some ⟨.ref C, some dx, .plain, #[]⟩ := I.obj
  refine wpAny_bind (wpAny_pure (wpAny_bind (wpAny_bind (wpAny_loadPart hx (wpAny_bind (PySem.W.Looks.here (s := { s with toks := s.toks + 1 }) (PySem.W.looks_clsIn X hc) ?_))))))
  rw [hd']
  refine wpAny_pure (a := some dx) (wpAny_bind (wpAny_pure (wpAny_bind ?_)))
  refine wpAny_nsSet1 (s := { s with toks := s.toks + 1 }) I.ns fun h' hn2 hs2 => ?_
  obtain ⟨oD, esD, epD, hoD, hdD, hcD⟩ := hn2.count (PySem.Within.cons name v hw)
  refine wpAny_bind (wpAny_lookBehind hoD (by rw [hdD]; exact pastItsLine_dict (Nat.le_trans hcD (by rw [List.length_cons]; omega))) ?_)
  exact wpAny_pure (h _ ⟨(hs2.2 _ (Ne.symm I.ne)).trans I.obj, hn2, I.ne⟩ hs2)

/-- C(..): the dict at the heap's end, the instance behind it; then its __init__ -/
theorem make_map {R : Result → Shared → Prop} {vs : List Value} {kw : List (Str × Value)} (X : K.In s.heap) (hm : PySem.W.makesIn K C = true)
    (hi : PySem.W.findIn K (.ref C) "__init__" = some (some (.ref f))) (hf : PySem.W.typeIn K (.ref f) = some (.type "function"))
    (h : codeAny (model prog w) (A.under (.builtin "type.__call__" ⟨.ref C :: vs, kw⟩)) (.call (.ref f) ⟨.ref (s.heap.objs.size + 1) :: vs, kw⟩) (PySem.W.InitBack (s.heap.objs.size + 1) R)
      { s with heap := (s.heap.push PySem.W.emptyDict).push (PySem.W.instObj C s.heap.objs.size) }) :
    codeAny (model prog w) A (.call (.ref C) ⟨vs, kw⟩) R s := by
  obtain ⟨hh, g, d, t, os⟩ := s
  exact PySem.W.make_core (PySem.W.makes_of X hm) (PySem.W.looks_findIn X hi) (fun self => PySem.W.bind_fn X self hf) (.inl rfl) h
end

/-! ### the attributes as a list of pairs -/
def putF (f : Str) (v : V) : List (Str × V) → List (Str × V)
  | [] => [(f, v)]
  | (g, x) :: r => if g = f then (g, v) :: r else (g, x) :: putF f v r
theorem lookup_putF (f g : Str) (v : V) : ∀ fs : List (Str × V), (putF f v fs).lookup g = if g = f then some v else fs.lookup g
  | [] => by
    show List.lookup g [(f, v)] = _
    by_cases h : g = f
    · have hb : (g == f) = true := beq_iff_eq.mpr h
      simp only [List.lookup, hb, if_pos h]
    · have hb : (g == f) = false := beq_eq_false_iff_ne.mpr h
      simp only [List.lookup, hb, if_neg h]
  | (k, x) :: r => by
    have ih := lookup_putF f g v r
    rw [show putF f v ((k, x) :: r) = (if k = f then (k, v) :: r else (k, x) :: putF f v r) from rfl]
    by_cases hk : k = f
    · rw [if_pos hk]
      by_cases h : g = k
      · have hb : (g == k) = true := beq_iff_eq.mpr h
        simp only [List.lookup, hb, if_pos (h.trans hk)]
      · have hb : (g == k) = false := beq_eq_false_iff_ne.mpr h
        simp only [List.lookup, hb, if_neg (fun e : g = f => h (e.trans hk.symm))]
    · rw [if_neg hk]
      by_cases h : g = k
      · have hb : (g == k) = true := beq_iff_eq.mpr h
        simp only [List.lookup, hb, if_neg (fun e : g = f => hk (h.symm.trans e))]
      · have hb : (g == k) = false := beq_eq_false_iff_ne.mpr h
        simp only [List.lookup, hb]
        exact ih
theorem keys_putF (f : Str) (v : V) : ∀ fs : List (Str × V), f ∈ (putF f v fs).map (·.1) ∧ ∀ g, g ∈ fs.map (·.1) → g ∈ (putF f v fs).map (·.1)
  | [] => ⟨by simp [putF], fun g h => by simp at h⟩
  | (k, x) :: r => by
    obtain ⟨i1, i2⟩ := keys_putF f v r
    rw [show putF f v ((k, x) :: r) = (if k = f then (k, v) :: r else (k, x) :: putF f v r) from rfl]
    by_cases hk : k = f
    · rw [if_pos hk]
      subst hk
      exact ⟨by simp, fun g h => by simpa using h⟩
    · rw [if_neg hk]
      refine ⟨?_, fun g h => ?_⟩
      · rw [List.map_cons]
        exact List.mem_cons_of_mem _ i1
      · rw [List.map_cons] at h ⊢
        rcases List.mem_cons.mp h with e | e
        · exact List.mem_cons.mpr (.inl e)
        · exact List.mem_cons_of_mem _ (i2 g e)
theorem length_putF (f : Str) (v : V) : ∀ fs : List (Str × V), (putF f v fs).length ≤ fs.length + 1
  | [] => by simp [putF]
  | (k, x) :: r => by
    have ih := length_putF f v r
    rw [show putF f v ((k, x) :: r) = (if k = f then (k, v) :: r else (k, x) :: putF f v r) from rfl]
    by_cases hk : k = f
    · rw [if_pos hk, List.length_cons, List.length_cons]; omega
    · rw [if_neg hk, List.length_cons, List.length_cons]; omega

theorem RelO.some_of {v : V} {o : Option Value} (r : RelO (some v) o) : ∃ u, o = some u ∧ RelV v u := by
  cases o with
  | none => exact (show False from r).elim
  | some u => exact ⟨u, rfl, r⟩
theorem RelO.none_of {o : Option Value} (r : RelO none o) : o = none := by
  cases o with
  | none => rfl
  | some u => exact (show False from r).elim
theorem handed_of {v : V} {u : Value} (r : RelV v u) : PySem.W.handedIn u = true := by
  cases v with
  | non => cases (show u = Value.none from r); rfl
  | bl b => cases (show u = Value.bool b from r); rfl
  | int i => obtain ⟨t, e⟩ := (show ∃ t, u = Value.int i t from r); cases e; rfl
  | str x => obtain ⟨t, e⟩ := (show ∃ t, u = Value.str x t from r); cases e; rfl
  | byt b => obtain ⟨t, e⟩ := (show ∃ t, u = Value.bytes b t from r); cases e; rfl
  | flt b => obtain ⟨t, e⟩ := (show ∃ t, u = Value.float b t from r); cases e; rfl
  | ref a => cases (show u = Value.ref a from r); rfl
  | ty n => cases (show u = Value.type n from r); rfl

section
variable {P : Program} {w : World} {H H' : Hp} {h h' : Heap} {a C dx : Addr} {fs fs' : List (Str × V)}
theorem ins_get (hok : HOk P w H h) (e : H a = some (.ins C dx fs)) : ∃ mA, ObjM h a dx C mA ∧ (∀ f, RelO (fs.lookup f) (mA f)) ∧ PySem.Within mA (fs.map (·.1)) ∧ fs.length ≤ 1000 ∧ H dx = some (.own a) := by
  obtain ⟨d, z, ne, ob, mA, n, r, q⟩ := (show ObjOk P w H h a (.ins C dx fs) from hok a _ e)
  exact ⟨mA, ⟨ob, n, ne⟩, r, q, z, d⟩
end

/-! ### what of the text a class must have -/
structure Cls (K : PySem.W.Frag) (C : Addr) : Prop where
  pg : PySem.W.plainGet K C Str.empty = true
  hd : PySem.W.hasDictIn K C = true
  po : PySem.W.plainOver K C = true
  sa : PySem.W.findIn K (.ref C) "__setattr__" = some (some (.builtin "object.__setattr__"))
theorem Cls.get {K : PySem.W.Frag} {C : Addr} (c : Cls K C) (f : Str) : PySem.W.plainGet K C f = true := c.pg
/-- no class of it has the name -/
def NoAttr (K : PySem.W.Frag) (C : Addr) (f : Str) : Prop := PySem.W.findIn K (.ref C) f = some none
theorem NoAttr.taker {K : PySem.W.Frag} {C : Addr} {f : Str} (n : NoAttr K C f) : PySem.W.takerIn K C f = some none := by
  unfold PySem.W.takerIn
  rw [show PySem.W.findIn K (.ref C) f = some none from n]
  rfl
/-- a method: a plain def of the class or of one above it -/
structure Meth (K : PySem.W.Frag) (C : Addr) (m : Str) (f : Addr) : Prop where
  at_ : PySem.W.findIn K (.ref C) m = some (some (.ref f))
  fn : PySem.W.isFn K (.ref f) = true
  kp : PySem.W.keepIn K (.ref f) = true

section
variable {X : Cx} {pins : List (Addr × Obj)} {σ : St} {H : Hp} {s : Shared} {a C dx : Addr} {fs : List (Str × V)} {f : Str} {v : V} {A : Around} {E : Value → Shared → Prop}

theorem getattr_ok {b : Bool} {Q : Value → Shared → Prop} (I : Inv X pins σ H s) (e : H a = some (.ins C dx fs)) (c : Cls X.K C) (n : NoAttr X.K C f) (l : fs.lookup f = some v)
    (h : ∀ u s', Inv X pins σ H s' → RelV v u → Q u s') : wpAny (model X.prog X.w) A (getAttr (.ref a) f b) Q E s := by
  obtain ⟨mA, O, r, _, _, _⟩ := ins_get I.hok e
  obtain ⟨u, hu, ru⟩ := RelO.some_of (v := v) (o := mA f) (by rw [← l]; exact r f)
  exact get_map I.kIn O (c.get f) c.hd n hu (handed_of ru) (h u _ (I.tok _) ru)

theorem getmeth_ok {m : Str} {g : Addr} {pl : Sem Bool} {Q : Value × List Value → Shared → Prop} (I : Inv X pins σ H s) (e : H a = some (.ins C dx fs)) (c : Cls X.K C) (k : Meth X.K C m g) (l : fs.lookup m = none)
    (h : Q (.ref g, [.ref a]) s) : wpAny (model X.prog X.w) A (getMethod (.ref a) m pl) Q E s := by
  obtain ⟨mA, O, r, _, _, _⟩ := ins_get I.hok e
  have hn : mA m = none := RelO.none_of (by rw [← l]; exact r m)
  exact get_meth I.kIn O (c.get m) k.at_ k.fn hn h

theorem setattr_ok {y : V} {u : Value} {Q : Unit → Shared → Prop} (I : Inv X pins σ H s) (e : H a = some (.ins C dx fs)) (c : Cls X.K C) (n : NoAttr X.K C f) (hl : fs.length < 1000) (ry : RelV y u)
    (h : ∀ s', Inv X pins σ (upd H a (.ins C dx (putF f y fs))) s' → Q () s') : wpAny (model X.prog X.w) A (setAttr (.ref a) f u) Q E s := by
  obtain ⟨mA, O, r, wi, _, ho⟩ := ins_get I.hok e
  have hz : (fs.map (·.1)).length ≤ sizeLine := by rw [List.length_map, sizeLine_eq]; omega
  refine set_map I.kIn O c.sa c.po n.taker c.hd wi hz fun h' O' sb => h _ ?_
  have hd : ∃ o, h'.get? dx = some o := let ⟨o, _, _, e', _⟩ := O'.ns; ⟨o, e'⟩
  refine I.write (x := a) (e := dx) (by rw [e]; exact True.intro) (.inr ho) (fun b q hb z => (sb.2 b hb).trans z) hd ?_
  refine ⟨by rw [upd_ne O.ne]; exact ho, ?_, O.ne, O'.obj, _, O'.ns, fun g => ?_, fun g hg => ?_⟩
  · have := length_putF f y fs; omega
  · show RelO ((putF f y fs).lookup g) (if g = f then some u else mA g)
    rw [lookup_putF]
    by_cases q : g = f
    · rw [if_pos q, if_pos q]; exact ry
    · rw [if_neg q, if_neg q]; exact r g
  · by_cases q : g = f
    · rw [q]; exact (keys_putF f y fs).1
    · refine (keys_putF f y fs).2 g (wi g fun z => hg ?_)
      show (if g = f then some u else mA g) = none
      rw [if_neg q]; exact z

/-- a new instance, tracked, without attributes -/
theorem Inv.made (I : Inv X pins σ H s) : Inv X pins σ (upd (upd H s.heap.objs.size (.own (s.heap.objs.size + 1))) (s.heap.objs.size + 1) (.ins C s.heap.objs.size []))
    { s with heap := (s.heap.push PySem.W.emptyDict).push (PySem.W.instObj C s.heap.objs.size) } := by
  have e1 : (s.heap.push PySem.W.emptyDict).get? s.heap.objs.size = some PySem.W.emptyDict := Heap.get?_push_size s.heap rfl
  have e2 : ((s.heap.push PySem.W.emptyDict).push (PySem.W.instObj C s.heap.objs.size)).get? (s.heap.objs.size + 1) = some (PySem.W.instObj C s.heap.objs.size) := by
    have := Heap.get?_push_size (s.heap.push PySem.W.emptyDict) (o := PySem.W.instObj C s.heap.objs.size) rfl
    rwa [Heap.size_push] at this
  have e3 : (s.heap.push PySem.W.emptyDict).Ns s.heap.objs.size (fun _ => none) := ⟨PySem.W.emptyDict, #[], _, e1, rfl, (fun e he => absurd he (by simp)), fun _ => rfl⟩
  have I1 := I.laid (a := s.heap.objs.size) (o := .own (s.heap.objs.size + 1)) (h' := s.heap.push PySem.W.emptyDict) (t' := s.toks) (fun b u q => Heap.get?_push_of_some _ q) (Nat.le_refl _) ⟨_, e1⟩
  refine I1.laid (a := s.heap.objs.size + 1) (o := .ins C s.heap.objs.size []) (t' := s.toks) (fun b u q => Heap.get?_push_of_some _ q) (Nat.le_of_eq (Heap.size_push _ _)) ?_
  have ne : s.heap.objs.size ≠ s.heap.objs.size + 1 := Nat.ne_of_lt (Nat.lt_succ_self _)
  refine ⟨by rw [upd_ne ne, upd_same], Nat.zero_le _, ne, e2, fun _ => none, (Heap.Ns1.of_empty e3).at fun o q => Heap.get?_push_of_some _ q, fun _ => True.intro, fun y hy => absurd rfl hy⟩

/-- e.f where nothing but the object is asked: through attributeBase (super) and the last hold -/
theorem attr_of {prog : Program} {w : World} {env : Env} {e : Expr} {f : Str} {pos : Pos} {s : Shared} {Q : Value → Shared → Prop} (hb : attributeBase e f env (eval e env) = eval e env)
    (h : wpAny (model prog w) A (eval e env) (fun o s₁ => wpAny (model prog w) A (getAttr o f true) Q E s₁) E s) : wpAny (model prog w) A (eval (.Attribute e f pos) env) Q E s :=
  Attribute_any_ h (by rw [arm_eval_Attribute, hb])
end

/-! ### readings and rules -/
/-- e.f, an attribute of the instance -/
def tFld (K : PySem.W.Frag) (ta : TE) (f : Str) : TE := fun σ H Q => ta σ H fun x H1 => ∃ a C dx fs v, x = .ref a ∧ H1 a = some (.ins C dx fs) ∧ Cls K C ∧ NoAttr K C f ∧ fs.lookup f = some v ∧ Q v H1
/-- e.f = value -/
def sFld (K : PySem.W.Frag) (ta tv : TE) (f : Str) : TS := fun D σ H => tv σ H fun y H1 => ta σ H1 fun x H2 => ∃ a C dx fs, x = .ref a ∧ H2 a = some (.ins C dx fs) ∧ Cls K C ∧ NoAttr K C f ∧ fs.length < 1000 ∧
  D.nx σ (upd H2 a (.ins C dx (putF f y fs)))
section
variable {X : Cx} {o e value : Expr} {f : Str} {pos pos' tpos : Pos} {ta tv : TE}
theorem pe_fld (he : PE X e ta) (hb : attributeBase e f X.env (eval e X.env) = eval e X.env) : PE X (.Attribute e f pos) (tFld X.K ta f) := by
  intro pins s σ H Q I h
  refine attr_of hb (thn (he pins s σ H _ I h) fun u s1 ⟨x, H1, I1, rx, a, C, dx, fs, v, ex, ea, c, n, l, q⟩ => ?_)
  subst ex
  obtain rfl : u = Value.ref a := rx
  exact getattr_ok I1 ea c n l fun u' s2 I2 ru => ⟨v, H1, I2, ru, q⟩
theorem ps_fld (ha : PE X o ta) (hv : PE X value tv) (hs : swapsWith value (some (.Attribute o f pos')) pos.line X.env = pure false) : PS X (.Assign [.Attribute o f pos'] value pos) (sFld X.K ta tv f) := by
  intro pins s σ H D I h
  refine plainObj_wpAny_Assign_Attribute (thn (hv pins s σ H _ I h) fun u s1 ⟨y, H1, I1, ry, q⟩ => thn (ha pins s1 σ H1 _ I1 q) fun ov s2 ⟨x, H2, I2, rx, a, C, dx, fs, ex, ea, c, n, l, q2⟩ => ?_) hs
  subst ex
  obtain rfl : ov = Value.ref a := rx
  exact setattr_ok I2 ea c n l ry fun s3 I3 => ⟨σ, _, I3, q2⟩
end

/-! ### isinstance -/
section
variable {X : Cx} {pins : List (Addr × Obj)} {σ : St} {H : Hp} {s : Shared} {A : Around} {E : Value → Shared → Prop} {Q : Value → Shared → Prop} {c : Value} {b : Bool}
end
end L2

namespace L2
open PySem PySem.Spec PyProof.Rows

/-! ### room -/
structure Room (k : Nat) (A : Around) : Prop where
  hd : A.handled = none
  dp : A.depth + 3 * k + 5 < recursionLimit
  un : A.units + 16 * k + 200 < cLine
theorem Room.mono {j k : Nat} {A : Around} (r : Room k A) (h : j ≤ k) : Room j A := ⟨r.hd, by have := r.dp; omega, by have := r.un; omega⟩
theorem Room.deeper {k : Nat} {A : Around} (r : Room (k + 1) A) (env : Env) : Room k (A.deeper env) :=
  ⟨r.hd, by have := r.dp; show A.depth + 1 + 3 * k + 5 < _; omega, by have := r.un; show A.units + 3 + 16 * k + 200 < _; omega⟩
theorem Room.in1 {k : Nat} {A : Around} (r : Room (k + 1) A) : Room k A.in1 :=
  ⟨r.hd, by have := r.dp; show A.depth + 3 * k + 5 < _; omega, by have := r.un; show A.units + 1 + 16 * k + 200 < _; omega⟩
theorem make_depth {A : Around} {C : Addr} {us : List Value} {kw : List (Str × Value)} : (A.under (.builtin "type.__call__" ⟨.ref C :: us, kw⟩)).depth = A.depth + 1 := by
  first | rfl | simp [Around.under, Code.weight, Code.isCreation, Code.isGuard, Code.isCaller, Code.frames, Code.isFrame, guardIds]
theorem make_units {A : Around} {C : Addr} {us : List Value} {kw : List (Str × Value)} : (A.under (.builtin "type.__call__" ⟨.ref C :: us, kw⟩)).units = A.units + 1 := by
  first | rfl | simp [Around.under, Code.cUnits, Code.frames, Code.isFrame]
theorem Room.make {k : Nat} {A : Around} (r : Room (k + 1) A) (C : Addr) (us : List Value) (kw : List (Str × Value)) : Room k (A.under (.builtin "type.__call__" ⟨.ref C :: us, kw⟩)) :=
  ⟨r.hd, by have := r.dp; rw [make_depth]; omega, by have := r.un; rw [make_units]; omega⟩
theorem Room.depth {k : Nat} {A : Around} (r : Room k A) : A.depth < recursionLimit := by have := r.dp; omega
theorem Room.units {k : Nat} {A : Around} (r : Room k A) : A.units + 64 < cLine := by have := r.un; omega
/-! ### argument lists and displays -/
def tNil : TA := fun _ H Q => Q [] H
def tCons (ta : TE) (tr : TA) : TA := fun σ H Q => ta σ H fun x H1 => tr σ H1 fun xs H2 => Q (x :: xs) H2
section
variable {X : Cx} {e : Expr} {es : List Expr} {te : TE} {t : TA} {pos : Pos}
theorem pa_nil : PA X [] tNil := fun _ _ _ _ H Q I h => Calls.spliced_nil ⟨[], H, I, .nil, h⟩
theorem pa_cons (ha : PE X e te) (hr : PA X es t) (hs : starEach (e :: es) X.env = (false, eval e X.env) :: starEach es X.env := by rfl) : PA X (e :: es) (tCons te t) := by
  intro pos pins s σ H Q I h
  rw [hs]
  show wpAny _ _ (spliced ((false, eval e X.env) :: backTo pos (starEach es X.env))) _ _ s
  refine Calls.spliced_cons (thn (ha pins s σ H _ I h) fun u s1 ⟨x, H1, I1, r1, q1⟩ => ?_)
  exact thn (hr pos pins s1 σ H1 _ I1 q1) fun us s2 ⟨xs, H2, I2, r2, q2⟩ => ⟨x :: xs, H2, I2, .cons r1 r2, q2⟩

/-- a tuple, a list of written items -/
def tTup (t : TA) : TE := fun σ H Q => t σ H fun xs H1 => xs.length ≤ sizeLine ∧ ∀ p, H1 p = none → Q (.ref p) (upd H1 p (.tup xs))
def tLst (t : TA) : TE := fun σ H Q => t σ H fun xs H1 => xs.length ≤ sizeLine ∧ ∀ p, H1 p = none → Q (.ref p) (upd H1 p (.lst xs))
theorem pe_tup {x1} (h : PA X es t) : PE X (.Tuple es x1 pos) (tTup t) := by
  intro pins s σ H Q I hq
  refine wpAny_Tuple_spliced (thn (h pos pins s σ H _ I hq) fun us s1 ⟨xs, H1, I1, r, z, q⟩ => ⟨by rw [← r.length]; exact z, ?_⟩)
  have hf : H1 s1.heap.objs.size = none := I1.hok.fresh (Nat.le_refl _)
  refine ⟨.ref s1.heap.objs.size, upd H1 s1.heap.objs.size (.tup xs), I1.laid (t' := s1.toks) (fun b u e => Heap.get?_push_of_some _ e) (Nat.le_refl _) ?_, rfl, q _ hf⟩
  exact ⟨z, us, r, ⟨_, Heap.get?_push_size _ rfl, rfl, _, rfl⟩⟩
theorem pe_lst (h : PA X es t) : PE X (.List es pos) (tLst t) := by
  intro pins s σ H Q I hq
  refine wpAny_List_spliced (thn (h pos pins s σ H _ I hq) fun us s1 ⟨xs, H1, I1, r, z, q⟩ => ⟨by rw [← r.length]; exact z, ?_⟩)
  have hf : H1 s1.heap.objs.size = none := I1.hok.fresh (Nat.le_refl _)
  refine ⟨.ref s1.heap.objs.size, upd H1 s1.heap.objs.size (.lst xs), I1.laid (t' := s1.toks) (fun b u e => Heap.get?_push_of_some _ e) (Nat.le_refl _) ?_, rfl, q _ hf⟩
  exact ⟨z, us, 0, r, Heap.get?_push_size _ rfl⟩
end

/-! ### what a def promises -/
/-- a def's promise: the bound arguments in the parameters' order, the heap, the wanted end, the wanted exception -/
abbrev Sp := List V → Hp → VK → XK → Prop
/-- how an exception lies behind a call (file 08 gives it): the callers' frames, abstract heap and state ahead of the call, the wish, the exception, the state -/
abbrev CXT := List Env → Hp → Shared → XK → Value → Shared → Prop

/-- the state at a call -/
structure Env0 (P : Program) (w : World) (K : PySem.W.Frag) (mg : Str → Option Value) (base : Heap) (A : Around) (outer : List Env) (s : Shared) (H : Hp) : Prop where
  frames : A.frames = some outer
  mod : Mod K mg base
  bs : ∀ b o, base.get? b = some o → s.heap.get? b = some o ∧ H b = none
  bsz : base.objs.size ≤ s.heap.objs.size
  funs : s.heap.FunFrames base outer
  frf : ∀ b ∈ frs outer, H b = none
  hok : HOk P w H s.heap
  bare : AllBare s.gens
/-- a call's end -/
def CE (outer : List Env) (P : Program) (w : World) (H : Hp) (s : Shared) (Q : VK) (u : Value) (s' : Shared) : Prop :=
  ∃ v H', s'.os = s.os ∧ AllBare s'.gens ∧ Un (frs outer) [] H H' s.heap s'.heap ∧ HOk P w H' s'.heap ∧ RelV v u ∧ Q v H'
def CR (CX : CXT) (outer : List Env) (P : Program) (w : World) (H : Hp) (s : Shared) (Q : VK) (E : XK) (r : Result) (s' : Shared) : Prop :=
  match r with
  | .ok (.ret u) => CE outer P w H s Q u s'
  | .ok _ => False
  | .error e => CX outer H s E e s'
structure FnOk (P : Program) (w : World) (K : PySem.W.Frag) (mg : Str → Option Value) (base : Heap) (CX : CXT) (k : Nat) (f : Addr) (fd : FuncData) (ps : List Str) (sp : Sp) : Prop where
  len : ∀ vs H Q E, sp vs H Q E → vs.length = ps.length
  run : ∀ (A : Around) (outer : List Env) (s : Shared) (H : Hp) (args : Args) (us : List Value) (vs : List V) (Q : VK) (E : XK), Room k A → Env0 P w K mg base A outer s H → BindsTo s fd args (ps.zip us) → Vals vs us → sp vs H Q E →
    codeAny (model P w) A (.call (.ref f) args) (CR CX outer P w H s Q E) s
theorem FnOk.mono {P : Program} {w : World} {K : PySem.W.Frag} {mg : Str → Option Value} {base : Heap} {CX : CXT} {j k : Nat} {f : Addr} {fd : FuncData} {ps : List Str} {sp : Sp} (F : FnOk P w K mg base CX j f fd ps sp) (h : j ≤ k) :
    FnOk P w K mg base CX k f fd ps sp := ⟨F.len, fun A outer s H args us vs Q E hr => F.run A outer s H args us vs Q E (hr.mono h)⟩
theorem Env0.make {P : Program} {w : World} {K : PySem.W.Frag} {mg : Str → Option Value} {base : Heap} {A : Around} {outer : List Env} {s : Shared} {H : Hp} (e : Env0 P w K mg base A outer s H) (C : Addr) (us : List Value) (kw : List (Str × Value)) :
    Env0 P w K mg base (A.under (.builtin "type.__call__" ⟨.ref C :: us, kw⟩)) outer s H := ⟨by first | exact e.frames | (simpa [Around.under, Code.envs, Code.isFrame, pushEnvs] using e.frames), e.mod, e.bs, e.bsz, e.funs, e.frf, e.hok, e.bare⟩
theorem Env0.in1 {P : Program} {w : World} {K : PySem.W.Frag} {mg : Str → Option Value} {base : Heap} {A : Around} {outer : List Env} {s : Shared} {H : Hp} (e : Env0 P w K mg base A outer s H) :
    Env0 P w K mg base A.in1 outer s H := ⟨e.frames, e.mod, e.bs, e.bsz, e.funs, e.frf, e.hok, e.bare⟩

section
variable {X : Cx} {pins : List (Addr × Obj)} {σ : St} {H : Hp} {s s' : Shared}
/-- from a body: what a callee wants -/
theorem Inv.env0 (I : Inv X pins σ H s) : Env0 X.prog X.w X.K X.mg X.base X.A X.stack s H :=
  ⟨I.ok.frames, I.ok.mod, I.bs, Nat.le_trans I.ok.bsz I.sz, I.stack, I.stkFree, I.hok, I.bare⟩
/-- behind a call -/
theorem Inv.after {Q : VK} {u : Value} (I : Inv X pins σ H s) (h : CE X.stack X.prog X.w H s Q u s') : EP X pins σ Q u s' := by
  obtain ⟨v, H', os, bare, un, hok, r, q⟩ := h
  obtain ⟨hh, g, d, t, os'⟩ := s'
  obtain rfl : os' = s.os := os
  exact ⟨v, H', I.call (h' := hh) (g' := g) (d' := d) (t' := t) (ch := []) un hok bare (fun b z => absurd z (by simp)), r, q⟩
end

/-! ### calls -/
/-- f(..): the written arguments, then the defaults dvs; E: what is wanted of an exception -/
def tCall (sp : Sp) (dvs : List V) (E : XK) (t : TA) : TE := fun σ H Q => t σ H fun vs H1 => sp (vs ++ dvs) H1 Q E
/-- o.m(..) of an instance of the class at C -/
def tMeth (C : Addr) (m : Str) (sp : Sp) (dvs : List V) (E : XK) (ta : TE) (t : TA) : TE := fun σ H Q => ta σ H fun x H1 => ∃ a dx fs, x = .ref a ∧ H1 a = some (.ins C dx fs) ∧ fs.lookup m = none ∧
  t σ H1 fun vs H2 => sp (x :: (vs ++ dvs)) H2 Q E
/-- C(..): a new instance and its dict, then __init__ -/
def tMake (C : Addr) (sp : Sp) (dvs : List V) (E : XK) (t : TA) : TE := fun σ H Q => t σ H fun vs H1 => ∀ x dx, H1 x = none → H1 dx = none → dx ≠ x →
  sp (.ref x :: (vs ++ dvs)) (upd (upd H1 dx (.own x)) x (.ins C dx [])) (fun v H2 => v = .non ∧ Q (.ref x) H2) E

/-- how the parameters are bound: us the positional arguments, kw the keywords' values by name, ds the defaults that fill up -/
def Binds (K : PySem.W.Frag) (fd : FuncData) (ps : List Str) (ds : List Value) : Prop :=
  ∀ (s : Shared) (us : List Value), K.In s.heap → (us ++ ds).length = ps.length → BindsTo s fd ⟨us, []⟩ (ps.zip (us ++ ds))
/-- every parameter is given -/
theorem Binds.all {K : PySem.W.Frag} {fd : FuncData} {ps : List Str} (h : ∀ us : List Value, us.length = ps.length → bindArgs fd ⟨us, []⟩ = pure (ps.zip us)) : Binds K fd ps [] := fun s us _ hl => by
  rw [List.append_nil] at hl ⊢
  exact .of_eq (h us hl)

/-- an exception of a callee reaches what this body wants of exceptions -/
def Passes (CX : CXT) (X : Cx) (E : XK) : Prop := ∀ (pins : List (Addr × Obj)) (σ : St) (H : Hp) (s : Shared) (e : Value) (s' : Shared), Inv X pins σ H s → CX X.stack H s E e s' → X.xe e s'

section
variable {X : Cx} {CX : CXT} {k : Nat} {f C : Addr} {fd : FuncData} {ps : List Str} {sp : Sp} {dvs : List V} {ds : List Value} {E : XK} {x m : Str} {p pos apos : Pos} {e o : Expr} {es : List Expr} {ta : TE} {t : TA}

/-- the callee runs -/
theorem run_fn {pins : List (Addr × Obj)} {σ : St} {H : Hp} {s : Shared} {Q : VK} {us : List Value} {vs : List V} (F : FnOk X.prog X.w X.K X.mg X.base CX k f fd ps sp) (hr : Room k X.A) (hb : Binds X.K fd ps ds) (hd : Vals dvs ds) (hx : Passes CX X E)
    (I : Inv X pins σ H s) (r : Vals vs us) (h : sp (vs ++ dvs) H Q E) : wpAny (model X.prog X.w) X.A (call (.ref f) us) (EP X pins σ Q) X.xe s := by
  have r2 : Vals (vs ++ dvs) (us ++ ds) := r.append hd
  have hl : (us ++ ds).length = ps.length := by rw [← r2.length]; exact F.len _ _ _ _ h
  refine wpAny_call (codeAny_mono (F.run X.A X.stack s H ⟨us, []⟩ (us ++ ds) (vs ++ dvs) Q E hr I.env0 (hb s us I.kIn hl) r2 h) fun r s' hq => ?_)
  cases r with
  | error e => exact hx pins σ H s e s' I hq
  | ok fl =>
    cases fl with
    | ret u => exact I.after hq
    | next => exact False.elim hq
    | brk => exact False.elim hq
    | cont => exact False.elim hq

theorem pe_call (F : FnOk X.prog X.w X.K X.mg X.base CX k f fd ps sp) (hr : Room k X.A) (hg : Gl X x) (hm : X.mg x = some (.ref f)) (hk : PySem.W.keepIn X.K (.ref f) = true) (hb : Binds X.K fd ps ds) (hd : Vals dvs ds) (hx : Passes CX X E)
    (ha : PA X (e :: es) t) (hdb : (x == ("__debug__" : Str)) = false := by decide) (he : starEach (e :: es) X.env = (false, eval e X.env) :: starEach es X.env := by rfl) (hpl : (backTo pos (starEach es X.env)).any (·.1) = false := by rfl) :
    PE X (.Call (.Name x p) (e :: es) [] pos) (tCall sp dvs E t) := by
  intro pins s σ H Q I h
  refine wpAny_Call_Name_kw (ld_glob I hg hm ?_ hdb)
  refine PySem.W.callWith_K (h₀ := X.base) I.ok.mod.kin hk (thn (ha pos pins s σ H _ I h) fun us s1 ⟨vs, H1, I1, r, q⟩ => ⟨I1.kIn, ?_⟩) he hpl
  exact run_fn F hr hb hd hx I1 r q
/-- o.m(e, ..) -/
theorem pe_meth {pl : Sem Bool} (he : PE X o ta) (c : Cls X.K C) (hm : Meth X.K C m f) (F : FnOk X.prog X.w X.K X.mg X.base CX k f fd ps sp) (hr : Room k X.A) (hb : Binds X.K fd ps ds) (hd : Vals dvs ds) (hx : Passes CX X E) (ha : PA X (e :: es) t)
    (hst : starEach (e :: es) X.env = (false, eval e X.env) :: starEach es X.env := by rfl) (hpl : (backTo pos (starEach es X.env)).any (·.1) = false := by rfl)
    (ht : eval (.Call (.Attribute o m apos) (e :: es) [] pos) X.env = (do
      let ov ← eval o X.env
      standAt apos.atName
      let (f, first) ← holding [ov] (getMethod ov m pl)
      callWith pos f first (backTo pos (starEach (e :: es) X.env)) (backToKw pos (keywordEach [] X.env))) := by rfl) :
    PE X (.Call (.Attribute o m apos) (e :: es) [] pos) (tMeth C m sp dvs E ta t) := by
  intro pins s σ H Q I h
  refine PySem.W.methodCall_KW (pl := pl) (thn (he pins s σ H _ I h) fun u s1 ⟨x, H1, I1, rx, a, dx, fs, ex, ea, l, q⟩ => ?_) ht
  subst ex
  obtain rfl : u = Value.ref a := rx
  refine getmeth_ok I1 ea c hm l ?_
  refine PySem.W.callWith_K (first := [.ref a]) (h₀ := X.base) I.ok.mod.kin hm.kp (thn (ha pos pins s1 σ H1 _ I1 q) fun us s2 ⟨vs, H2, I2, r, q2⟩ => ⟨I2.kIn, ?_⟩) hst hpl
  exact run_fn (us := .ref a :: us) (vs := .ref a :: vs) F hr hb hd hx I2 (.cons rfl r) q2
/-- o.m() -/
theorem pe_meth0 {pl : Sem Bool} (he : PE X o ta) (c : Cls X.K C) (hm : Meth X.K C m f) (F : FnOk X.prog X.w X.K X.mg X.base CX k f fd ps sp) (hr : Room k X.A) (hb : Binds X.K fd ps ds) (hd : Vals dvs ds) (hx : Passes CX X E)
    (ht : eval (.Call (.Attribute o m apos) [] [] pos) X.env = (do
      let ov ← eval o X.env
      standAt apos.atName
      let (f, first) ← holding [ov] (getMethod ov m pl)
      callWith pos f first (backTo pos (starEach [] X.env)) (backToKw pos (keywordEach [] X.env))) := by rfl) :
    PE X (.Call (.Attribute o m apos) [] [] pos) (tMeth C m sp dvs E ta tNil) := by
  intro pins s σ H Q I h
  refine PySem.W.methodCall_KW (pl := pl) (thn (he pins s σ H _ I h) fun u s1 ⟨x, H1, I1, rx, a, dx, fs, ex, ea, l, q⟩ => ?_) ht
  subst ex
  obtain rfl : u = Value.ref a := rx
  refine getmeth_ok I1 ea c hm l ?_
  exact PySem.W.callWith_K0 (first := [.ref a]) I1.kIn hm.kp (run_fn (us := [.ref a]) (vs := [.ref a]) F hr hb hd hx I1 (.cons rfl .nil) q)

/-- what a class must have to be made -/
structure Mk (K : PySem.W.Frag) (C f : Addr) : Prop where
  makes : PySem.W.makesIn K C = true
  init : PySem.W.findIn K (.ref C) "__init__" = some (some (.ref f))
  fn : PySem.W.isFn K (.ref f) = true
  kp : PySem.W.keepIn K (.ref C) = true

theorem run_make {pins : List (Addr × Obj)} {σ : St} {H : Hp} {s : Shared} {Q : VK} {us : List Value} {vs : List V} (M : Mk X.K C f) (F : FnOk X.prog X.w X.K X.mg X.base CX k f fd ps sp) (hr : Room (k + 1) X.A) (hb : Binds X.K fd ps ds) (hd : Vals dvs ds)
    (hx : Passes CX X E) (I : Inv X pins σ H s) (r : Vals vs us)
    (h : ∀ x dx, H x = none → H dx = none → dx ≠ x → sp (.ref x :: (vs ++ dvs)) (upd (upd H dx (.own x)) x (.ins C dx [])) (fun v H2 => v = .non ∧ Q (.ref x) H2) E) :
    wpAny (model X.prog X.w) X.A (call (.ref C) us) (EP X pins σ Q) X.xe s := by
  have hq := h (s.heap.objs.size + 1) s.heap.objs.size (I.hok.fresh (Nat.le_succ _)) (I.hok.fresh (Nat.le_refl _)) (Nat.ne_of_lt (Nat.lt_succ_self _))
  have I2 := Inv.made (C := C) I
  have r2 : Vals (V.ref (s.heap.objs.size + 1) :: (vs ++ dvs)) (Value.ref (s.heap.objs.size + 1) :: (us ++ ds)) := .cons rfl (r.append hd)
  have hl : (Value.ref (s.heap.objs.size + 1) :: us ++ ds).length = ps.length := by
    have e := r2.length
    rw [F.len _ _ _ _ hq] at e
    exact e.symm
  refine wpAny_call (make_map (f := f) I.kIn M.makes M.init (beq_iff_eq.mp M.fn) (codeAny_mono (F.run _ X.stack _ _ ⟨Value.ref (s.heap.objs.size + 1) :: us, []⟩ (Value.ref (s.heap.objs.size + 1) :: (us ++ ds)) _ _ E (hr.make C us [])
    (I2.env0.make C us []) (hb _ (Value.ref (s.heap.objs.size + 1) :: us) I2.kIn hl) r2 hq) fun r s' hq' => ?_))
  cases r with
  | error e => exact hx pins σ _ _ e s' I2 hq'
  | ok fl =>
    cases fl with
    | ret u =>
      obtain ⟨v, H', I3, rv, ev, q3⟩ := I2.after hq'
      subst ev
      exact ⟨rv, ⟨V.ref (s.heap.objs.size + 1), H', I3, rfl, q3⟩⟩
    | next => exact False.elim hq'
    | brk => exact False.elim hq'
    | cont => exact False.elim hq'
theorem pe_make (M : Mk X.K C f) (F : FnOk X.prog X.w X.K X.mg X.base CX k f fd ps sp) (hr : Room (k + 1) X.A) (hg : Gl X x) (hm : X.mg x = some (.ref C)) (hb : Binds X.K fd ps ds) (hd : Vals dvs ds) (hx : Passes CX X E)
    (ha : PA X (e :: es) t) (hdb : (x == ("__debug__" : Str)) = false := by decide) (he : starEach (e :: es) X.env = (false, eval e X.env) :: starEach es X.env := by rfl) (hpl : (backTo pos (starEach es X.env)).any (·.1) = false := by rfl) :
    PE X (.Call (.Name x p) (e :: es) [] pos) (tMake C sp dvs E t) := by
  intro pins s σ H Q I h
  refine wpAny_Call_Name_kw (ld_glob I hg hm ?_ hdb)
  refine PySem.W.callWith_K (h₀ := X.base) I.ok.mod.kin M.kp (thn (ha pos pins s σ H _ I h) fun us s1 ⟨vs, H1, I1, r, q⟩ => ⟨I1.kIn, ?_⟩) he hpl
  exact run_make M F hr hb hd hx I1 r q
theorem pe_make0 (M : Mk X.K C f) (F : FnOk X.prog X.w X.K X.mg X.base CX k f fd ps sp) (hr : Room (k + 1) X.A) (hg : Gl X x) (hm : X.mg x = some (.ref C)) (hb : Binds X.K fd ps ds) (hd : Vals dvs ds) (hx : Passes CX X E)
    (hdb : (x == ("__debug__" : Str)) = false := by decide) : PE X (.Call (.Name x p) [] [] pos) (tMake C sp dvs E tNil) := by
  intro pins s σ H Q I h
  refine wpAny_Call_Name_kw (ld_glob I hg hm ?_ hdb)
  exact PySem.W.callWith_K0 I.kIn M.kp (run_make (us := []) M F hr hb hd hx I .nil h)
end

/-! ### keywords -/
section
variable {X : Cx} {CX : CXT} {k : Nat} {f C : Addr} {fd : FuncData} {ps ks : List Str} {sp : Sp} {E : XK} {x m : Str} {p pos apos kpos : Pos} {e o : Expr} {es : List Expr} {kws : List Keyword} {te ta : TE} {t tk : TA} {nm : Option Str}
variable {g : List Value → List Value → List Value} {gV : List V → List V → List V}
end

/-! ### a def's body keeps its promise -/
/-- names: the parameters first -/
structure FnScope (N P : List Str) (sc : Scope) : Prop where
  kind : sc.kind = .function
  co : sc.isCoroutine = false
  gen : sc.isGenerator = false
  nd : N.Nodup
  pre : N.take P.length = P
  par : ∀ x ∈ P, sc.names.lookup x = some .local ∨ sc.names.lookup x = some .cell
  nofree : ∀ y ∈ sc.names, y.2 ≠ .free

theorem bindL_out {kindOf : Str → Option NameKind} {x : Str} : ∀ {binds : List (Str × Value)} {m : Str → Option Value}, (∀ v, (x, v) ∉ binds) → bindL kindOf binds m x = m x
  | [], _, _ => rfl
  | (n, v) :: r, m, h => by
    unfold bindL
    rw [bindL_out fun w hw => h w (List.mem_cons_of_mem _ hw)]
    split
    · have : x ≠ n := by rintro rfl; exact h v List.mem_cons_self
      simp [this]
    · rfl
theorem bindC_out {kindOf : Str → Option NameKind} {x : Str} : ∀ {binds : List (Str × Value)} {m : Str → Option Value}, (∀ v, (x, v) ∉ binds) → bindC kindOf binds m x = m x
  | [], _, _ => rfl
  | (n, v) :: r, m, h => by
    unfold bindC
    rw [bindC_out fun w hw => h w (List.mem_cons_of_mem _ hw)]
    split
    · rfl
    · have : x ≠ n := by rintro rfl; exact h v List.mem_cons_self
      simp [this]
theorem bindL_get {kindOf : Str → Option NameKind} {x : Str} {v : Value} : ∀ {P : List Str} {vs : List Value} {i : Nat} {m : Str → Option Value}, P.Nodup → P[i]? = some x → vs[i]? = some v → kindOf x = some .local →
    bindL kindOf (P.zip vs) m x = some v
  | [], _, _, _, _, h, _, _ => by simp at h
  | _ :: _, [], _, _, _, _, h, _ => by simp at h
  | p :: P, w :: vs, 0, m, nd, h1, h2, hk => by
    simp at h1 h2; subst h1; subst h2
    show bindL kindOf ((p, w) :: P.zip vs) m p = _
    unfold bindL
    rw [bindL_out fun v hv => (List.nodup_cons.mp nd).1 (List.of_mem_zip hv).1, if_pos hk]
    simp
  | p :: P, w :: vs, i + 1, m, nd, h1, h2, hk => by
    show bindL kindOf ((p, w) :: P.zip vs) m x = _
    unfold bindL
    exact bindL_get (i := i) (List.nodup_cons.mp nd).2 (by simpa using h1) (by simpa using h2) hk
theorem bindC_get {kindOf : Str → Option NameKind} {x : Str} {v : Value} : ∀ {P : List Str} {vs : List Value} {i : Nat} {m : Str → Option Value}, P.Nodup → P[i]? = some x → vs[i]? = some v → kindOf x ≠ some .local →
    bindC kindOf (P.zip vs) m x = some v
  | [], _, _, _, _, h, _, _ => by simp at h
  | _ :: _, [], _, _, _, _, h, _ => by simp at h
  | p :: P, w :: vs, 0, m, nd, h1, h2, hk => by
    simp at h1 h2; subst h1; subst h2
    show bindC kindOf ((p, w) :: P.zip vs) m p = _
    unfold bindC
    rw [bindC_out fun v hv => (List.nodup_cons.mp nd).1 (List.of_mem_zip hv).1, if_neg hk]
    simp
  | p :: P, w :: vs, i + 1, m, nd, h1, h2, hk => by
    show bindC kindOf ((p, w) :: P.zip vs) m x = _
    unfold bindC
    exact bindC_get (i := i) (List.nodup_cons.mp nd).2 (by simpa using h1) (by simpa using h2) hk

/-- the names' values at the entry -/
def start (N : List Str) (vs : List V) : St := vs.map some ++ List.replicate (N.length - vs.length) none

/-- the context of a def's body, at its entry; an exception leaves the frame, then lies as CX says -/
def cxOf (CX : CXT) (P : Program) (w : World) (K : PySem.W.Frag) (mg : Str → Option Value) (base : Heap) (N : List Str) (qual : Str) (scope : Scope) (f : Addr) (cd : Value) (A : Around) (outer : List Env) (s : Shared) (H : Hp) (E : XK) : Cx where
  prog := P
  w := w
  K := K
  mg := mg
  base := base
  A := A.deeper (envOfC qual scope s.heap.objs.size f cd)
  N := N
  s_0 := s
  H_0 := H
  env := envOfC qual scope s.heap.objs.size f cd
  outer := outer
  stack := envOfC qual scope s.heap.objs.size f cd :: outer
  ex := []
  calm := true
  fn := fun _ => true
  pn := []
  xe := fun e s' => wpAny (model P w) (A.deeper (envOfC qual scope s.heap.objs.size f cd)) (leaving (envOfC qual scope s.heap.objs.size f cd) e) (fun _ s'' => CX outer H s E e s'') (fun e' s'' => CX outer H s E e' s'') s'

theorem cell_has {sc : Scope} {n : Nat} {x : Str} (h : sc.names.lookup x = some .cell) : ∃ c, (cellsFrom n sc.names []).lookup x = some c := by
  have q := PySem.W.cellsFrom_some sc.names n [] (.inl h)
  exact Option.isSome_iff_exists.mp q

theorem inv_start {CX : CXT} {P : Program} {w : World} {K : PySem.W.Frag} {mg : Str → Option Value} {base : Heap} {N ps : List Str} {qual : Str} {scope : Scope} {f : Addr} {cd : Value} {A : Around} {outer : List Env} {s s1 : Shared} {H : Hp} {E : XK} {us : List Value} {vs : List V}
    (S : FnScope N ps scope) (hd : A.handled = none) (e0 : Env0 P w K mg base A outer s H) (hl : vs.length = ps.length) (r : Vals vs us)
    (x : InCallC s s.heap.objs.size (bindL (envOfC qual scope s.heap.objs.size f cd).kindOf (ps.zip us) fun _ => none) (cellsFrom (s.heap.objs.size + 1) scope.names []) (bindC (envOfC qual scope s.heap.objs.size f cd).kindOf (ps.zip us) fun _ => none) s1) :
    Inv (cxOf CX P w K mg base N qual scope f cd A outer s H E) [] (start N vs) H s1 := by
  have hpl : ps.length ≤ N.length := by have := congrArg List.length S.pre; rw [List.length_take] at this; omega
  obtain ⟨h1, tk, rfl, hk⟩ := x.done
  have noA : ∀ b : Addr, b ∉ (cxOf CX P w K mg base N qual scope f cd A outer s H E).ex := fun b z => absurd (show b ∈ ([] : List Addr) from z) (by simp)
  refine ⟨⟨e0.mod, S.kind, rfl, rfl, Nat.le_refl _, fun y z c h1 h2 => ?_, fun y hy => ?_, fun y c _ h => ?_, fun _ => hd, Around.frames_deeper e0.frames, .inr ⟨rfl, rfl⟩, fun b z => absurd z (noA b), e0.bs, e0.bsz, fun b _ _ => noA b, fun b z => absurd z (noA b), e0.funs, e0.frf⟩,
    rfl, e0.bare, Un.kept hk, ⟨_, x.toInCall.ns, fun i y v h1 h2 h3 => ?_⟩, fun y c h => ⟨_, x.cell y c h⟩, e0.hok.fresh (Nat.le_refl _), fun y c h => ?_, fun p hp => absurd (show p ∈ ([] : List (Addr × Obj)) from hp) (by simp), e0.hok.kept hk, ?_⟩
  · exact name_of_addr x.apart (PySem.mem_of_lookup h1) (PySem.mem_of_lookup h2)
  · have hy : scope.names.lookup y = some .cell ∨ scope.names.lookup y = some .free := hy
    rcases hy with hy | hy
    · exact cell_has hy
    · exact absurd rfl (S.nofree _ (PySem.mem_of_lookup hy))
  · exact Nat.le_of_lt (x.above y c (PySem.mem_of_lookup h))
  · have hi : i < vs.length := by
      unfold start at h2
      by_cases hi : i < vs.length
      · exact hi
      · rw [List.getElem?_append_right (by simpa using hi)] at h2
        rw [List.getElem?_replicate] at h2
        split at h2 <;> cases h2
    have ha : vs[i]? = some v := by
      unfold start at h2
      rw [List.getElem?_append_left (by simpa using hi), List.getElem?_map] at h2
      cases e : vs[i]? with
      | none => rw [e] at h2; cases h2
      | some a => rw [e] at h2; cases h2; rfl
    obtain ⟨u, hu, rv⟩ := r.get ha
    have hp : ps[i]? = some y := by
      rw [← S.pre, List.getElem?_take_of_lt (by omega)]; exact h1
    have ndP : ps.Nodup := by rw [← S.pre]; exact S.nd.sublist (List.take_sublist _ _)
    refine ⟨u, rv, ?_⟩
    rcases S.par y (List.mem_of_getElem? hp) with k | k
    · exact .inl ⟨k, bindL_get ndP hp hu k⟩
    · obtain ⟨c, e⟩ := cell_has (n := s.heap.objs.size + 1) k
      refine .inr ⟨.inl k, c, e, ?_⟩
      have q := x.cell y c e
      rw [bindC_get ndP hp hu (by show scope.names.lookup y ≠ _; rw [k]; decide)] at q
      exact q
  · exact e0.hok.fresh (Nat.le_of_lt (x.above y c (PySem.mem_of_lookup h)))
  · unfold start
    show _ = N.length
    rw [List.length_append, List.length_map, List.length_replicate]
    omega

/-- THE RULE: a def (or a method) of the text, by its body. The body's reading t is chosen for each entry; it is run at the parameters' values -/
theorem fn_of {CX : CXT} {P : Program} {w : World} {K : PySem.W.Frag} {mg : Str → Option Value} {base : Heap} {k : Nat} {f : Addr} {name qual : Str} {params : Arguments} {body : List Stmt} {scope : Scope} {dV kV doc pm cdv ct oc : Value} {an od : Option Addr}
    {osl : Array (Option Value)} {N ps : List Str} {sp : Sp} (lk : K.lookup f = some ⟨oc, od, .func (PySem.W.fnOf name qual params body scope dV kV doc pm an cdv ct), osl⟩) (hcd : PySem.W.codeIn K cdv qual = true) (S : FnScope N ps scope)
    (len : ∀ vs H Q E, sp vs H Q E → vs.length = ps.length)
    (hbody : ∀ (A : Around) (outer : List Env) (s : Shared) (H : Hp) (vs : List V) (Q : VK) (E : XK), Room k (A.deeper (envOfC qual scope s.heap.objs.size f cdv)) → sp vs H Q E →
      ∃ t, PSs (cxOf CX P w K mg base N qual scope f cdv A outer s H E) body t ∧ t { nx := fun _ H' => Q .non H', rt := Q } (start N vs) H) :
    FnOk P w K mg base CX (k + 1) f (PySem.W.fnOf name qual params body scope dV kV doc pm an cdv ct) ps sp := by
  refine ⟨len, fun A outer s H args us vs Q E hr e0 hb r hsp => ?_⟩
  have hl := len _ _ _ _ hsp
  have KX : K.In s.heap := e0.mod.kin.keeps fun b o e => (e0.bs b o e).1
  have lim : s.heap.NoLimit := e0.mod.nolimit.keeps fun b o e => (e0.bs b o e).1
  have hkind : ∀ y ∈ ps.zip us, scope.names.lookup y.1 = some .local ∨ (scope.names.lookup y.1 = some .cell ∧ ((cellsFrom (s.heap.objs.size + 1) scope.names []).lookup y.1).isSome = true) := fun ⟨n, v⟩ hy => by
    rcases S.par n (List.of_mem_zip hy).1 with q | q
    · exact .inl q
    · exact .inr ⟨q, PySem.W.cellsFrom_some _ _ _ (.inl q)⟩
  refine codeAny_call_function hr.depth (KX _ _ lk) rfl S.co S.gen rfl (PySem.W.codeRec_of KX hcd) (hb _ _ _ _ ?_)
  refine wpAny_newFunctionEnv_cells S.kind hkind fun env he s1 x => ?_
  subst he
  refine ⟨lim.keeps x.toInCall.keep, codeAny_func ?_⟩
  obtain ⟨t, ht, hq⟩ := hbody A outer s H vs Q E (hr.deeper _) hsp
  have I : Inv (cxOf CX P w K mg base N qual scope f cdv A outer s H E) [] (start N vs) H s1 := inv_start S hr.hd e0 hl r x
  refine wpAny_mono (ht [] s1 (start N vs) H _ I hq) (fun fl s' hs => ?_) fun e s' hs => hs
  have fin : ∀ {σ' : St} {H' : Hp} {v : V} {u : Value}, Inv (cxOf CX P w K mg base N qual scope f cdv A outer s H E) [] σ' H' s' → RelV v u → Q v H' → CE outer P w H s Q u s' :=
    fun {σ' H' v u} J rv q => ⟨v, H', J.os, J.bare, J.base, J.hok, rv, q⟩
  cases fl with
  | ret u =>
    obtain ⟨v, σ', H', J, rv, q⟩ := hs
    exact fin J rv q
  | next =>
    obtain ⟨σ', H', J, q⟩ := hs
    exact fin (v := V.non) (u := Value.none) J rfl q
  | brk =>
    obtain ⟨_, _, _, q⟩ := hs
    exact False.elim q
  | cont =>
    obtain ⟨_, _, _, q⟩ := hs
    exact False.elim q
end L2

namespace L2
open PySem PySem.Spec PyProof.Rows
section
variable {X : Cx} {x : Str} {p pos : Pos} {e : Expr} {es : List Expr} {t : TA} {id T : String} {r : List V → Hp → VK → Prop}

def tCB (r : List V → Hp → VK → Prop) (t : TA) : TE := fun σ H Q => t σ H fun vs H1 => r vs H1 Q
/-- f(e, ..), f a built-in function -/
theorem pe_callB (hc : CallR X (.builtin id) r) (hg : Gl X x) (hm : X.mg x = none) (hv : bootBuiltins x = some (.builtin id)) (ha : PA X (e :: es) t) (hn : x ≠ "__name__" := by decide) (hdb : (x == ("__debug__" : Str)) = false := by decide)
    (he : starEach (e :: es) X.env = (false, eval e X.env) :: starEach es X.env := by rfl) (hpl : (backTo pos (starEach es X.env)).any (·.1) = false := by rfl) : PE X (.Call (.Name x p) (e :: es) [] pos) (tCB r t) := by
  intro pins s σ H Q I h
  refine wpAny_Call_Name_kw (ld_blt I hg hm hv ?_ hn hdb)
  exact PyProof.Rows.callWith_builtin1 (thn (ha pos pins s σ H _ I h) fun us s1 ⟨vs, H1, I1, r1, q1⟩ => hc pins s1 σ H1 vs us Q I1 r1 q1) he hpl
end
end L2

namespace HT
open PySem PyProof.Rows

section
open PySem.SeqAt
open PySem.AutoSeq1 (wpAny_loadPart')
open PySem.MeetsSeq PySem.MeetsSeq2 PySem.MeetsSeq3

end

section
variable {prog : Program} {w : World} {A : Around} {E : Value → Shared → Prop} {s : Shared}

/-! ### t[a:b], not the whole -/
/-- a slice's bound as a place among n (d where it is left out) -/
def sIx (n d : Nat) : Option Int → Nat
  | none => d
  | some v => if v < 0 then (v + (n : Int)).toNat else min v.toNat n
theorem sIx_none (n d : Nat) : sIx n d none = d := rfl
theorem sIx_nat (n d k : Nat) : sIx n d (some (k : Int)) = min k n := by
  show (if (k : Int) < 0 then ((k : Int) + (n : Int)).toNat else min (k : Int).toNat n) = min k n
  rw [if_neg (by omega), Int.toNat_natCast]
end
end HT

namespace L2
open PySem PySem.Spec PyProof.Rows

/-! ### the parts of a slice -/
abbrev TO := St → Hp → (Option Int → Hp → Prop) → Prop
/-- a slice's part (left out, or an int) -/
def PO (X : Cx) (e : Option Expr) (t : TO) : Prop :=
  ∀ (pins : List (Addr × Obj)) (s : Shared) (σ : St) (H : Hp) (Q : Option Int → Hp → Prop), Inv X pins σ H s → t σ H Q →
    wpAny (model X.prog X.w) X.A (evalPart e X.env) (fun u s' => ∃ o H', Inv X pins σ H' s' ∧ IsPart u o ∧ Q o H') X.xe s
def tNoPart : TO := fun _ H Q => Q none H
def tPart (t : TE) : TO := fun σ H Q => t σ H fun x H1 => ∃ i, x = .int i ∧ Q (some i) H1

section
variable {X : Cx} {e : Expr} {te : TE} {lo hi : Option Expr} {tl th : TO} {pos p2 : Pos}

theorem po_none : PO X none tNoPart := by
  intro pins s σ H Q I h
  rw [evalPart_none]
  exact wpAny_pure ⟨none, H, I, .none, h⟩
theorem po_some (h : PE X e te) : PO X (some e) (tPart te) := by
  intro pins s σ H Q I hw
  rw [evalPart_some]
  refine thn (h pins s σ H _ I hw) fun u s1 ⟨x, H1, I1, r1, q1⟩ => ?_
  obtain ⟨i, rfl, q⟩ := q1
  obtain ⟨t, rfl⟩ := r1
  exact ⟨some i, H1, I1, .int i t, q⟩

/-- what a slice of a value is, by values: the slice object stands at sl -/
def SlR (X : Cx) (r : V → Option Int → Option Int → Hp → VK → Prop) : Prop :=
  ∀ (pins : List (Addr × Obj)) (s : Shared) (σ : St) (H : Hp) (x : V) (v vl vu : Value) (lo hi : Option Int) (sl : Addr) (Q : VK), Inv X pins σ H s → RelV x v → s.heap.IsSliceOf sl vl vu .none → IsPart vl lo → IsPart vu hi → r x lo hi H Q →
    ∃ T id, typeLookup (.type T) "__getitem__" = pure (some (.builtin id)) ∧ s.TypeIs v T ∧ wpAny (model X.prog X.w) X.A (getItem v (.ref sl)) (EP X pins σ Q) X.xe s
theorem SlR.or {r r' : V → Option Int → Option Int → Hp → VK → Prop} (h : SlR X r) (h' : SlR X r') : SlR X (fun x lo hi H Q => r x lo hi H Q ∨ r' x lo hi H Q) := by
  intro pins s σ H x v vl vu lo hi sl Q I rx hs pl pu q
  rcases q with q | q
  · exact h pins s σ H x v vl vu lo hi sl Q I rx hs pl pu q
  · exact h' pins s σ H x v vl vu lo hi sl Q I rx hs pl pu q
def tSl (r : V → Option Int → Option Int → Hp → VK → Prop) (te : TE) (tl th : TO) : TE := fun σ H Q => te σ H fun x H1 => tl σ H1 fun l H2 => th σ H2 fun u H3 => r x l u H3 Q
/-- a[lo:hi], any a -/
theorem pe_slice {r : V → Option Int → Option Int → Hp → VK → Prop} (hr : SlR X r) (he : PE X e te) (hl : PO X lo tl) (hu : PO X hi th) : PE X (.Subscript e (.Slice lo hi none p2) pos) (tSl r te tl th) := by
  intro pins s σ H Q I h
  refine Subscript_ (thn (he pins s σ H _ I h) fun v s1 ⟨x, H1, I1, r1, q1⟩ => ?_)
  refine wpAny_Slice (thn (hl pins s1 σ H1 _ I1 q1) fun vl s2 ⟨l, H2, I2, pl, q2⟩ => thn (hu pins s2 σ H2 _ I2 q2) fun vu s3 ⟨u, H3, I3, pu, q3⟩ => ?_)
  rw [evalPart_none]
  refine wpAny_pure ?_
  have I4 : Inv X pins σ H3 { s3 with heap := s3.heap.push { cls := .type "slice", data := .fields #[vl, vu, .none] } } := I3.kept (t' := s3.toks) fun b ob q => Heap.get?_push_of_some _ q
  obtain ⟨T, id, hT, ht, hg⟩ := hr pins { s3 with heap := s3.heap.push { cls := .type "slice", data := .fields #[vl, vu, .none] } } σ H3 x v vl vu l u s3.heap.objs.size Q I4 r1 (Heap.IsSliceOf.new ..) pl pu q3
  show wpAny (model X.prog X.w) X.A (subscriptTail e (.Slice lo hi none p2) v (.ref s3.heap.objs.size)) (EP X pins σ Q) X.xe { s3 with heap := s3.heap.push { cls := .type "slice", data := .fields #[vl, vu, .none] } }
  exact tail_any (ops := [.ref s3.heap.objs.size, v]) ht hT hg (by with_unfolding_all rfl)

/-- the items of xs[lo:hi] -/
def cutV (xs : List V) (lo hi : Option Int) : List V := (xs.drop (HT.sIx xs.length 0 lo)).take (HT.sIx xs.length xs.length hi - HT.sIx xs.length 0 lo)
theorem cutV_length (xs : List V) (lo hi : Option Int) : (cutV xs lo hi).length ≤ xs.length := by
  unfold cutV
  rw [List.length_take, List.length_drop]
  omega
/-! ### t < u, t + u -/
end
end L2

namespace L2
open PySem PySem.Spec PyProof.Rows

/-! ### places -/
/-- the place that an index of any sign means -/
def ixN (n : Nat) (i : Int) : Option Nat := if 0 ≤ i then (if i < n then some i.toNat else none) else if -(n : Int) ≤ i then some (i + n).toNat else none
def atI {α : Type} (xs : List α) (i : Int) : Option α := (ixN xs.length i).bind fun j => xs[j]?
theorem ixN_seq {n : Nat} {i : Int} {j : Nat} (h : ixN n i = some j) : seqIndex? i n = some j ∧ j < n ∧ -(n : Int) ≤ i ∧ i < n := by
  unfold ixN at h
  by_cases h0 : 0 ≤ i
  · rw [if_pos h0] at h
    by_cases h1 : i < n
    · rw [if_pos h1] at h
      have e : i.toNat = j := Option.some.inj h
      exact ⟨by rw [seqIndex_of h0 h1, e], by omega, by omega, h1⟩
    · rw [if_neg h1] at h; cases h
  · rw [if_neg h0] at h
    by_cases h1 : -(n : Int) ≤ i
    · rw [if_pos h1] at h
      have e : (i + n).toNat = j := Option.some.inj h
      exact ⟨by rw [seqIndex_neg (by omega) h1, e], by omega, h1, by omega⟩
    · rw [if_neg h1] at h; cases h
theorem atI_get {α : Type} {xs : List α} {i : Int} {v : α} (h : atI xs i = some v) : ∃ j, seqIndex? i xs.length = some j ∧ xs[j]? = some v ∧ j < xs.length ∧ -(xs.length : Int) ≤ i ∧ i < xs.length := by
  unfold atI at h
  cases e : ixN xs.length i with
  | none => rw [e] at h; cases h
  | some j =>
    rw [e] at h
    obtain ⟨h1, h2, h3, h4⟩ := ixN_seq e
    exact ⟨j, h1, h, h2, h3, h4⟩
theorem atI_nat {α : Type} {xs : List α} {j : Nat} {v : α} (h : xs[j]? = some v) : atI xs (j : Int) = some v := by
  have hj : j < xs.length := (List.getElem?_eq_some_iff.mp h).1
  have e : ixN xs.length (j : Int) = some j := by
    unfold ixN
    rw [if_pos (by omega), if_pos (by omega)]; simp
  unfold atI; rw [e]; exact h
/-! ### what may be subscripted -/
/-- what stands as an index of a plain subscript -/
def PlainIx (b : Expr) : Prop := ∀ o i, subscripted b false o i = operate [o, i] (getItem o i)
/-- a subscript by values -/
def IxR (X : Cx) (r : R2) : Prop :=
  ∀ (value slice : Expr) (pins : List (Addr × Obj)) (s : Shared) (σ : St) (H : Hp) (x y : V) (v u : Value) (Q : VK), Inv X pins σ H s → RelV x v → RelV y u → r x y H Q →
    subscripted slice false v u = operate [v, u] (getItem v u) → wpAny (model X.prog X.w) X.A (subscriptTail value slice v u) (EP X pins σ Q) X.xe s
/-- a call of a builtin's method by values: the receiver, the arguments -/
def MtR (X : Cx) (id : String) (r : V → List V → Hp → VK → Prop) : Prop :=
  ∀ (pins : List (Addr × Obj)) (s : Shared) (σ : St) (H : Hp) (x : V) (xs : List V) (v : Value) (us : List Value) (Q : VK), Inv X pins σ H s → RelV x v → Vals xs us → r x xs H Q →
    wpAny (model X.prog X.w) X.A (call (.builtin id) (v :: us)) (EP X pins σ Q) X.xe s
section
variable {X : Cx} {a b : Expr} {ta tb : TE} {pos : Pos}
theorem IxR.or {r r' : R2} (h : IxR X r) (h' : IxR X r') : IxR X (fun x y H Q => r x y H Q ∨ r' x y H Q) := by
  intro value slice pins s σ H x y v u Q I rx ry q hs
  rcases q with q | q
  · exact h value slice pins s σ H x y v u Q I rx ry q hs
  · exact h' value slice pins s σ H x y v u Q I rx ry q hs
theorem MtR.or {id : String} {r r' : V → List V → Hp → VK → Prop} (h : MtR X id r) (h' : MtR X id r') : MtR X id (fun x xs H Q => r x xs H Q ∨ r' x xs H Q) := by
  intro pins s σ H x xs v us Q I rx rs q
  rcases q with q | q
  · exact h pins s σ H x xs v us Q I rx rs q
  · exact h' pins s σ H x xs v us Q I rx rs q
/-- a[b] -/
theorem pe_ix {r : R2} (hr : IxR X r) (ha : PE X a ta) (hb : PE X b tb) (hs : PlainIx b) : PE X (.Subscript a b pos) (tOp r ta tb) := by
  intro pins s σ H Q I h
  exact Subscript_ (binT ha hb I h fun v u s2 x y H2 I2 rx ry q => hr a b pins s2 σ H2 x y v u Q I2 rx ry q (hs _ _))

def rIxL (K : PySem.W.Frag) : R2 := fun x y H Q => ∃ p xs i v, x = .ref p ∧ y = .int i ∧ SqL K H p xs ∧ atI xs i = some v ∧ Q v H
def rIxT (K : PySem.W.Frag) : R2 := fun x y H Q => ∃ p xs i v, x = .ref p ∧ y = .int i ∧ SqT K H p xs ∧ atI xs i = some v ∧ Q v H
theorem ix_list : IxR X (rIxL X.K) := by
  intro value slice pins s σ H x y v u Q I rx ry h hs
  obtain ⟨p, xs, i, z, rfl, rfl, hq, he, q⟩ := h
  cases rx
  obtain ⟨t, rfl⟩ := ry
  obtain ⟨its, r, pl, hz⟩ := I.list hq
  obtain ⟨j, h1, h2, h3, h4, h5⟩ := atI_get he
  obtain ⟨w, ew, rw'⟩ := r.get h2
  have hl := r.length
  have hn := line63
  have fin : EP X pins σ Q w s := ⟨z, H, I, rw', q⟩
  by_cases h0 : 0 ≤ i
  · have hj : i.toNat = j := by
      rw [seqIndex_of h0 h5] at h1
      exact Option.some.inj h1
    exact item_listR pl.isList h0 (by omega) (by rw [hj]; simpa using ew) fin hs
  · have hj : (i + (its.toArray.size : Int)).toNat = j := by
      rw [seqIndex_neg (by omega) h4] at h1
      rw [List.size_toArray, ← hl]
      exact Option.some.inj h1
    exact subscriptTail_builtinR (x := w) pl.isList.typeIs slot_list_getitem.lookup
      (wpAny_getItem_list_neg (Q := fun r s' => r = w ∧ EP X pins σ Q r s') pl.isList (by omega) (by rw [List.size_toArray] <;> omega) (by omega) (by rw [hj]; simpa using ew) ⟨rfl, fin⟩) hs
theorem ix_tup : IxR X (rIxT X.K) := by
  intro value slice pins s σ H x y v u Q I rx ry h hs
  obtain ⟨p, xs, i, z, rfl, rfl, hq, he, q⟩ := h
  cases rx
  obtain ⟨t, rfl⟩ := ry
  obtain ⟨its, r, pl, hz⟩ := I.tuple hq
  obtain ⟨j, h1, h2, h3, h4, h5⟩ := atI_get he
  obtain ⟨w, ew, rw'⟩ := r.get h2
  have hl := r.length
  have hn := line63
  have fin : EP X pins σ Q w s := ⟨z, H, I, rw', q⟩
  exact subscriptTail_builtinR (x := w) pl.typeIs slot_tuple_getitem.lookup
    (getItem_tuple (j := j) (Q := fun r s' => r = w ∧ EP X pins σ Q r s') pl (by omega) (by omega) (by rw [List.size_toArray, ← hl]; exact h1) (by simpa using ew) ⟨rfl, fin⟩) hs
/-! ### xs[i] = v, any sign -/
theorem Inv.lst {pins : List (Addr × Obj)} {σ : St} {H : Hp} {s : Shared} {p : Addr} {xs : List V} (I : Inv X pins σ H s) (h : H p = some (.lst xs)) :
    ∃ (its : List Value) (n : Nat), Vals xs its ∧ s.heap.get? p = some { cls := .type "list", data := .seq its.toArray n } ∧ xs.length ≤ sizeLine := by
  obtain ⟨z, its, n, r, e⟩ := I.hok p _ h
  exact ⟨its, n, r, e, z⟩
/-! ### slices -/
theorem slice_bounds (lo hi : Option Int) (n : Nat) : (sliceBounds lo hi none n).1 = ((HT.sIx n 0 lo : Nat) : Int) ∧ (sliceBounds lo hi none n).2.1 = ((HT.sIx n n hi : Nat) : Int) ∧ (sliceBounds lo hi none n).2.2 = 1 := by
  refine ⟨?_, ?_, rfl⟩
  · cases lo with
    | none => simp [sliceBounds, HT.sIx]
    | some i =>
      simp only [sliceBounds, HT.sIx, Option.getD_none, show (1 : Int) > 0 by decide, if_true]
      by_cases h : i < 0
      · simp only [h, if_true] <;> omega
      · simp only [h, if_false] <;> omega
  · cases hi with
    | none => simp [sliceBounds, HT.sIx]
    | some i =>
      simp only [sliceBounds, HT.sIx, Option.getD_none, show (1 : Int) > 0 by decide, if_true]
      by_cases h : i < 0
      · simp only [h, if_true] <;> omega
      · simp only [h, if_false] <;> omega
theorem slicePick_cut (its : List Value) (lo hi : Option Int) : slicePick its.toArray lo hi none = ((its.drop (HT.sIx its.length 0 lo)).take (HT.sIx its.length its.length hi - HT.sIx its.length 0 lo)).toArray := by
  obtain ⟨h1, h2, h3⟩ := slice_bounds lo hi its.toArray.size
  unfold slicePick
  rw [h1, h2, h3]
  simp only [sliceRange_one, pick_run, List.size_toArray] <;> rfl
/-- xs[lo:hi] of a list: a new list -/
def rSlL (K : PySem.W.Frag) : V → Option Int → Option Int → Hp → VK → Prop := fun x lo hi H Q => ∃ a xs, x = .ref a ∧ SqL K H a xs ∧ ∀ p, H p = none → Q (.ref p) (upd H p (.lst (cutV xs lo hi)))
theorem sl_list : SlR X (rSlL X.K) := by
  intro pins s σ H x v vl vu lo hi sl Q I rx hs pl pu h
  obtain ⟨a, xs, rfl, hx, q⟩ := h
  cases rx
  obtain ⟨its, r, ht, hz⟩ := I.list hx
  have hlen := r.length
  refine ⟨"list", _, slot_list_getitem.lookup, ht.isList.typeIs, ?_⟩
  refine wpAny_getItem_list_slice ht.isList hs pl pu .none (by simp) ?_ (by rw [List.size_toArray] <;> omega)
  rw [slicePick_cut, ← hlen]
  refine ⟨.ref s.heap.objs.size, _, I.laid (t' := s.toks) (o := .lst (cutV xs lo hi)) (fun b ob q => Heap.get?_push_of_some _ q) (Nat.le_refl _) ?_, rfl, q _ (I.hok.fresh (Nat.le_refl _))⟩
  exact ⟨Nat.le_trans (cutV_length xs lo hi) hz, _, 0, (r.drop (HT.sIx xs.length 0 lo)).take (HT.sIx xs.length xs.length hi - HT.sIx xs.length 0 lo), Heap.get?_push_size _ rfl⟩

/-! ### in, not in: flat items -/
def flatV : V → Bool
  | .non => true
  | .bl _ => true
  | .int _ => true
  | .str _ => true
  | _ => false
/-- == of flat values -/
def eqV : V → V → Bool
  | .non, .non => true
  | .bl a, .bl b => a == b
  | .bl a, .int b => (if a then 1 else 0) == b
  | .int a, .bl b => a == (if b then 1 else 0)
  | .int a, .int b => a == b
  | .str a, .str b => a == b
  | _, _ => false
theorem eqAt_V {A : Around} {s : Shared} {y x : V} {u v : Value} (ry : RelV y u) (rx : RelV x v) (fy : flatV y = true) (fx : flatV x = true) : SeqAt.EqAt A s u v (eqV y x) := by
  cases y with
  | non =>
    cases ry
    cases x with
    | non => cases rx; exact SeqAt.EqAt.same _
    | bl b => cases rx; exact SeqAt.EqAt.none_bool b
    | int b => obtain ⟨t, rfl⟩ := rx; exact SeqAt.EqAt.none_int b t
    | str b => obtain ⟨t, rfl⟩ := rx; exact SeqAt.EqAt.none_str b t
    | _ => exact absurd (show false = true from fx) Bool.false_ne_true
  | bl a =>
    cases ry
    cases x with
    | non => cases rx; exact SeqAt.EqAt.bool_none a
    | bl b => cases rx; exact SeqAt.EqAt.bool_bool a b
    | int b => obtain ⟨t, rfl⟩ := rx; exact SeqAt.EqAt.bool_int a b t
    | str b => obtain ⟨t, rfl⟩ := rx; exact SeqAt.EqAt.bool_str a b t
    | _ => exact absurd (show false = true from fx) Bool.false_ne_true
  | int a =>
    obtain ⟨t', rfl⟩ := ry
    cases x with
    | non => cases rx; exact SeqAt.EqAt.int_none a t'
    | bl b => cases rx; exact SeqAt.EqAt.int_bool a t' b
    | int b => obtain ⟨t, rfl⟩ := rx; exact SeqAt.EqAt.int_int a t' b t
    | str b => obtain ⟨t, rfl⟩ := rx; exact SeqAt.EqAt.int_str a t' b t
    | _ => exact absurd (show false = true from fx) Bool.false_ne_true
  | str a =>
    obtain ⟨t', rfl⟩ := ry
    cases x with
    | non => cases rx; exact SeqAt.EqAt.str_none a t'
    | bl b => cases rx; exact SeqAt.EqAt.str_bool a t' b
    | int b => obtain ⟨t, rfl⟩ := rx; exact SeqAt.EqAt.str_int a t' b t
    | str b => obtain ⟨t, rfl⟩ := rx; exact SeqAt.EqAt.str_str a t' b t
    | _ => exact absurd (show false = true from fx) Bool.false_ne_true
  | _ => exact absurd (show false = true from fy) Bool.false_ne_true
/-- the items' answers, read off the values (a value's own answer does not lean on its token) -/
def eqU (x : V) (u : Value) : Bool := match u with
  | .none => eqV .non x
  | .bool b => eqV (.bl b) x
  | .int i _ => eqV (.int i) x
  | .str z _ => eqV (.str z) x
  | _ => false
theorem eqU_of {x y : V} {u : Value} (r : RelV y u) (f : flatV y = true) : eqU x u = eqV y x := by
  cases y with
  | non => cases r; rfl
  | bl b => cases r; rfl
  | int i => obtain ⟨t, rfl⟩ := r; rfl
  | str z => obtain ⟨t, rfl⟩ := r; rfl
  | _ => exact absurd (show false = true from f) Bool.false_ne_true
theorem any_eqU {x : V} : ∀ {xs : List V} {us : List Value}, Vals xs us → xs.all flatV = true → us.any (eqU x) = xs.any fun y => eqV y x
  | _, _, .nil, _ => rfl
  | y :: xs, u :: us, .cons r t, f => by
    rw [List.all_cons, Bool.and_eq_true] at f
    rw [List.any_cons, List.any_cons, eqU_of r f.1, any_eqU t f.2]
theorem mem_eqAt {A : Around} {s : Shared} {x : V} {v : Value} (rx : RelV x v) (fx : flatV x = true) : ∀ {xs : List V} {us : List Value}, Vals xs us → xs.all flatV = true → ∀ u ∈ us, SeqAt.EqAt A s u v (eqU x u)
  | _, _, .nil, _ => fun u hu => by cases hu
  | y :: xs, u :: us, .cons r t, f => fun u' hu => by
    rw [List.all_cons, Bool.and_eq_true] at f
    rcases List.mem_cons.mp hu with rfl | hu
    · rw [eqU_of r f.1]; exact eqAt_V r rx f.1 fx
    · exact mem_eqAt rx fx t f.2 u' hu
def inV (x : V) (xs : List V) : Bool := xs.any fun y => eqV y x
/-- x in a list or tuple of flat items -/
def rIn (K : PySem.W.Frag) (neg : Bool) : R2 := fun x y H Q => ∃ p xs, y = .ref p ∧ (SqL K H p xs ∨ SqT K H p xs) ∧ flatV x = true ∧ xs.all flatV = true ∧ Q (.bl (if neg then !inV x xs else inV x xs)) H
theorem op_in_seq : OpR X (compareOp .In) (rIn X.K false) := by
  intro pins s σ H x y v u Q I rx ry h
  obtain ⟨p, xs, rfl, hq, fx, fs, q⟩ := h
  cases ry
  rcases hq with hq | hq
  · obtain ⟨its, r, pl, hz⟩ := I.list hq
    refine SeqAt.in_listAt (eqU x) pl.isList (fun w hw => mem_eqAt rx fx r fs w (by simpa using hw)) ⟨.bl _, H, I, rfl, ?_⟩
    rw [show its.toArray.any (eqU x) = its.any (eqU x) by simp, any_eqU r fs]
    exact q
  · obtain ⟨its, r, pl, hz⟩ := I.tuple hq
    refine SeqAt.in_tupleAt (eqU x) pl (fun w hw => mem_eqAt rx fx r fs w (by simpa using hw)) ⟨.bl _, H, I, rfl, ?_⟩
    rw [show its.toArray.any (eqU x) = its.any (eqU x) by simp, any_eqU r fs]
    exact q
theorem op_notIn_seq : OpR X (compareOp .NotIn) (rIn X.K true) := by
  intro pins s σ H x y v u Q I rx ry h
  obtain ⟨p, xs, rfl, hq, fx, fs, q⟩ := h
  cases ry
  rcases hq with hq | hq
  · obtain ⟨its, r, pl, hz⟩ := I.list hq
    refine SeqAt.notIn_listAt (eqU x) pl.isList (fun w hw => mem_eqAt rx fx r fs w (by simpa using hw)) ⟨.bl _, H, I, rfl, ?_⟩
    rw [show its.toArray.any (eqU x) = its.any (eqU x) by simp, any_eqU r fs]
    exact q
  · obtain ⟨its, r, pl, hz⟩ := I.tuple hq
    refine SeqAt.notIn_tupleAt (eqU x) pl (fun w hw => mem_eqAt rx fx r fs w (by simpa using hw)) ⟨.bl _, H, I, rfl, ?_⟩
    rw [show its.toArray.any (eqU x) = its.any (eqU x) by simp, any_eqU r fs]
    exact q
/-! ### len, list(x), tuple(x) of any list or tuple that is read -/
theorem call_len_seq : CallR X (.builtin "len") (fun xs H Q => ∃ p ys, xs = [.ref p] ∧ (SqL X.K H p ys ∨ SqT X.K H p ys) ∧ Q (.int ys.length) H) := by
  intro pins s σ H xs us Q I r h
  obtain ⟨p, ys, rfl, hq, q⟩ := h
  obtain ⟨u, rfl, rx⟩ := vals1 r
  cases rx
  have hn := line63
  rcases hq with hq | hq
  · obtain ⟨its, r', pl, hz⟩ := I.list hq
    have hlen := r'.length
    exact Calls.call_len_list pl.isList (by simp only [List.size_toArray] <;> omega) ⟨.int ys.length, H, I.tok _, ⟨s.toks + 1, by rw [List.size_toArray, hlen]⟩, q⟩
  · obtain ⟨its, r', pl, hz⟩ := I.tuple hq
    have hlen := r'.length
    exact len_tuple pl (by simp only [List.size_toArray] <;> omega) ⟨.int ys.length, H, I.tok _, ⟨s.toks + 1, by rw [List.size_toArray, hlen]⟩, q⟩
theorem CallR.or {f : Value} {r r' : List V → Hp → VK → Prop} (h : CallR X f r) (h' : CallR X f r') : CallR X f (fun xs H Q => r xs H Q ∨ r' xs H Q) := by
  intro pins s σ H xs us Q I rs q
  rcases q with q | q
  · exact h pins s σ H xs us Q I rs q
  · exact h' pins s σ H xs us Q I rs q
/-! ### the call of a builtin's method: o.m(..) -/
/-- the value is of that builtin type -/
def tyV (K : PySem.W.Frag) (T : String) (x : V) (H : Hp) : Prop := match x with
  | .str _ => T = "str"
  | .int _ => T = "int"
  | .ref p => (T = "list" ∧ ∃ xs, SqL K H p xs) ∨ (T = "tuple" ∧ ∃ o, K.lookup p = some o ∧ o.cls = .type "tuple" ∧ o.dict = none) ∨
      (T = "dict" ∧ ((∃ kvs, H p = some (.dK kvs)) ∨ ∃ kvs, H p = some (.dT kvs))) ∨ (T = "set" ∧ ∃ S n, H p = some (.set S n))
  | _ => False
theorem tyV_is {pins : List (Addr × Obj)} {σ : St} {H : Hp} {s : Shared} {T : String} {x : V} {v : Value} (I : Inv X pins σ H s) (r : RelV x v) (ty : tyV X.K T x H) :
    s.TypeIs v T ∧ ∀ a, v = .ref a → ∃ ob, s.heap.get? a = some ob ∧ ob.dict = none := by
  cases x with
  | str z =>
    obtain ⟨t, rfl⟩ := r
    cases (show T = "str" from ty)
    exact ⟨typeIs_str s z t, fun _ e => nomatch e⟩
  | int i =>
    obtain ⟨t, rfl⟩ := r
    cases (show T = "int" from ty)
    exact ⟨typeIs_int s i t, fun _ e => nomatch e⟩
  | ref p =>
    cases r
    rcases ty with ⟨rfl, xs, hq⟩ | ⟨rfl, o, hk, hc, hd⟩ | ⟨rfl, hk⟩ | ⟨rfl, S, n, hk⟩
    · obtain ⟨its, _, pl, _⟩ := I.list hq
      refine ⟨pl.isList.typeIs, fun a e => ?_⟩
      cases e
      obtain ⟨o, n, e, c, hd, _⟩ := pl
      exact ⟨o, e, hd⟩
    · refine ⟨⟨o, I.kIn p o hk, hc⟩, fun a e => ?_⟩
      cases e
      exact ⟨o, I.kIn _ o hk, hd⟩
    · have z : ∃ o, s.heap.get? p = some o ∧ o.ExactDict := by
        rcases hk with ⟨kvs, hk⟩ | ⟨kvs, hk⟩
        · obtain ⟨_, _, _, _, o, _, _, e, ex, _⟩ := I.hok p _ hk
          exact ⟨o, e, ex⟩
        · obtain ⟨_, _, _, _, o, _, _, e, ex, _⟩ := I.hok p _ hk
          exact ⟨o, e, ex⟩
      obtain ⟨o, e, ex⟩ := z
      refine ⟨⟨o, e, ex.1⟩, fun a e2 => ?_⟩
      cases e2
      exact ⟨o, e, ex.2.1⟩
    · obtain ⟨o, _, _, _, e, ex, _⟩ := I.hok p _ hk
      refine ⟨⟨o, e, ex.1⟩, fun a e2 => ?_⟩
      cases e2
      exact ⟨o, e, ex.2.1⟩
  | _ => exact False.elim ty
def tBM0 (K : PySem.W.Frag) (T : String) (r : V → List V → Hp → VK → Prop) (to : TE) : TE := fun σ H Q => to σ H fun x H1 => tyV K T x H1 ∧ r x [] H1 Q
def tBM (K : PySem.W.Frag) (T : String) (r : V → List V → Hp → VK → Prop) (to : TE) (t : TA) : TE := fun σ H Q => to σ H fun x H1 => tyV K T x H1 ∧ t σ H1 fun xs H2 => r x xs H2 Q
variable {o e : Expr} {es : List Expr} {to : TE} {t : TA} {name : Str} {apos cpos : Pos} {T id : String} {r : V → List V → Hp → VK → Prop}
theorem pe_bm0 (pa : PlainAttrs T) (slot : Slot T name id) (hty : typeOf (.builtin id) = pure (.type "method_descriptor")) (hm : MtR X id r) (ho : PE X o to)
    (hbase : attributeBase o name X.env (eval o X.env) = eval o X.env := by rfl) (hline : (apos.endLine == cpos.line) = true := by rfl) : PE X (.Call (.Attribute o name apos) [] [] cpos) (tBM0 X.K T r to) := by
  intro pins s σ H Q I h
  refine wpAny_Call_method0_late hbase hline (thn (ho pins s σ H _ I h) fun v s1 ⟨x, H1, I1, r1, ty, q1⟩ => ?_)
  obtain ⟨h1, h2⟩ := tyV_is I1 r1 ty
  exact ⟨T, id, pa, slot, hty, h1, h2, Calls.callWith_builtin rfl (PySem.evalArgs_none (hm pins s1 σ H1 x [] v [] Q I1 r1 .nil q1))⟩
theorem pe_bm (pa : PlainAttrs T) (slot : Slot T name id) (hty : typeOf (.builtin id) = pure (.type "method_descriptor")) (hm : MtR X id r) (ho : PE X o to) (ha : PA X (e :: es) t)
    (hbase : attributeBase o name X.env (eval o X.env) = eval o X.env := by rfl)
    (hfew : ((backTo cpos (starEach (e :: es) X.env)).all (fun x => !x.1) && (backToKw cpos (keywordEach [] X.env)).all (fun x => x.1.isSome)
      && decide ((e :: es).length + ([] : List Keyword).length + (if ([] : List Keyword).isEmpty then 0 else 1) < 30)) = true := by rfl)
    (hline : (apos.endLine == cpos.line) = true := by rfl) (hs : starEach (e :: es) X.env = (false, eval e X.env) :: starEach es X.env := by rfl) (hplain : (backTo cpos (starEach es X.env)).any (·.1) = false := by rfl) :
    PE X (.Call (.Attribute o name apos) (e :: es) [] cpos) (tBM X.K T r to t) := by
  intro pins s σ H Q I h
  refine wpAny_Call_method_late hbase hfew hline rfl (thn (ho pins s σ H _ I h) fun v s1 ⟨x, H1, I1, r1, ty, q1⟩ => ?_)
  obtain ⟨h1, h2⟩ := tyV_is I1 r1 ty
  refine ⟨T, id, pa, slot, hty, h1, h2, ?_⟩
  have hA := ha cpos pins s1 σ H1 _ I1 q1
  rw [hs] at hA ⊢
  refine Calls.callWith_builtin (by show (false || (backTo cpos (starEach es X.env)).any (·.1)) = false; rw [hplain] <;> rfl) (Calls.evalArgs_plain ?_)
  exact thn hA fun us s2 ⟨vs, H2, I2, r2, q2⟩ => hm pins s2 σ H2 x vs v us Q I2 r1 r2 q2
/- xs.append(e), list.index on a module's tuple .. are MtR facts of 06m -/
end
end L2

namespace L2
open PySem PySem.Spec PyProof.Rows

def MtM (X : Cx) (id : String) (r : V → List V → Hp → VK → Prop) : Prop :=
  ∀ (pins : List (Addr × Obj)) (s : Shared) (σ : St) (H : Hp) (x : V) (xs : List V) (v : Value) (us : List Value) (Q : VK), Inv X pins σ H s → RelV x v → Vals xs us → r x xs H Q →
    wpAny (model X.prog X.w) X.A (call (.builtin id) (v :: us)) (EP X pins σ Q) X.xe s

/-! ### lists of values -/
theorem Vals.one : ∀ {x : V} {us : List Value}, Vals [x] us → ∃ u, us = [u] ∧ RelV x u
  | _, _, .cons r .nil => ⟨_, rfl, r⟩
theorem Vals.two : ∀ {x y : V} {us : List Value}, Vals [x, y] us → ∃ u v, us = [u, v] ∧ RelV x u ∧ RelV y v
  | _, _, _, .cons r (.cons q .nil) => ⟨_, _, rfl, r, q⟩
theorem Vals.zero : ∀ {us : List Value}, Vals [] us → us = []
  | _, .nil => rfl
theorem Vals.dropLast {xs : List V} {us : List Value} (h : Vals xs us) : Vals xs.dropLast us.dropLast := by
  induction h with
  | nil => exact .nil
  | cons r t ih =>
    cases t with
    | nil => exact .nil
    | cons q t' => exact .cons r ih
theorem Vals.eraseIdx : ∀ {xs : List V} {us : List Value} (i : Nat), Vals xs us → Vals (xs.eraseIdx i) (us.eraseIdx i)
  | _, _, _, .nil => .nil
  | _, _, 0, .cons _ t => t
  | _, _, i + 1, .cons r t => .cons r (Vals.eraseIdx i t)
theorem Vals.reverse {xs : List V} {us : List Value} (h : Vals xs us) : Vals xs.reverse us.reverse := by
  induction h with
  | nil => exact .nil
  | cons r t ih => rw [List.reverse_cons, List.reverse_cons]; exact Vals.append ih (.cons r .nil)
theorem Vals.rep {xs : List V} {us : List Value} (h : Vals xs us) : ∀ k : Nat, Vals (List.replicate k xs).flatten (List.replicate k us).flatten
  | 0 => .nil
  | k + 1 => by
    rw [List.replicate_succ, List.replicate_succ, List.flatten_cons, List.flatten_cons]
    exact Vals.append h (Vals.rep h k)
theorem erase_last {α : Type} (l : List α) : l.eraseIdx (l.length - 1) = l.dropLast := by
  induction l with
  | nil => rfl
  | cons a r ih =>
    cases r with
    | nil => rfl
    | cons b r =>
      have e : (a :: b :: r).length - 1 = ((b :: r).length - 1) + 1 := by
        have h1 : (a :: b :: r).length = r.length + 2 := rfl
        have h2 : (b :: r).length = r.length + 1 := rfl
        omega
      rw [e, List.eraseIdx_cons_succ, ih]
      all_goals rfl
theorem foldl_rep (its : List Value) : ∀ (k : Nat) (acc : List Value),
    List.foldl (fun x1 x2 => x1 ++ x2) acc.toArray (List.replicate k its.toArray) = (acc ++ (List.replicate k its).flatten).toArray
  | 0, acc => by simp
  | k + 1, acc => by
    have e : acc.toArray ++ its.toArray = (acc ++ its).toArray := by simp
    have e2 : (acc ++ its) ++ (List.replicate k its).flatten = acc ++ (List.replicate (k + 1) its).flatten := by
      rw [List.replicate_succ, List.flatten_cons, List.append_assoc]
    rw [← e2, ← foldl_rep its k (acc ++ its), ← e, List.replicate_succ, List.foldl_cons]

section
variable {X : Cx} {pins : List (Addr × Obj)} {σ : St} {H : Hp} {s : Shared} {l b : Addr} {xs ys zs : List V}

/-! ### the two steps: a tracked list is rewritten, a new list is laid -/
theorem Inv.lset {its its' : List Value} {n : Nat} {f : Array Value → Array Value} {t' : Nat} (I : Inv X pins σ H s) (hH : H l = some (.lst xs))
    (e : s.heap.get? l = some { cls := .type "list", data := .seq its.toArray n }) (hf : f its.toArray = its'.toArray) (hv : Vals ys its') (hz : ys.length ≤ sizeLine) :
    Inv X pins σ (upd H l (.lst ys)) { s with heap := s.heap.update l (Obj.mapSeq f), toks := t' } := by
  have q := PySem.IsL.update e f
  rw [hf] at q
  refine I.write (x := l) (e := l) (by rw [hH]; exact trivial) (.inl rfl) (fun b' u hb hu => (Heap.get?_update_other s.heap (Obj.mapSeq f) (Ne.symm hb)).trans hu) ⟨_, q⟩ ?_
  exact ⟨hz, its', _, hv, q⟩
theorem Inv.lnew {its : List Value} {t' : Nat} (I : Inv X pins σ H s) (hv : Vals ys its) (hz : ys.length ≤ sizeLine) :
    Inv X pins σ (upd H s.heap.objs.size (.lst ys)) { s with heap := s.heap.push { cls := .type "list", data := .seq its.toArray }, toks := t' } :=
  I.laid (fun _ _ q => Heap.get?_push_of_some _ q) (Nat.le_refl _) ⟨hz, its, 0, hv, Heap.get?_push_size _ rfl⟩
theorem Inv.fresh (I : Inv X pins σ H s) : H s.heap.objs.size = none := I.hok.fresh (Nat.le_refl _)
theorem Inv.lstM (I : Inv X pins σ H s) (hH : H l = some (.lst xs)) : xs.length ≤ sizeLine ∧ ∃ (its : List Value) (n : Nat), Vals xs its ∧ xs.length = its.length ∧ s.heap.get? l = some { cls := .type "list", data := .seq its.toArray n } := by
  obtain ⟨z, its, n, r, e⟩ := I.hok l _ hH
  exact ⟨z, its, n, r, r.length, e⟩

theorem notLongL {n : Nat} (h : n ≤ sizeLine) : Builtin.List.listTooLong n = false := by
  unfold Builtin.List.listTooLong
  exact decide_eq_false (by omega)
end

section
variable {X : Cx}

/-! ### methods -/
def rAppend : V → List V → Hp → VK → Prop := fun x vs H Q => ∃ l xs y, x = .ref l ∧ vs = [y] ∧ H l = some (.lst xs) ∧ xs.length < sizeLine ∧ Q .non (upd H l (.lst (xs ++ [y])))
theorem mt_append : MtM X "list.append" rAppend := by
  intro pins s σ H x vs v us Q I rx rv h
  obtain ⟨l, xs, y, rfl, rfl, hH, hz, q⟩ := h
  cases rx
  obtain ⟨u, rfl, ru⟩ := rv.one
  obtain ⟨z, its, n, r, hl, e⟩ := I.lstM hH
  refine call_meets F.slot_list_append ⟨_, e, rfl⟩ F.entry_list_append (F.args_list_append_2 _ _) (PySem.list_append l its.toArray n u (by rw [List.size_toArray]; omega)) ⟨e, ?_⟩
  refine ⟨.non, _, I.lset (its' := its ++ [u]) hH e (by simp) (r.append (.cons ru .nil)) ?_, rfl, q⟩
  rw [List.length_append, List.length_singleton]
  omega

def rExtend : V → List V → Hp → VK → Prop := fun x vs H Q => ∃ l b xs zs, x = .ref l ∧ vs = [.ref b] ∧ H l = some (.lst xs) ∧ H b = some (.lst zs) ∧ xs.length + zs.length ≤ sizeLine ∧ Q .non (upd H l (.lst (xs ++ zs)))
theorem mt_extend : MtM X "list.extend" rExtend := by
  intro pins s σ H x vs v us Q I rx rv h
  obtain ⟨l, b, xs, zs, rfl, rfl, hH, hB, hz, q⟩ := h
  cases rx
  obtain ⟨u, rfl, ru⟩ := rv.one
  cases ru
  obtain ⟨z, its, n, r, hl, e⟩ := I.lstM hH
  obtain ⟨z2, its2, n2, r2, hl2, e2⟩ := I.lstM hB
  have hsz : its.toArray.size + its2.toArray.size ≤ sizeLine := by rw [List.size_toArray, List.size_toArray]; omega
  have hlong : ¬ (!its.toArray.isEmpty && Builtin.List.listTooLong (its.toArray.size + its2.toArray.size)) = true := by
    rw [notLongL hsz, Bool.and_false]
    exact Bool.false_ne_true
  refine call_meets F.slot_list_extend ⟨_, e, rfl⟩ F.entry_list_extend (F.args_list_extend_2 _ _)
    (AutoSeq1.list_extend_list_list_0 l its.toArray n b its2.toArray n2 hlong (by rw [List.size_toArray]; omega) (by omega)) ⟨e, e2, ?_⟩
  refine ⟨.non, _, I.lset (its' := its ++ its2) hH e (by simp) (r.append r2) ?_, rfl, q⟩
  rw [List.length_append]
  omega

def rPop : V → List V → Hp → VK → Prop := fun x vs H Q => ∃ l xs y, x = .ref l ∧ vs = [] ∧ H l = some (.lst xs) ∧ xs[xs.length - 1]? = some y ∧ Q y (upd H l (.lst xs.dropLast))
theorem mt_pop : MtM X "list.pop" rPop := by
  intro pins s σ H x vs v us Q I rx rv h
  obtain ⟨l, xs, y, rfl, rfl, hH, hy, q⟩ := h
  cases rx
  have hus := rv.zero
  subst hus
  obtain ⟨z, its, n, r, hl, e⟩ := I.lstM hH
  obtain ⟨u, hu, ru⟩ := r.get hy
  have hy' : its.toArray[its.toArray.size - 1]? = some u := by
    show its.toArray[its.length - 1]? = some u
    rw [← Array.getElem?_toList, ← hl]
    exact hu
  refine call_meets F.slot_list_pop ⟨_, e, rfl⟩ F.entry_list_pop (F.args_list_pop_1 _) (MeetsSeq.list_pop_last l its.toArray n u hy' (by rw [List.size_toArray]; omega)) ⟨e, ?_⟩
  refine ⟨y, _, I.lset (its' := its.dropLast) hH e ?_ r.dropLast ?_, ru, q⟩
  · show its.toArray.eraseIdxIfInBounds (its.toArray.size - 1) = its.dropLast.toArray
    rw [List.size_toArray, List.eraseIdxIfInBounds_toArray, erase_last]
  · rw [List.length_dropLast]
    omega

/-! ### list + list, list += list, list * int -/
def rCat : R2 := fun x y H Q => ∃ l b xs zs, x = .ref l ∧ y = .ref b ∧ H l = some (.lst xs) ∧ H b = some (.lst zs) ∧ xs.length + zs.length ≤ sizeLine ∧ ∀ p, H p = none → Q (.ref p) (upd H p (.lst (xs ++ zs)))
theorem op_cat : OpR X (binaryOp .Add) rCat := by
  intro pins s σ H x y v u Q I rx ry h
  obtain ⟨l, b, xs, zs, rfl, rfl, hH, hB, hz, q⟩ := h
  cases rx
  cases ry
  obtain ⟨z, its, n, r, hl, e⟩ := I.lstM hH
  obtain ⟨z2, its2, n2, r2, hl2, e2⟩ := I.lstM hB
  refine PySem.P.add_list e e2 ?_ (by rw [List.size_toArray, List.size_toArray]; omega)
  have ea : its.toArray ++ its2.toArray = (its ++ its2).toArray := by simp
  rw [ea]
  exact ⟨.ref _, _, I.lnew (t' := s.toks) (r.append r2) (by rw [List.length_append]; omega), rfl, q _ I.fresh⟩
/-- a list times an int (a negative one is nothing) -/
def rRep : R2 := fun x y H Q => ∃ l k xs, x = .ref l ∧ y = .int k ∧ H l = some (.lst xs) ∧ -(2 ^ 63) ≤ k ∧ k < 2 ^ 63 ∧ xs.length * k.toNat ≤ sizeLine ∧
  ∀ p, H p = none → Q (.ref p) (upd H p (.lst (List.replicate k.toNat xs).flatten))
theorem len_rep {α : Type} (xs : List α) (k : Nat) : (List.replicate k xs).flatten.length = k * xs.length := by
  induction k with
  | zero => simp
  | succ k ih => rw [List.replicate_succ, List.flatten_cons, List.length_append, ih, Nat.succ_mul, Nat.add_comm]
theorem op_rep : OpR X (binaryOp .Mult) rRep := by
  intro pins s σ H x y v u Q I rx ry h
  obtain ⟨l, k, xs, rfl, rfl, hH, h1, h2, hz, q⟩ := h
  cases rx
  obtain ⟨t, rfl⟩ := ry
  obtain ⟨z, its, n, r, hl, e⟩ := I.lstM hH
  have hlen : its.toArray.size * k.toNat ≤ sizeLine := by rw [List.size_toArray, ← hl]; exact hz
  have hcap : ¬ its.toArray.size * k.toNat > (2 ^ 63 - 1) / 8 := by
    have : (sizeLine : Nat) ≤ (2 ^ 63 - 1) / 8 := by decide
    omega
  have hfit : ¬ (!Builtin.List.listFitsIndex k) = true := by
    rw [fitsIndex_both h1 h2]
    exact Bool.false_ne_true
  have hlong : ¬ Builtin.List.listTooLong (its.toArray.size * k.toNat) = true := by
    rw [notLongL hlen]
    exact Bool.false_ne_true
  have hnew : List.foldl (fun x1 x2 => x1 ++ x2) #[] (List.replicate (if its.toArray.isEmpty = true then 0 else k.toNat) its.toArray) = (List.replicate k.toNat its).flatten.toArray := by
    have f0 : ∀ m : Nat, List.foldl (fun x1 x2 => x1 ++ x2) #[] (List.replicate m its.toArray) = (List.replicate m its).flatten.toArray := fun m => by
      have := foldl_rep its m []
      rw [List.nil_append] at this
      exact this
    rw [f0]
    cases its with
    | nil => simp
    | cons a r' => rw [if_neg (by simp)]
  refine wpAny_binaryOp_repeat_ref (T := "list") (U := "int") (by decide) ⟨_, e, rfl⟩ (fun s' => typeIs_int s' k t) noFill_list_mul F.fills_int_mul F.slot_int_rmul repeat_list F.slot_int_index.lookup
    (call_meets F.slot_int_rmul (typeIs_int s k t) F.entry_int_rmul (F.args_int_rmul_2 _ _) (int___rmul___int_list k t l its.toArray n)
      ⟨e, rfl, ⟨_, e, rfl⟩, call_meets F.slot_list_mul ⟨_, e, rfl⟩ F.entry_list_mul (F.args_list_mul_2 _ _) (AutoListH.list___mul___list_int_3 l its.toArray n k t hfit hcap hlong) ⟨e, ?_⟩⟩)
  rw [hnew]
  exact ⟨.ref _, _, I.lnew (t' := s.toks) (r.rep k.toNat) (by rw [len_rep, Nat.mul_comm]; exact hz), rfl, q _ I.fresh⟩

/-! ### del xs[i] -/
end

/-! ### xs[a:b] = ys -/
section
variable {prog : Program} {w : World} {A : Around} {E : Value → Shared → Prop} {s : Shared}
set_option maxRecDepth 100000 in
end

section
variable {X : Cx}
end
end L2

namespace L2
open PySem PySem.Spec PyProof.Rows

theorem Vals.ints : ∀ {ns : List Int} {us : List Value}, Vals (ns.map V.int) us → IntsAre us ns
  | [], us, h => by
    rw [List.map_nil] at h
    cases h
    exact IntsAre.nil
  | n :: ns, us, h => by
    rw [List.map_cons] at h
    cases h with
    | cons r t =>
      obtain ⟨k, rfl⟩ := r
      exact IntsAre.cons n k (Vals.ints t)
theorem Vals.strs : ∀ {xs : List Str} {us : List Value}, Vals (xs.map V.str) us → StrsAre us xs
  | [], us, h => by
    rw [List.map_nil] at h
    cases h
    exact StrsAre.nil
  | x :: xs, us, h => by
    rw [List.map_cons] at h
    cases h with
    | cons r t =>
      obtain ⟨k, rfl⟩ := r
      exact StrsAre.cons x k (Vals.strs t)
theorem Vals.ref1 {a : Addr} {us : List Value} (r : Vals [V.ref a] us) : us = [Value.ref a] := by
  cases r with
  | cons r t =>
    cases t
    cases r
    rfl
/-! ### the library's walks over a list of ints, kept objects alone -/
section
variable {prog : Program} {w : World} {A : Around} {E : Value → Shared → Prop} {s : Shared} {l : Addr} {its : List Value} {ns : List Int} {Q : Value → Shared → Prop}
theorem sum_raw (hh : A.handled = none) (hl : s.heap.IsList l its.toArray) (hi : IntsAre its ns)
    (h : ∀ h' tk t', (∀ b o, s.heap.get? b = some o → h'.get? b = some o) → Q (.int ns.sum t') { s with heap := h', toks := tk }) : wpAny (model prog w) A (call (.builtin "sum") [.ref l]) Q E s := by
  obtain ⟨xs, e⟩ := hi.allInts.items
  have hn : numsOf (intItems xs).toList = ns := by rw [← e]; exact hi.numsOf
  rw [nums_intItems] at hn
  rw [e] at hl
  refine PySem.sum_intListG hh hl fun h' tk t' hk => ?_
  have := h h' tk t' hk
  rw [preSum_eq, List.take_of_length_le (by simp), hn]; exact this
theorem max_raw (hh : A.handled = none) (hl : s.heap.IsList l its.toArray) (hi : IntsAre its ns) (hne : 0 < ns.length)
    (h : ∀ h' tk M t', (∀ b o, s.heap.get? b = some o → h'.get? b = some o) → M ∈ ns → (∀ a, a ∈ ns → a ≤ M) → Q (.int M t') { s with heap := h', toks := tk }) : wpAny (model prog w) A (call (.builtin "max") [.ref l]) Q E s := by
  obtain ⟨xs, e⟩ := hi.allInts.items
  have hn : numsOf (intItems xs).toList = ns := by rw [← e]; exact hi.numsOf
  rw [nums_intItems] at hn
  subst hn
  rw [e] at hl
  have hsz : 0 < xs.size := by simpa using hne
  refine PySem.max_intList hh hl hsz fun v h' tk hv hk => ?_
  obtain ⟨t, rfl⟩ := intItems_at hv
  obtain ⟨h1, h2⟩ := argBest_gt (numAt xs) (xs.size - 1)
  refine h h' tk _ t hk ?_ fun a ha => ?_
  · rw [numAt_eq]; exact PySem.getD_mem (by rw [List.length_map, Array.length_toList]; omega)
  · obtain ⟨j, hj, rfl⟩ := mem_getD ha
    rw [List.length_map, Array.length_toList] at hj
    rw [← numAt_eq]; exact h2 j (by omega)
theorem min_raw (hh : A.handled = none) (hl : s.heap.IsList l its.toArray) (hi : IntsAre its ns) (hne : 0 < ns.length)
    (h : ∀ h' tk M t', (∀ b o, s.heap.get? b = some o → h'.get? b = some o) → M ∈ ns → (∀ a, a ∈ ns → M ≤ a) → Q (.int M t') { s with heap := h', toks := tk }) : wpAny (model prog w) A (call (.builtin "min") [.ref l]) Q E s := by
  obtain ⟨xs, e⟩ := hi.allInts.items
  have hn : numsOf (intItems xs).toList = ns := by rw [← e]; exact hi.numsOf
  rw [nums_intItems] at hn
  subst hn
  rw [e] at hl
  have hsz : 0 < xs.size := by simpa using hne
  refine PySem.min_intList hh hl hsz fun v h' tk hv hk => ?_
  obtain ⟨t, rfl⟩ := intItems_at hv
  obtain ⟨h1, h2⟩ := argBest_lt (numAt xs) (xs.size - 1)
  refine h h' tk _ t hk ?_ fun a ha => ?_
  · rw [numAt_eq]; exact PySem.getD_mem (by rw [List.length_map, Array.length_toList]; omega)
  · obtain ⟨j, hj, rfl⟩ := mem_getD ha
    rw [List.length_map, Array.length_toList] at hj
    rw [← numAt_eq]; exact h2 j (by omega)
end

/-! ### the calls, by values (CallR of 03t; MtR of 06l) -/
section
variable {X : Cx}
/-- sum(xs) of a list of ints -/
def rSum (K : PySem.W.Frag) : List V → Hp → VK → Prop := fun vs H Q => ∃ (a : Addr) (ns : List Int), vs = [V.ref a] ∧ SqL K H a (ns.map V.int) ∧ Q (.int ns.sum) H
/-- max(xs), min(xs) of a list of ints -/
def rMax (K : PySem.W.Frag) : List V → Hp → VK → Prop := fun vs H Q => ∃ (a : Addr) (ns : List Int), vs = [V.ref a] ∧ SqL K H a (ns.map V.int) ∧ 0 < ns.length ∧ ∀ m, m ∈ ns → (∀ y, y ∈ ns → y ≤ m) → Q (.int m) H
def rMin (K : PySem.W.Frag) : List V → Hp → VK → Prop := fun vs H Q => ∃ (a : Addr) (ns : List Int), vs = [V.ref a] ∧ SqL K H a (ns.map V.int) ∧ 0 < ns.length ∧ ∀ m, m ∈ ns → (∀ y, y ∈ ns → m ≤ y) → Q (.int m) H
theorem cr_sum (hc : X.calm = true) : CallR X (.builtin "sum") (rSum X.K) := by
  intro pins s σ H vs us Q I r h
  obtain ⟨a, ns, rfl, hs, q⟩ := h
  obtain ⟨its, rv, hl, _⟩ := I.list hs
  rw [Vals.ref1 r]
  exact sum_raw (I.ok.hd hc) hl.isList rv.ints fun h' tk t' hk => ⟨.int _, H, I.kept hk, ⟨_, rfl⟩, q⟩
theorem cr_max (hc : X.calm = true) : CallR X (.builtin "max") (rMax X.K) := by
  intro pins s σ H vs us Q I r h
  obtain ⟨a, ns, rfl, hs, hne, q⟩ := h
  obtain ⟨its, rv, hl, _⟩ := I.list hs
  rw [Vals.ref1 r]
  exact max_raw (I.ok.hd hc) hl.isList rv.ints hne fun h' tk m t' hk h1 h2 => ⟨.int _, H, I.kept hk, ⟨_, rfl⟩, q m h1 h2⟩
theorem cr_min (hc : X.calm = true) : CallR X (.builtin "min") (rMin X.K) := by
  intro pins s σ H vs us Q I r h
  obtain ⟨a, ns, rfl, hs, hne, q⟩ := h
  obtain ⟨its, rv, hl, _⟩ := I.list hs
  rw [Vals.ref1 r]
  exact min_raw (I.ok.hd hc) hl.isList rv.ints hne fun h' tk m t' hk h1 h2 => ⟨.int _, H, I.kept hk, ⟨_, rfl⟩, q m h1 h2⟩

/-! sorted, sort (fewer than 64 items: the library's own bound) -/
end

/-! ### list.index, flat items -/
section
variable {X : Cx}
def rIndex (K : PySem.W.Frag) : V → List V → Hp → VK → Prop := fun x xs H Q => ∃ (a : Addr) (ys : List V) (y : V) (j : Nat) (z : V), x = V.ref a ∧ xs = [y] ∧ SqL K H a ys ∧ flatV y = true ∧ ys.all flatV = true ∧ ys[j]? = some z ∧ eqV z y = true ∧
  (∀ (m : Nat) (z' : V), m < j → ys[m]? = some z' → eqV z' y = false) ∧ Q (.int (j : Nat)) H
theorem flat_at {ys : List V} (f : ys.all flatV = true) {j : Nat} {z : V} (h : ys[j]? = some z) : flatV z = true := List.all_eq_true.mp f z (List.mem_of_getElem? h)
theorem mt_index : MtR X "list.index" (rIndex X.K) := by
  intro pins s σ H x xs v us Q I rx rxs h
  obtain ⟨a, ys, y, j, z, rfl, rfl, hs, fy, fys, hz, hzj, hno, q⟩ := h
  cases rx
  cases rxs with
  | cons ry rt =>
    rename_i uy ut
    cases rt
    obtain ⟨its, rv, ⟨⟨cls, dd, data, sl⟩, n, ho, hc, hdn, hd⟩, hlen⟩ := I.list hs
    simp only at hc hd
    subst hc hd
    obtain ⟨u, hu, ru⟩ := rv.get hz
    obtain ⟨hjl, hje⟩ := List.getElem?_eq_some_iff.mp hu
    have hvl := rv.length
    have hj : j < its.toArray.size := by simpa using hjl
    have hsl := sizeLine_eq
    refine call_meets PySem.F.slot_list_index ⟨_, ho, rfl⟩ PySem.F.entry_list_index (PySem.F.args_list_index_2 _ _)
      (SeqAt.list_indexAt a its.toArray n dd sl uy (eqU y) j hj (by omega) ?_ ?_) ⟨ho, fun u' hu' => mem_eqAt ry fy rv fys u' (by simpa using hu'), ?_⟩
    · have e1 : its.toArray[j] = u := by simpa using hje
      rw [e1, eqU_of ru (flat_at fys hz)]
      exact hzj
    · intro m hm hmj
      have hml : m < its.length := by simpa using hm
      have hmy : m < ys.length := by omega
      have hy' : ys[m]? = some ys[m] := List.getElem?_eq_getElem hmy
      obtain ⟨u2, hu2, ru2⟩ := rv.get hy'
      obtain ⟨_, hme⟩ := List.getElem?_eq_some_iff.mp hu2
      have e1 : its.toArray[m] = u2 := by simpa using hme
      rw [e1, eqU_of ru2 (flat_at fys hy')]
      exact hno m _ hmj hy'
    · exact ⟨.int (j : Nat), H, I.tok _, ⟨_, rfl⟩, q⟩
end

/-! ### type(x) of an own instance; is, is not of a module's class -/
section
variable {X : Cx}
end

/-! ### any(xs), all(xs) of a list of bools -/
section
variable {X : Cx}
end

/-! ### == and != of data at any depth: none, bools, ints, texts, lists, tuples -/
mutual
inductive Dp (K : PySem.W.Frag) (H : Hp) : V → PyData → Prop
  | non : Dp K H .non .none
  | bl (b : Bool) : Dp K H (.bl b) (.bool b)
  | int (i : Int) : Dp K H (.int i) (.int i)
  | str (x : Str) : Dp K H (.str x) (.str x)
  | lst {a : Addr} {xs : List V} {ds : List PyData} : SqL K H a xs → DpAll K H xs ds → Dp K H (.ref a) (.list ds)
  | tup {a : Addr} {xs : List V} {ds : List PyData} : SqT K H a xs → DpAll K H xs ds → Dp K H (.ref a) (.tuple ds)
inductive DpAll (K : PySem.W.Frag) (H : Hp) : List V → List PyData → Prop
  | nil : DpAll K H [] []
  | cons {v : V} {vs : List V} {d : PyData} {ds : List PyData} : Dp K H v d → DpAll K H vs ds → DpAll K H (v :: vs) (d :: ds)
end
section
variable {X : Cx} {pins : List (Addr × Obj)} {σ : St} {H : Hp} {s : Shared}
mutual
theorem Dp.reads (I : Inv X pins σ H s) : ∀ (d : PyData) (v : V) (u : Value), Dp X.K H v d → RelV v u → ∃ as, Reads s.heap u d as
  | .none, _, _, h, r => by
    cases h
    cases r
    exact ⟨_, Reads.none⟩
  | .bool b, _, _, h, r => by
    cases h
    cases r
    exact ⟨_, Reads.bool b⟩
  | .int i, _, _, h, r => by
    cases h
    obtain ⟨t, rfl⟩ := r
    exact ⟨_, Reads.int i t⟩
  | .str x, _, _, h, r => by
    cases h
    obtain ⟨t, rfl⟩ := r
    exact ⟨_, Reads.str x t⟩
  | .list ds, _, _, h, r => by
    cases h with
    | lst hs ha =>
      cases r
      obtain ⟨its, rv, ⟨o, n, ho, hc, _, hd⟩, _⟩ := I.list hs
      obtain ⟨as, hr⟩ := Dp.readsAll I ds _ its ha rv
      exact ⟨_, Reads.list ho hc hd hr⟩
  | .tuple ds, _, _, h, r => by
    cases h with
    | tup hs ha =>
      cases r
      obtain ⟨its, rv, ⟨o, ho, hc, n, hd⟩, _⟩ := I.tuple hs
      obtain ⟨as, hr⟩ := Dp.readsAll I ds _ its ha rv
      exact ⟨_, Reads.tuple ho hc hd hr⟩
  | .dict _, _, _, h, _ => by cases h
theorem Dp.readsAll (I : Inv X pins σ H s) : ∀ (ds : List PyData) (vs : List V) (us : List Value), DpAll X.K H vs ds → Vals vs us → ∃ as, ReadsAll s.heap us ds as
  | [], _, _, h, r => by
    cases h
    cases r
    exact ⟨_, ReadsAll.nil⟩
  | d :: ds, _, _, h, r => by
    cases h with
    | cons h1 h2 =>
      cases r with
      | cons r1 r2 =>
        obtain ⟨as, q1⟩ := Dp.reads I d _ _ h1 r1
        obtain ⟨bs, q2⟩ := Dp.readsAll I ds _ _ h2 r2
        exact ⟨_, ReadsAll.cons q1 q2⟩
end
end
section
variable {X : Cx}
end
end L2

namespace L2
open PySem PySem.Spec PyProof.Rows
abbrev CellAt (h : Heap) (c : Addr) (v : Option Value) : Prop := h.IsCell c v
def relS (scope sc : Scope) : Scope :=
  { scope with names := scope.names.map fun (n, k) => if (k == .free && sc.kind == .function && sc.names.lookup n == some .cell) then (n, .cell) else (n, k) }

def cloFrom (cells : List (Str × Addr)) : List (Str × NameKind) → List (Str × Addr) → List (Str × Addr)
  | [], acc => acc
  | (n, k) :: r, acc => if k == .free then cloFrom cells r ((n, (cells.lookup n).getD 0) :: acc) else cloFrom cells r acc

theorem closure_loop (env : Env) (f : Str × NameKind → List (Str × Addr) → Sem (ForInStep (List (Str × Addr))))
    (hf : ∀ n k c, f (n, k) c = if k == .free then (do let a ← cellOf env n; pure (.yield ((n, a) :: c))) else pure (.yield c)) :
    ∀ (names : List (Str × NameKind)) (acc : List (Str × Addr)), (∀ y ∈ names, y.2 = .free → ∃ c, env.cells.lookup y.1 = some c) → forIn names acc f = pure (cloFrom env.cells names acc)
  | [], acc, _ => by rw [List.forIn_nil]; rfl
  | (n, k) :: r, acc, h => by
    rw [List.forIn_cons, hf]
    have ih := fun acc => closure_loop env f hf r acc fun y hy => h y (List.mem_cons_of_mem _ hy)
    unfold cloFrom
    by_cases hk : (k == NameKind.free) = true
    · rw [if_pos hk, if_pos hk]
      obtain ⟨c, hc⟩ := h (n, k) List.mem_cons_self (by simpa using hk)
      have e : cellOf env n = pure c := by unfold cellOf; rw [hc]
      rw [e]
      have e2 : (env.cells.lookup n).getD 0 = c := by rw [hc]; rfl
      rw [e2]
      exact ih _
    · rw [if_neg hk, if_neg hk]
      exact ih _
theorem closure_ok {scope : Scope} {env : Env} (h : ∀ y ∈ scope.names, y.2 = .free → ∃ c, env.cells.lookup y.1 = some c) : closureFor scope env = pure (cloFrom env.cells scope.names []) := by
  simp only [closureFor]
  rw [closure_loop env _ (fun n k c => rfl) scope.names [] h]
  rfl

theorem mem_lookup {α : Type} : ∀ {l : List (Str × α)} {n : Str} {c : α}, (n, c) ∈ l → ∃ c', l.lookup n = some c'
  | (k, v) :: r, n, c, h => by
    rw [List.lookup_cons]
    cases hb : n == k with
    | true => exact ⟨_, rfl⟩
    | false =>
      rcases List.mem_cons.mp h with e | h
      · cases e; simp at hb
      · exact mem_lookup h

theorem cloFrom_mem {cells : List (Str × Addr)} : ∀ {names : List (Str × NameKind)} {acc : List (Str × Addr)} {n : Str} {c : Addr}, (n, c) ∈ cloFrom cells names acc → (n, c) ∈ acc ∨ ((n, .free) ∈ names ∧ c = (cells.lookup n).getD 0)
  | [], _, _, _, h => .inl h
  | (m, k) :: r, acc, n, c, h => by
    unfold cloFrom at h
    split at h
    · rename_i hk
      have hk : k = .free := by simpa using hk
      rcases cloFrom_mem h with h | ⟨h1, h2⟩
      · rcases List.mem_cons.mp h with e | h
        · cases e; exact .inr ⟨hk ▸ List.mem_cons_self, rfl⟩
        · exact .inl h
      · exact .inr ⟨List.mem_cons_of_mem _ h1, h2⟩
    · rcases cloFrom_mem h with h | ⟨h1, h2⟩
      · exact .inl h
      · exact .inr ⟨List.mem_cons_of_mem _ h1, h2⟩
theorem cloFrom_acc {cells : List (Str × Addr)} : ∀ {names : List (Str × NameKind)} {acc : List (Str × Addr)} {p : Str × Addr}, p ∈ acc → p ∈ cloFrom cells names acc
  | [], _, _, h => h
  | (m, k) :: r, acc, p, h => by
    unfold cloFrom
    split
    · exact cloFrom_acc (List.mem_cons_of_mem _ h)
    · exact cloFrom_acc h
theorem cloFrom_has {cells : List (Str × Addr)} : ∀ {names : List (Str × NameKind)} {acc : List (Str × Addr)} {n : Str}, (n, .free) ∈ names → (n, (cells.lookup n).getD 0) ∈ cloFrom cells names acc
  | (m, k) :: r, acc, n, h => by
    unfold cloFrom
    rcases List.mem_cons.mp h with e | h
    · cases e
      exact cloFrom_acc List.mem_cons_self
    · split
      · exact cloFrom_has h
      · exact cloFrom_has h

theorem cells_mem : ∀ {names : List (Str × NameKind)} {h : Heap} {acc : List (Str × Addr)} {x : Str} {c : Addr}, (x, c) ∈ cellsFrom h.objs.size names acc →
    (x, c) ∈ acc ∨ ((x, .cell) ∈ names ∧ h.objs.size ≤ c ∧ CellAt (pushCells h names) c none)
  | [], _, _, _, _, h => .inl h
  | (n, k) :: r, h, acc, x, c, hm => by
    unfold cellsFrom at hm
    unfold pushCells
    split at hm
    · rename_i hk
      rw [if_pos hk]
      have hk : k = .cell := by simpa using hk
      rw [← Heap.size_push h { cls := .type "cell", data := .cell none }] at hm
      rcases cells_mem hm with hm | ⟨h1, h2, h3⟩
      · rcases List.mem_cons.mp hm with e | hm
        · cases e
          exact .inr ⟨hk ▸ List.mem_cons_self, Nat.le_refl _, _, pushCells_keeps r _ _ _ (Heap.get?_push_size _ rfl), rfl⟩
        · exact .inl hm
      · rw [Heap.size_push] at h2
        exact .inr ⟨List.mem_cons_of_mem _ h1, Nat.le_of_succ_le h2, h3⟩
    · rename_i hk
      rw [if_neg hk]
      rcases cells_mem hm with hm | ⟨h1, h2, h3⟩
      · exact .inl hm
      · exact .inr ⟨List.mem_cons_of_mem _ h1, h2, h3⟩
theorem cells_acc : ∀ {names : List (Str × NameKind)} {n : Nat} {acc : List (Str × Addr)} {p : Str × Addr}, p ∈ acc → p ∈ cellsFrom n names acc
  | [], _, _, _, h => h
  | (m, k) :: r, n, acc, p, h => by
    unfold cellsFrom
    split
    · exact cells_acc (List.mem_cons_of_mem _ h)
    · exact cells_acc h
theorem cells_has : ∀ {names : List (Str × NameKind)} {n : Nat} {acc : List (Str × Addr)} {x : Str}, (x, .cell) ∈ names → ∃ c, (x, c) ∈ cellsFrom n names acc
  | (m, k) :: r, n, acc, x, h => by
    unfold cellsFrom
    rcases List.mem_cons.mp h with e | h
    · cases e
      exact ⟨n, cells_acc List.mem_cons_self⟩
    · split
      · exact cells_has h
      · exact cells_has h
theorem cells_inj : ∀ {names : List (Str × NameKind)} {h : Heap} {acc : List (Str × Addr)} {x y : Str} {c : Addr}, (∀ p ∈ acc, p.2 < h.objs.size) → (∀ x y c, (x, c) ∈ acc → (y, c) ∈ acc → x = y) →
    (x, c) ∈ cellsFrom h.objs.size names acc → (y, c) ∈ cellsFrom h.objs.size names acc → x = y
  | [], _, _, _, _, _, _, hi, h1, h2 => hi _ _ _ h1 h2
  | (n, k) :: r, h, acc, x, y, c, hl, hi, h1, h2 => by
    unfold cellsFrom at h1 h2
    split at h1
    · rename_i hk
      rw [if_pos hk] at h2
      rw [← Heap.size_push h { cls := .type "cell", data := .cell none }] at h1 h2
      refine cells_inj (h := h.push _) (fun p hp => ?_) (fun x y c a b => ?_) h1 h2
      · rw [Heap.size_push]
        rcases List.mem_cons.mp hp with rfl | hp
        · exact Nat.lt_succ_self _
        · exact Nat.lt_succ_of_lt (hl p hp)
      · rcases List.mem_cons.mp a with e | a <;> rcases List.mem_cons.mp b with e' | b
        · cases e; cases e'; rfl
        · cases e; exact absurd (hl _ b) (Nat.lt_irrefl _)
        · cases e'; exact absurd (hl _ a) (Nat.lt_irrefl _)
        · exact hi _ _ _ a b
    · rename_i hk
      rw [if_neg hk] at h2
      exact cells_inj hl hi h1 h2

theorem newEnv_comp {M : Model} {A : Around} {E : Value → Shared → Prop} {s : Shared} {scope : Scope} {globals : Addr} {closure : List (Str × Addr)} {qual : Str} {func : Option Addr} {code : Value} {around : Env} {builtins : Addr} {Q : Env → Shared → Prop}
    (h : Q (newEnv scope s.heap.objs.size globals (cellsFrom (s.heap.objs.size + 1) scope.names closure) qual func code (some around) builtins)
      { s with heap := pushCells (s.heap.push { cls := .type "dict", data := .dict #[] }) scope.names }) :
    wpAny M A (newFunctionEnv scope globals closure [] qual func code (some around) builtins) Q E s := by
  simp only [newFunctionEnv, Option.isSome_some, if_true]
  refine wpAny_bind (wpAny_alloc ?_)
  refine wpAny_bind (wpAny_layCells _ (fun n k c => rfl) scope.names closure _ _ ?_)
  rw [show ({ s with heap := s.heap.push { cls := .type "dict", data := .dict #[] } } : Shared).heap.objs.size = s.heap.objs.size + 1 from Heap.size_push ..]
  rw [List.forIn_nil]
  exact wpAny_bind (wpAny_pure (wpAny_pure h))

/-- every name of the written scope, in the scope that runs -/
theorem lookup_relS {sc : Scope} : ∀ {names : List (Str × NameKind)} {x : Str} {k : NameKind},
    (names.map fun (n, k) => if (k == NameKind.free && sc.kind == .function && sc.names.lookup n == some .cell) then (n, NameKind.cell) else (n, k)).lookup x = some k →
    ∃ k', names.lookup x = some k' ∧ (k = k' ∨ (k' = .free ∧ k = .cell))
  | [], _, _, h => by simp at h
  | (n, k₀) :: r, x, k, h => by
    have ih := @lookup_relS sc r x k
    have h' : List.lookup x ((if (k₀ == NameKind.free && sc.kind == .function && sc.names.lookup n == some .cell) = true then (n, NameKind.cell) else (n, k₀)) :: (r.map _)) = some k := h
    cases hx : x == n with
    | true =>
      simp only [List.lookup_cons, hx]
      by_cases hc : (k₀ == NameKind.free && sc.kind == .function && sc.names.lookup n == some .cell) = true
      · rw [if_pos hc] at h'
        simp only [List.lookup_cons, hx] at h'
        cases h'
        simp only [Bool.and_eq_true, beq_iff_eq] at hc
        exact ⟨k₀, rfl, .inr ⟨hc.1.1, rfl⟩⟩
      · rw [if_neg hc] at h'
        simp only [List.lookup_cons, hx] at h'
        cases h'
        exact ⟨_, rfl, .inl rfl⟩
    | false =>
      simp only [List.lookup_cons, hx]
      by_cases hc : (k₀ == NameKind.free && sc.kind == .function && sc.names.lookup n == some .cell) = true
      · rw [if_pos hc] at h'
        simp only [List.lookup_cons, hx] at h'
        exact ih h'
      · rw [if_neg hc] at h'
        simp only [List.lookup_cons, hx] at h'
        exact ih h'
/-- the names of a comprehension's block: its own (with their places in N), or captured -/
structure BlkOk (N : List Str) (sc scope : Scope) (own : List (Str × Nat)) : Prop where
  kind : scope.kind = .function
  uniq : ∀ y ∈ scope.names, scope.names.lookup y.1 = some y.2
  ix : ∀ p ∈ own, N[p.2]? = some p.1
  free : ∀ y ∈ scope.names, y.2 = .free → sc.names.lookup y.1 = some .cell ∨ sc.names.lookup y.1 = some .free
  own : ∀ y ∈ scope.names, y.2 = .local ∨ y.2 = .cell → y.1 ∈ own.map (·.1) ∨ y.1 ∉ N
/-- the slots of the block's own names forgotten -/
def wipe (σ : St) : List Nat → St
  | [] => σ
  | v :: vs => (wipe σ vs).set v none
theorem wipe_length (σ : St) : ∀ vs : List Nat, (wipe σ vs).length = σ.length
  | [] => rfl
  | v :: vs => by unfold wipe; rw [List.length_set, wipe_length σ vs]
theorem wipe_some {σ : St} {i : Nat} {x : V} : ∀ {vs : List Nat}, (wipe σ vs)[i]? = some (some x) → σ[i]? = some (some x) ∧ i ∉ vs
  | [], h => ⟨h, by simp⟩
  | v :: vs, h => by
    unfold wipe at h
    by_cases hi : v = i
    · subst hi
      by_cases hv : v < (wipe σ vs).length
      · rw [List.getElem?_set_self hv] at h; cases h
      · rw [List.getElem?_eq_none (by simpa using hv)] at h; cases h
    · rw [List.getElem?_set_ne hi] at h
      obtain ⟨h1, h2⟩ := wipe_some h
      exact ⟨h1, by simp only [List.mem_cons, not_or]; exact ⟨fun e => hi e.symm, h2⟩⟩

/-- the context of a block that starts at s, its iterator's objects at fp -/
abbrev Cx.blk (X : Cx) (s : Shared) (H : Hp) (scope : Scope) (cenv : Env) (fp : List Addr) : Cx := { X with s_0 := s, H_0 := H, env := cenv, outer := X.stack, ex := fp, fn := fun x => scope.names.lookup x == some .cell, pn := [], xe := fun _ _ => False }
section
variable {X : Cx} {pins : List (Addr × Obj)} {σ : St} {H : Hp} {s : Shared}
theorem block_start {scope : Scope} {own : List (Str × Nat)} {fp : List Addr} (I : Inv X pins σ H s) (ok : BlkOk X.N X.env.scope scope own) (hN : X.N.Nodup) (hfp : ∀ b ∈ fp, FpOk X pins H b ∧ b < s.heap.objs.size) :
    Inv (X.blk s H scope (compEnvC scope (cellsFrom (s.heap.objs.size + 1) scope.names (cloFrom X.env.cells scope.names [])) s.heap.objs.size X.env) fp) [] (wipe σ (own.map (·.2))) H { s with heap := pushCells (s.heap.push { cls := .type "dict", data := .dict #[] }) scope.names } := by
  have hfree : ∀ y ∈ scope.names, y.2 = .free → ∃ c, X.env.cells.lookup y.1 = some c := fun y hy e => by
    rcases ok.free y hy e with k | k
    · exact I.ok.has _ (.inl k)
    · exact I.ok.has _ (.inr k)
  generalize hcenv : compEnvC scope (cellsFrom (s.heap.objs.size + 1) scope.names (cloFrom X.env.cells scope.names [])) s.heap.objs.size X.env = cenv
  have kp : ∀ b o, s.heap.get? b = some o → (pushCells (s.heap.push { cls := .type "dict", data := .dict #[] }) scope.names).get? b = some o := fun b o e => pushCells_keeps _ _ _ _ (Heap.get?_push_of_some _ e)
  have hL : cenv.locals = s.heap.objs.size := by rw [← hcenv]; rfl
  have hcl : cenv.cells = cellsFrom (s.heap.objs.size + 1) scope.names (cloFrom X.env.cells scope.names []) := by rw [← hcenv]; rfl
  have hsc : cenv.scope = relS scope X.env.scope := by rw [← hcenv]; rfl
  rw [← Heap.size_push s.heap { cls := .type "dict", data := .dict #[] }] at hcl
  have cm : ∀ {y c}, (y, c) ∈ cloFrom X.env.cells scope.names [] → X.env.cells.lookup y = some c ∧ c < s.heap.objs.size := fun {y c} hm => by
    rcases cloFrom_mem hm with hm | ⟨h1, rfl⟩
    · cases hm
    · obtain ⟨c, hc⟩ := hfree _ h1 rfl
      rw [hc]
      obtain ⟨w, z⟩ := I.cell _ _ hc
      exact ⟨rfl, z.lt⟩
  have mem : ∀ {y c}, cenv.cells.lookup y = some c → (X.env.cells.lookup y = some c ∧ c < s.heap.objs.size) ∨ (s.heap.objs.size + 1 ≤ c ∧ CellAt (pushCells (s.heap.push { cls := .type "dict", data := .dict #[] }) scope.names) c none) := fun {y c} e => by
    rw [hcl] at e
    rcases cells_mem (PySem.mem_of_lookup e) with hm | ⟨_, h2, h3⟩
    · exact .inl (cm hm)
    · rw [Heap.size_push] at h2; exact .inr ⟨h2, h3⟩
  have look : ∀ {y}, scope.names.lookup y = some .free → ∃ c, cenv.cells.lookup y = some c ∧ X.env.cells.lookup y = some c := fun {y} hl => by
    have hy : (y, NameKind.free) ∈ scope.names := PySem.mem_of_lookup hl
    obtain ⟨c', e'⟩ := mem_lookup (cells_acc (names := scope.names) (n := (s.heap.push { cls := .type "dict", data := .dict #[] }).objs.size) (cloFrom_has (cells := X.env.cells) (acc := []) hy))
    rw [← hcl] at e'
    refine ⟨c', e', ?_⟩
    rw [hcl] at e'
    rcases cells_mem (PySem.mem_of_lookup e') with hm | ⟨h1, _, _⟩
    · exact (cm hm).1
    · have := ok.uniq _ h1
      rw [hl] at this; cases this
  have okB : (X.blk s H scope cenv fp).Ok := by
    refine ⟨I.ok.mod, by show cenv.scope.kind = _; rw [hsc]; exact ok.kind, by show cenv.globals = _; rw [← hcenv]; exact I.ok.glob, by show cenv.builtins = _; rw [← hcenv]; exact I.ok.blt, by show s.heap.objs.size ≤ cenv.locals; rw [hL]; exact Nat.le_refl _,
      fun y z c e1 e2 => ?_, fun y hy => ?_, fun y c z e => ?_, I.ok.hd, I.ok.frames, .inl rfl, fun b hb => ⟨?_, fun y c e z => ?_⟩, I.bs, Nat.le_trans I.ok.bsz I.sz, fun b o e hb => ?_, fun b hb z => ?_, I.stack, I.stkFree⟩
    · have e1 : cenv.cells.lookup y = some c := e1
      have e2 : cenv.cells.lookup z = some c := e2
      rw [hcl] at e1 e2
      refine cells_inj (fun p hp => ?_) (fun y z c a b => I.ok.inj y z c (cm a).1 (cm b).1) (PySem.mem_of_lookup e1) (PySem.mem_of_lookup e2)
      rw [Heap.size_push]
      exact Nat.lt_succ_of_lt (cm (y := p.1) (c := p.2) hp).2
    · show ∃ c, cenv.cells.lookup y = some c
      have key : ∀ k, cenv.kindOf y = some k → (k = .cell ∨ k = .free) → ∃ c, cenv.cells.lookup y = some c := fun k hk hk' => by
        unfold Env.kindOf at hk
        rw [hsc] at hk
        obtain ⟨k', e, r⟩ := lookup_relS hk
        have : k' = .cell ∨ k' = .free := by
          rcases r with rfl | ⟨rfl, _⟩
          · exact hk'
          · exact .inr rfl
        rcases this with rfl | rfl
        · obtain ⟨c, hm⟩ := cells_has (n := (s.heap.push { cls := .type "dict", data := .dict #[] }).objs.size) (acc := cloFrom X.env.cells scope.names []) (PySem.mem_of_lookup e)
          obtain ⟨c', e'⟩ := mem_lookup hm
          exact ⟨c', by rw [hcl]; exact e'⟩
        · obtain ⟨c, h1, _⟩ := look e
          exact ⟨c, h1⟩
      rcases hy with hy | hy
      · exact key _ hy (.inl rfl)
      · exact key _ hy (.inr rfl)
    · have z : (scope.names.lookup y == some NameKind.cell) = true := z
      have z : scope.names.lookup y = some .cell := by simpa using z
      have e : cenv.cells.lookup y = some c := e
      rw [hcl] at e
      rcases cells_mem (PySem.mem_of_lookup e) with hm | ⟨_, h2, _⟩
      · rcases cloFrom_mem hm with hm | ⟨h1, _⟩
        · cases hm
        · have q := ok.uniq _ h1
          rw [z] at q; cases q
      · rw [Heap.size_push] at h2
        exact Nat.le_of_succ_le h2
    · show b ≠ cenv.locals
      rw [hL]; exact Nat.ne_of_lt (hfp b hb).2
    · have e : cenv.cells.lookup y = some c := e
      rcases mem e with ⟨h1, _⟩ | ⟨h1, _⟩
      · exact (hfp b hb).1.2.2.2.2.1 y c h1 z
      · have h2 : s.heap.objs.size + 1 ≤ b := by rw [← z]; exact h1
        exact absurd (Nat.lt_of_lt_of_le (hfp b hb).2 (Nat.le_of_succ_le h2)) (Nat.lt_irrefl _)
    · rcases (hfp b hb).1.2.2.2.1 with z | z
      · exact I.ok.noex b o e z
      · exact absurd (Nat.lt_of_lt_of_le (Heap.lt_size e) (Nat.le_trans I.ok.bsz z)) (Nat.lt_irrefl _)
    · rcases List.mem_cons.mp (I.stkSub b z) with z | z
      · exact (hfp b hb).1.2.1 z
      · exact (hfp b hb).1.2.2.1 z
  refine ⟨okB, rfl, I.bare, Un.kept kp, ⟨fun _ => none, ?_, fun i y av e1 e2 e3 => ?_⟩, fun y c e => ?_, ?_, fun y c e => ?_, fun p hp => ?_, I.hok.kept kp, by rw [wipe_length]; exact I.len⟩
  · show Heap.Ns _ cenv.locals _
    rw [hL]
    exact Heap.Ns.keeps (Heap.Ns.new ..) fun b o e => pushCells_keeps _ _ _ _ e
  · obtain ⟨e2, hne⟩ := wipe_some e2
    have hfr : scope.names.lookup y = some .free ∧ (cenv.kindOf y = some .cell ∨ cenv.kindOf y = some .free) := by
      have key : ∀ k, cenv.scope.names.lookup y = some k → k = .local ∨ k = .cell ∨ k = .free → scope.names.lookup y = some .free ∧ (cenv.kindOf y = some .cell ∨ cenv.kindOf y = some .free) := fun k hk hk' => by
        have hk0 := hk
        rw [hsc] at hk
        obtain ⟨k', e, r⟩ := lookup_relS hk
        have no : ¬ (k' = .local ∨ k' = .cell) := fun hh => by
          rcases ok.own _ (PySem.mem_of_lookup e) hh with e' | e'
          · obtain ⟨p, hp, hpy⟩ := List.mem_map.mp e'
            have e3 := ok.ix p hp
            have : p.1 = y := hpy
            rw [this] at e3
            exact hne (List.mem_map.mpr ⟨p, hp, nodup_ix hN e3 e1⟩)
          · exact e' (List.mem_of_getElem? e1)
        rcases r with rfl | ⟨rfl, rfl⟩
        · rcases hk' with rfl | rfl | rfl
          · exact absurd (.inl rfl) no
          · exact absurd (.inr rfl) no
          · exact ⟨e, .inr hk0⟩
        · exact ⟨e, .inl hk0⟩
      have e3 : Vis cenv.scope y := e3
      rcases e3 with e3 | e3 | e3
      · exact key _ e3 (.inl rfl)
      · exact key _ e3 (.inr (.inl rfl))
      · exact key _ e3 (.inr (.inr rfl))
    obtain ⟨m, hn, hl⟩ := I.loc
    have hvis : Vis X.env.scope y := (ok.free _ (PySem.mem_of_lookup hfr.1) rfl).elim (fun k => .inr (.inl k)) (fun k => .inr (.inr k))
    obtain ⟨w, r, q⟩ := hl i y av e1 e2 hvis
    refine ⟨w, r, .inr ⟨hfr.2, ?_⟩⟩
    obtain ⟨c, h1, h2⟩ := look hfr.1
    rcases q with ⟨k, _⟩ | ⟨_, c', e', z⟩
    · have k : X.env.scope.names.lookup y = some .local := k
      rcases ok.free _ (PySem.mem_of_lookup hfr.1) rfl with k' | k' <;> rw [show X.env.scope.names.lookup y = _ from k'] at k <;> cases k
    · rw [h2] at e'; cases e'
      exact ⟨c, h1, z.keeps kp⟩
  · have e : cenv.cells.lookup y = some c := e
    rcases mem e with ⟨h1, _⟩ | ⟨_, z⟩
    · obtain ⟨w, z⟩ := I.cell y c h1
      exact ⟨w, z.keeps kp⟩
    · exact ⟨_, z⟩
  · show H cenv.locals = none
    rw [hL]; exact I.hok.fresh (Nat.le_refl _)
  · have e : cenv.cells.lookup y = some c := e
    rcases mem e with ⟨h1, _⟩ | ⟨h1, _⟩
    · exact I.freeC y c h1
    · exact I.hok.fresh (Nat.le_of_succ_le h1)
  · exact absurd (show p ∈ ([] : List (Addr × Obj)) ++ [] from hp) (by simp)

/-- an item appended to a tracked list -/
theorem app_ok {E : Value → Shared → Prop} {D : Addr} {xs : List V} {y : V} {v : Value} {Q : Value → Shared → Prop} (I : Inv X pins σ H s) (hD : H D = some (.lst xs)) (hz : xs.length < sizeLine) (r : RelV y v)
    (h : ∀ s', Inv X pins σ (upd H D (.lst (xs ++ [y]))) s' → Q .none s') : wpAny (model X.prog X.w) X.A (call (.builtin "list.append") [.ref D, v]) Q E s := by
  obtain ⟨hz', its, n, ri, e⟩ := I.hok D _ hD
  have hl := ri.length
  refine append_at (hsz := by rw [List.size_toArray]; omega) e fun h' sb ho' => ?_
  refine h { s with heap := h' } (I.write (t' := s.toks) (by rw [hD]; trivial) (.inl rfl) (fun b u hb q => (sb.2 b hb).trans q) ⟨_, ho'⟩ ⟨by rw [List.length_append]; exact hz, its ++ [v], n + 1, ri.append (.cons r .nil), ?_⟩)
  rw [ho']
  simp

/-- a clause's tests -/
def PTs (X : Cx) (ifs : List Expr) (t : TT) : Prop :=
  ∀ (pins : List (Addr × Obj)) (s : Shared) (σ : St) (H : Hp) (Q : Bool → Hp → Prop), Inv X pins σ H s → t σ H Q →
    wpAny (model X.prog X.w) X.A (forIn ifs true fun c r => if r = true then do let ok ← isTrue c X.env (eval c X.env); pure (ForInStep.yield ok) else pure (ForInStep.yield r)) (TP X pins σ Q) X.xe s
def tYes : TT := fun _ H Q => Q true H
theorem pts_nil : PTs X [] tYes := fun _ _ _ H _ I h => wpAny_tests_nil ⟨H, I, h⟩
theorem pts_one {c : Expr} {t : TT} (h : PT X c t) : PTs X [c] t := fun pins s σ H Q I hw => wpAny_tests_one (h pins s σ H Q I hw)
end

theorem thnF {α : Type} {t : Sem α} {Q Q' : α → Shared → Prop} {M : Model} {A : Around} {E : Value → Shared → Prop} {s : Shared} (h : wpAny M A t Q (fun _ _ => False) s) (hQ : ∀ a s, Q a s → Q' a s) : wpAny M A t Q' E s := wpAny_mono h hQ fun _ _ z => False.elim z

/-- the loop of a list comprehension's block, the target of any form (codeAny_compLoop_tests asks a target that no tuple goes to; statement and proof follow it, PyProof/CompMap.lean:41-61, with the step letOwnedTupleGo kept) -/
theorem compLoop_any {prog : Program} {w : World} {A : Around} {R : Result → Shared → Prop} {s : Shared} {elt target iter : Expr} {ifs : List Expr} {scope : Scope} {pos : Pos} {it acc : Value} {env : Env} (I : Nat → Shared → Prop)
    (turn : ∀ n s, I n s → wpAny (model prog w) A (pyNext it) (fun r s₁ => match r with
      | none => R (.ok .next) s₁
      | some v => wpAny (model prog w) A (letOwnedTupleGo target it v) (fun _ s₁' => wpAny (model prog w) A (assign target env v) (fun _ s₂ =>
          wpAny (model prog w) A (forIn ifs true fun c r => if r = true then do let ok ← isTrue c env (eval c env); pure (ForInStep.yield ok) else pure (ForInStep.yield r)) (fun ok s₃ =>
            if ok = true then wpAny (model prog w) A (eval elt env) (fun x s₄ =>
              wpAny (model prog w) A (call (.builtin "list.append") [acc, x]) (fun _ s₅ => ∃ m, m < n ∧ I m s₅) (notedBy (model prog w) A env fun e s' => R (.error e) s') s₄) (notedBy (model prog w) A env fun e s' => R (.error e) s') s₃
            else ∃ m, m < n ∧ I m s₃) (notedBy (model prog w) A env fun e s' => R (.error e) s') s₂) (notedBy (model prog w) A env fun e s' => R (.error e) s') s₁') (notedBy (model prog w) A env fun e s' => R (.error e) s') s₁) (notedBy (model prog w) A env fun e s' => R (.error e) s') s)
    (n : Nat) (h : I n s) :
    codeAny (model prog w) A (.compLoop (.ListComp elt [⟨target, iter, ifs, 0⟩] scope pos) 0 it acc env) R s := by
  refine codeAny_loop rfl I (fun n s hI => ?_) n h
  show wpAny _ A ((compTurn (.ListComp elt [⟨target, iter, ifs, 0⟩] scope pos) 0 it acc env).onRaise (fun x => do noteFrame x env; theTreesLotGoes x)) _ _ s
  refine wpAny_noted ?_
  rw [compTurn_list]
  refine wpAny_bind (wpAny_standAt (wpAny_bind (wpAny_mono (turn n s hI) (fun r s₁ h₁ => ?_) fun _ _ h' => h')))
  cases r with
  | none => exact wpAny_pure h₁
  | some v =>
    refine wpAny_bind (wpAny_mono h₁ (fun _ s₁' h₁' => ?_) fun _ _ h' => h')
    refine wpAny_bind (wpAny_mono h₁' (fun _ s₂ h₂ => wpAny_bind (wpAny_mono h₂ (fun ok s₃ h₃ => ?_) fun _ _ h' => h')) fun _ _ h' => h')
    cases ok with
    | false => exact wpAny_pure ⟨rfl, h₃⟩
    | true =>
      exact wpAny_bind (wpAny_bind (wpAny_mono h₃ (fun x s₄ h₄ => wpAny_bind (wpAny_mono h₄ (fun _ s₅ h₅ => wpAny_pure (wpAny_pure ⟨rfl, h₅⟩)) fun _ _ h' => h')) fun _ _ h' => h'))

section
variable {X : Cx}
/-- [elt for target in iter if ..]: D the new list; W by the turn and a measure, Nx what a turn is to reach -/
def tLc (wi : TI) (g : TG) (tt : TT) (te : TE) (vs : List Nat) : TE := fun σ H Q => wi σ H fun J H1 => ∀ D, H1 D = none → ∃ W : Nat → Nat → Hp → Prop, (∃ m, W 0 m (upd H1 D (.lst []))) ∧ ∀ i m H, W i m H →
  (J.stop i H ∧ Q (.ref D) H) ∨ (J.go i H ∧ ∃ Nx : Hp → Prop, (∀ H', Nx H' → ∃ m', m' < m ∧ W (i + 1) m' H') ∧ ∀ x H', J.yld i H x H' → g x (wipe σ vs) H' fun σ2 H2 => wipe σ2 vs = wipe σ vs ∧ tt σ2 H2 fun b H3 =>
    if b = true then te σ2 H3 fun y H4 => ∃ acc, H4 D = some (.lst acc) ∧ acc.length < sizeLine ∧ Nx (upd H4 D (.lst (acc ++ [y]))) else Nx H3)
theorem lc_core {pins : List (Addr × Obj)} {s : Shared} {σ : St} {H : Hp} {Q : VK} {elt tg iter : Expr} {ifs : List Expr} {scope : Scope} {own : List (Str × Nat)} {pos pos' : Pos} {wi : TI} {g : TG} {tt : TT} {te : TE} {use : Option (Value → Sem Unit)} {Qf : Value → Shared → Prop}
    (hc : X.calm = true) (hN : X.N.Nodup) (I : Inv X pins σ H s) (hi : PI X tg iter wi) (ok : BlkOk X.N X.env.scope scope own)
    (hg : ∀ (s : Shared) (H : Hp) (C : Addr) (cl : List (Str × Addr)) (fp : List Addr), PG (X.blk s H scope (compEnvC scope cl C X.env) fp) tg g) (ht : ∀ (s : Shared) (H : Hp) (C : Addr) (cl : List (Str × Addr)) (fp : List Addr), PTs (X.blk s H scope (compEnvC scope cl C X.env) fp) ifs tt)
    (he : ∀ (s : Shared) (H : Hp) (C : Addr) (cl : List (Str × Addr)) (fp : List Addr), PE (X.blk s H scope (compEnvC scope cl C X.env) fp) elt te) (hs : ∀ x, foldedSetIterable iter X.env x = pure x)
    (h : tLc wi g tt te (own.map (·.2)) σ H Q)
    (hRR : ∀ D C s' m H', Inv X pins σ H' s' → Q (.ref D) H' → s'.heap.Ns C m → FpOk X pins H' C → compPost (model X.prog X.w) X.A X.xe use Qf (.ref D) C (.ok .next) s') :
    wpAny (model X.prog X.w) X.A (comprehension (.ListComp elt [⟨tg, iter, ifs, 0⟩] scope pos) scope X.env pos' (newList []) false (eval iter X.env) use) Qf X.xe s := by
  have hfree : ∀ y ∈ scope.names, y.2 = .free → ∃ c, X.env.cells.lookup y.1 = some c := fun y hy e => by
    rcases ok.free y hy e with k | k
    · exact I.ok.has _ (.inl k)
    · exact I.ok.has _ (.inr k)
  refine wpAny_comprehension_free (use := use) rfl hs (closure_ok hfree) ok.kind (fun y hy e => by rw [ok.uniq y hy, e])
    (thn (hi pins s σ H _ I h) fun xv s1 hx => thn hx fun itv s2 h2 => ?_)
  obtain ⟨it, fp, tn, J, H2, e, I2, T, st2, f2, q⟩ := h2
  subst e
  refine wpAny_newObj_type (newEnv_comp ?_) (by show 0 ≤ sizeLine; decide)
  generalize hD : s2.heap.objs.size = D
  have hDn : H2 D = none := I2.hok.fresh (Nat.le_of_eq hD)
  obtain ⟨W, ⟨m0, w0⟩, turn⟩ := q D hDn
  -- the new list
  generalize hs3 : ({ s2 with heap := s2.heap.push { cls := .type "list", data := .seq ([] : List Value).toArray } } : Shared) = s3
  have I3 : Inv X pins σ (upd H2 D (.lst [])) s3 := by
    rw [← hs3]
    refine I2.laid (t' := s2.toks) (fun b o e => Heap.get?_push_of_some _ e) (Nat.le_of_eq hD) ⟨Nat.zero_le _, [], 0, .nil, ?_⟩
    rw [← hD]
    exact Heap.get?_push_size _ rfl
  have h3 : s3.heap = s2.heap.push { cls := .type "list", data := .seq ([] : List Value).toArray } := by rw [← hs3]
  have sz : ∀ b ∈ fp, b < s2.heap.objs.size := fun b hb => by
    obtain ⟨o, e, _⟩ := T.obj _ _ st2 b hb
    exact Heap.lt_size e
  have f3 : ∀ b ∈ fp, FpOk X pins (upd H2 D (.lst [])) b ∧ b < s3.heap.objs.size := fun b hb => by
    have hlt := sz b hb
    refine ⟨⟨?_, (f2 b hb).2⟩, by rw [h3, Heap.size_push]; exact Nat.lt_succ_of_lt hlt⟩
    rw [upd_ne (by rw [← hD]; exact Nat.ne_of_lt hlt)]
    exact (f2 b hb).1
  have st3 : tn 0 s3.heap := T.keep _ _ _ st2 fun b _ o e => by rw [h3]; exact Heap.get?_push_of_some _ e
  have I4 := block_start I3 ok hN f3
  have pg := hg s3 (upd H2 D (.lst [])) s3.heap.objs.size (cellsFrom (s3.heap.objs.size + 1) scope.names (cloFrom X.env.cells scope.names [])) fp
  have pt := ht s3 (upd H2 D (.lst [])) s3.heap.objs.size (cellsFrom (s3.heap.objs.size + 1) scope.names (cloFrom X.env.cells scope.names [])) fp
  have pe := he s3 (upd H2 D (.lst [])) s3.heap.objs.size (cellsFrom (s3.heap.objs.size + 1) scope.names (cloFrom X.env.cells scope.names [])) fp
  show codeAny _ _ (.compStart (.ListComp elt [⟨tg, iter, ifs, 0⟩] scope pos) 0 (.ref it) (.ref D) (compEnvC scope (cellsFrom (s3.heap.objs.size + 1) scope.names (cloFrom X.env.cells scope.names [])) s3.heap.objs.size X.env)) (compPost (model X.prog X.w) X.A X.xe use Qf (.ref D) s3.heap.objs.size) { s3 with heap := pushCells (s3.heap.push { cls := .type "dict", data := .dict #[] }) scope.names }
  have nfp : ∀ b ∈ fp, (upd H2 D (.lst [])) b = none := fun b hb => (f3 b hb).1.1
  generalize hce : compEnvC scope (cellsFrom (s3.heap.objs.size + 1) scope.names (cloFrom X.env.cells scope.names [])) s3.heap.objs.size X.env = ce at I4 pg pt pe ⊢
  have cL : ce.locals = s3.heap.objs.size := by subst hce; rfl
  generalize hH3 : upd H2 D (.lst []) = H3 at I3 I4 pg pt pe w0 nfp f3
  generalize hs4 : ({ s3 with heap := pushCells (s3.heap.push { cls := .type "dict", data := .dict #[] }) scope.names } : Shared) = s4 at I4 ⊢
  have st4 : tn 0 s4.heap := T.keep _ _ _ st3 fun b _ o e => by rw [← hs4]; exact pushCells_keeps _ _ _ _ (Heap.get?_push_of_some _ e)
  have stat : ∀ {σ' : St} {H' : Hp} {s' : Shared}, Inv (X.blk s3 H3 scope ce fp) [] σ' H' s' → (∀ b ∈ fp, H' b = none) → ∀ b ∈ fp, FpOk (X.blk s3 H3 scope ce fp) [] H' b := fun {σ' H' s'} I' hn b hb =>
    ⟨hn b hb, (I'.ok.exf b hb).1, I'.ok.exfs b hb, .inl hb, fun x c e => (I'.ok.exf b hb).2 x c e, fun p hp => absurd (show p ∈ ([] : List (Addr × Obj)) ++ [] from hp) (by simp)⟩
  have loop : codeAny (model X.prog X.w) X.A (.compLoop (.ListComp elt [⟨tg, iter, ifs, 0⟩] scope pos) 0 (.ref it) (.ref D) ce) (compPost (model X.prog X.w) X.A X.xe use Qf (.ref D) s3.heap.objs.size) s4 := by
    refine compLoop_any (fun n s' => ∃ i H', Inv (X.blk s3 H3 scope ce fp) [] (wipe σ (own.map (·.2))) H' s' ∧ tn i s'.heap ∧ (∀ b ∈ fp, H' b = none) ∧ W i n H') ?_ m0 ⟨0, H3, I4, st4, nfp, w0⟩
    rintro n s5 ⟨i, H5, I5, st5, n5, w5⟩
    rcases turn i n H5 w5 with ⟨stop, qq⟩ | ⟨go, Nx, hNx, step⟩
    · have td := T.done (X.blk s3 H3 scope ce fp) rfl rfl rfl hc i [] s5 _ H5 (fun _ _ => False) I5 (stat I5 n5) st5 stop
      refine thnF td fun r s6 ⟨hr, I6⟩ => ?_
      subst hr
      -- back in the def's context
      have I7 : Inv X pins σ H5 s6 := I3.call' (ch := fp) I6.os I6.base I6.hok I6.bare fun b hb => ⟨(f3 b hb).1.2.2.2.1, (f3 b hb).1.2.1, (f3 b hb).1.2.2.2.2.1, (f3 b hb).1.2.2.2.2.2⟩
      have nC : H5 s3.heap.objs.size = none := by
        have z : H5 ce.locals = none := I6.free
        rw [cL] at z
        exact z
      obtain ⟨m, hn, _⟩ := I6.loc
      have hn : s6.heap.Ns ce.locals m := hn
      rw [cL] at hn
      exact hRR D s3.heap.objs.size s6 m H5 I7 qq hn (I3.fpOk (Nat.le_refl _) nC)
    · have ti := T.item (X.blk s3 H3 scope ce fp) rfl rfl rfl hc i [] s5 _ H5 (fun _ _ => False) I5 (stat I5 n5) st5 go
      refine thnF ti fun r s6 ⟨u, hr, h6⟩ => ?_
      subst hr
      refine thnF h6 fun _ s7 ⟨x, H7, I7, r7, y7, st7, n7⟩ => ?_
      have I7' := I7.pinned (stat I7 n7) (T.obj _ _ st7)
      refine thnF (pg _ s7 _ H7 x u _ I7' r7 (step x H7 y7)) fun _ s8 ⟨σ8, H8, I8, hw8, q8⟩ => ?_
      refine thnF (pt _ s8 σ8 H8 _ I8 q8) fun b s9 ⟨H9, I9, q9⟩ => ?_
      -- the turn's end
      have fin : ∀ {s' : Shared} {H' : Hp}, Inv (X.blk s3 H3 scope ce fp) ([] ++ pinsAt fp s7.heap) σ8 H' s' → Nx H' → ∃ m, m < n ∧ ∃ i H', Inv (X.blk s3 H3 scope ce fp) [] (wipe σ (own.map (·.2))) H' s' ∧ tn i s'.heap ∧ (∀ b ∈ fp, H' b = none) ∧ W i m H' := fun {s' H'} I' nx => by
        obtain ⟨m', hm, w'⟩ := hNx H' nx
        have pin' : ∀ b ∈ fp, ∀ o, s7.heap.get? b = some o → s'.heap.get? b = some o ∧ H' b = none := fun b hb o e =>
          let z := I'.pin (b, o) (List.mem_append_right _ (List.mem_append_right _ (mem_pinsAt hb e)))
          ⟨z.1, z.2.1⟩
        have hl : (wipe σ (own.map (·.2))).length = σ8.length := by rw [← hw8, wipe_length]
        refine ⟨m', hm, i + 1, H', (I'.unpinned (pins := [])).weak hl (fun j v e => ?_), T.keep _ _ _ st7 fun b hb o e => (pin' b hb o e).1, fun b hb => ?_, w'⟩
        · rw [← hw8] at e
          exact (wipe_some e).1
        · obtain ⟨o, e, _⟩ := T.obj _ _ st7 b hb
          exact (pin' b hb o e).2
      cases b with
      | false =>
        simp only [Bool.false_eq_true, if_false] at q9 ⊢
        exact fin I9 q9
      | true =>
        simp only [if_true] at q9 ⊢
        refine thnF (pe _ s9 σ8 H9 _ I9 q9) fun z s10 ⟨yv, H10, I10, r10, acc, hD10, hz10, nx⟩ => ?_
        exact app_ok (X := X.blk s3 H3 scope ce fp) I10 hD10 hz10 r10 fun s11 I11 => fin I11 nx
  exact codeAny_compStart_list loop (T.self X.A 0 _ _ _ st4 loop)
/-- as a value -/
theorem pe_lc {elt tg iter : Expr} {ifs : List Expr} {scope : Scope} {own : List (Str × Nat)} {pos : Pos} {wi : TI} {g : TG} {tt : TT} {te : TE} (hc : X.calm = true) (hN : X.N.Nodup) (hi : PI X tg iter wi) (ok : BlkOk X.N X.env.scope scope own)
    (hg : ∀ (s : Shared) (H : Hp) (C : Addr) (cl : List (Str × Addr)) (fp : List Addr), PG (X.blk s H scope (compEnvC scope cl C X.env) fp) tg g) (ht : ∀ (s : Shared) (H : Hp) (C : Addr) (cl : List (Str × Addr)) (fp : List Addr), PTs (X.blk s H scope (compEnvC scope cl C X.env) fp) ifs tt)
    (he : ∀ (s : Shared) (H : Hp) (C : Addr) (cl : List (Str × Addr)) (fp : List Addr), PE (X.blk s H scope (compEnvC scope cl C X.env) fp) elt te) (hs : ∀ x, foldedSetIterable iter X.env x = pure x := by intro _; rfl) :
    PE X (.ListComp elt [⟨tg, iter, ifs, 0⟩] scope pos) (tLc wi g tt te (own.map (·.2))) := by
  intro pins s σ H Q I h
  rw [eval_ListComp]
  refine lc_core hc hN I hi ok hg ht he hs h fun D C s' m H' I' q hn f => ⟨m, hn, fun h'' sb => ?_⟩
  obtain ⟨f0, f1, f2, f3, f4, f5⟩ := f
  exact ⟨.ref D, H', I'.turned (t' := s'.toks) (fun b o hb e => (sb.2 b hb).trans e) f0 f1 f3 f4 f5, rfl, q⟩
end

/-! ### the forms one uses -/
/-- over a range: Pv by the turn and the heap (the new list at D within) -/
theorem lc_range {lo : Int} {n : Nat} {g : TG} {tt : TT} {te : TE} {vs : List Nat} {σ : St} {H1 : Hp} {D : Addr} {Qd : Hp → Prop} (Pv : Nat → Hp → Prop) (h0 : Pv 0 (upd H1 D (.lst [])))
    (hs : ∀ i H, i < n → Pv i H → g (.int (lo + i)) (wipe σ vs) H fun σ2 H2 => wipe σ2 vs = wipe σ vs ∧ tt σ2 H2 fun b H3 =>
      if b = true then te σ2 H3 fun y H4 => ∃ acc, H4 D = some (.lst acc) ∧ acc.length < sizeLine ∧ Pv (i + 1) (upd H4 D (.lst (acc ++ [y]))) else Pv (i + 1) H3) (hd : ∀ H, Pv n H → Qd H) :
    ∃ W : Nat → Nat → Hp → Prop, (∃ m, W 0 m (upd H1 D (.lst []))) ∧ ∀ i m H, W i m H →
      ((Itr lo n).stop i H ∧ Qd H) ∨ ((Itr lo n).go i H ∧ ∃ Nx : Hp → Prop, (∀ H', Nx H' → ∃ m', m' < m ∧ W (i + 1) m' H') ∧ ∀ x H', (Itr lo n).yld i H x H' → g x (wipe σ vs) H' fun σ2 H2 => wipe σ2 vs = wipe σ vs ∧ tt σ2 H2 fun b H3 =>
        if b = true then te σ2 H3 fun y H4 => ∃ acc, H4 D = some (.lst acc) ∧ acc.length < sizeLine ∧ Nx (upd H4 D (.lst (acc ++ [y]))) else Nx H3) := by
  refine ⟨fun i m H => m = n - i ∧ i ≤ n ∧ Pv i H, ⟨n, by simp, Nat.zero_le _, h0⟩, ?_⟩
  rintro i m H ⟨rfl, hi, p⟩
  by_cases hlt : i < n
  · refine .inr ⟨hlt, Pv (i + 1), fun H' p' => ⟨n - (i + 1), by omega, rfl, hlt, p'⟩, fun x H' y => ?_⟩
    obtain ⟨e, y⟩ := y
    subst e y
    exact hs i _ hlt p
  · have e : i = n := by omega
    subst e
    exact .inl ⟨Nat.le_refl _, hd H p⟩
/-- over a list that the block leaves as it is -/
theorem lc_list {K : PySem.W.Frag} {a : Addr} {xs : List V} {g : TG} {tt : TT} {te : TE} {vs : List Nat} {σ : St} {H1 : Hp} {D : Addr} {Qd : Hp → Prop} (Pv : Nat → Hp → Prop) (h0 : Pv 0 (upd H1 D (.lst []))) (hl : ∀ i H, i ≤ xs.length → Pv i H → SqL K H a xs)
    (hs : ∀ i x H, xs[i]? = some x → Pv i H → g x (wipe σ vs) H fun σ2 H2 => wipe σ2 vs = wipe σ vs ∧ tt σ2 H2 fun b H3 =>
      if b = true then te σ2 H3 fun y H4 => ∃ acc, H4 D = some (.lst acc) ∧ acc.length < sizeLine ∧ Pv (i + 1) (upd H4 D (.lst (acc ++ [y]))) else Pv (i + 1) H3) (hd : ∀ H, Pv xs.length H → Qd H) :
    ∃ W : Nat → Nat → Hp → Prop, (∃ m, W 0 m (upd H1 D (.lst []))) ∧ ∀ i m H, W i m H →
      ((Itl K a).stop i H ∧ Qd H) ∨ ((Itl K a).go i H ∧ ∃ Nx : Hp → Prop, (∀ H', Nx H' → ∃ m', m' < m ∧ W (i + 1) m' H') ∧ ∀ x H', (Itl K a).yld i H x H' → g x (wipe σ vs) H' fun σ2 H2 => wipe σ2 vs = wipe σ vs ∧ tt σ2 H2 fun b H3 =>
        if b = true then te σ2 H3 fun y H4 => ∃ acc, H4 D = some (.lst acc) ∧ acc.length < sizeLine ∧ Nx (upd H4 D (.lst (acc ++ [y]))) else Nx H3) := by
  refine ⟨fun i m H => m = xs.length - i ∧ i ≤ xs.length ∧ Pv i H, ⟨xs.length, by simp, Nat.zero_le _, h0⟩, ?_⟩
  rintro i m H ⟨rfl, hi, p⟩
  have q := hl i H hi p
  by_cases hlt : i < xs.length
  · refine .inr ⟨⟨xs, xs[i], q, by simp [hlt]⟩, Pv (i + 1), fun H' p' => ⟨xs.length - (i + 1), by omega, rfl, hlt, p'⟩, fun x H' y => ?_⟩
    obtain ⟨e, y⟩ := y
    subst e
    exact hs i x _ (y xs q) p
  · have e : i = xs.length := by omega
    subst e
    exact .inl ⟨⟨xs, q, Nat.le_refl _⟩, hd H p⟩
def blkC (N : List Str) (sc scope : Scope) (own : List (Str × Nat)) : Bool :=
  (match scope.kind with | .function => true | _ => false) && (scope.names.all fun y => decide (scope.names.lookup y.1 = some y.2)) && (own.all fun p => decide (N[p.2]? = some p.1)) &&
    (scope.names.all fun y => match y.2 with
      | .free => (match sc.names.lookup y.1 with | some .cell => true | some .free => true | _ => false)
      | .local => decide (y.1 ∈ own.map (·.1)) || decide (y.1 ∉ N)
      | .cell => decide (y.1 ∈ own.map (·.1)) || decide (y.1 ∉ N)
      | _ => true)
theorem blkOk_by {N : List Str} {sc scope : Scope} {own : List (Str × Nat)} (h : blkC N sc scope own = true) : BlkOk N sc scope own := by
  unfold blkC at h
  simp only [Bool.and_eq_true, List.all_eq_true, decide_eq_true_eq] at h
  obtain ⟨⟨⟨h1, h2⟩, h3⟩, h4⟩ := h
  refine ⟨?_, h2, h3, fun y hy e => ?_, fun y hy e => ?_⟩
  · split at h1
    · assumption
    · cases h1
  · have q := h4 y hy
    simp only [e] at q
    split at q <;> first | exact .inl (by assumption) | exact .inr (by assumption) | cases q
  · have q := h4 y hy
    rcases e with e | e <;> (simp only [e, Bool.or_eq_true, decide_eq_true_eq] at q; exact q)
end L2

namespace L2
open PySem PySem.Spec PyProof.Rows

section
variable {prog : Program} {w : World} {A : Around} {R : Result → Shared → Prop} {s : Shared} {elt t0 i0 t1 i1 : Expr} {ifs0 ifs1 : List Expr} {scope : Scope} {pos : Pos} {it acc : Value} {env : Env}
end

section
variable {X : Cx}
end
end L2

namespace L2
open PySem PySem.Spec PyProof.Rows

/-! ### lists of pairs as tables -/
section
variable {κ : Type} [DecidableEq κ]
def valV (kvs : List (κ × V)) (k : κ) : Option V := (kvs.find? fun kv => decide (kv.1 = k)).map (·.2)
/-- in its place, or at the end -/
def putK (kvs : List (κ × V)) (k : κ) (v : V) : List (κ × V) :=
  if (kvs.any fun kv => decide (kv.1 = k)) = true then kvs.map (fun kv => if kv.1 = k then (kv.1, v) else kv) else kvs ++ [(k, v)]
def dropK (kvs : List (κ × V)) (k : κ) : List (κ × V) := kvs.filter fun kv => decide (kv.1 ≠ k)

theorem valV_pos {p : κ × V} {r : List (κ × V)} {k : κ} (e : p.1 = k) : valV (p :: r) k = some p.2 := by simp [valV, List.find?_cons, e]
theorem valV_neg {p : κ × V} {r : List (κ × V)} {k : κ} (e : ¬ p.1 = k) : valV (p :: r) k = valV r k := by simp [valV, List.find?_cons, e]
theorem valV_any (k : κ) : ∀ kvs : List (κ × V), (kvs.any fun kv => decide (kv.1 = k)) = (valV kvs k).isSome
  | [] => rfl
  | p :: r => by
    rw [List.any_cons]
    by_cases e : p.1 = k
    · simp only [valV_pos e, decide_eq_true e, Bool.true_or, Option.isSome_some]
    · rw [valV_neg e, decide_eq_false e, Bool.false_or]; exact valV_any k r
theorem valV_map (k j : κ) (y : V) : ∀ kvs : List (κ × V), valV (kvs.map fun kv => if kv.1 = k then (kv.1, y) else kv) j = (valV kvs j).map fun x => if j = k then y else x
  | [] => rfl
  | p :: r => by
    have ih := valV_map k j y r
    rw [List.map_cons]
    by_cases h : p.1 = k
    · rw [if_pos h]
      by_cases e : p.1 = j
      · rw [valV_pos (p := (p.1, y)) e, valV_pos e, Option.map_some, if_pos (e.symm.trans h)]
      · rw [valV_neg (p := (p.1, y)) e, valV_neg e, ih]
    · rw [if_neg h]
      by_cases e : p.1 = j
      · rw [valV_pos (p := p) e, valV_pos e, Option.map_some, if_neg (fun z => h (e.trans z))]
      · rw [valV_neg (p := p) e, valV_neg e, ih]
theorem valV_snoc (k j : κ) (y : V) : ∀ kvs : List (κ × V), valV kvs k = none → valV (kvs ++ [(k, y)]) j = if j = k then some y else valV kvs j
  | [], _ => by
    by_cases e : k = j
    · rw [if_pos e.symm]; exact valV_pos (p := (k, y)) e
    · rw [if_neg (fun z => e z.symm)]; exact valV_neg (p := (k, y)) e
  | p :: r, hn => by
    rw [List.cons_append]
    have hk : ¬ p.1 = k := fun z => by rw [valV_pos z] at hn; cases hn
    rw [valV_neg hk] at hn
    have ih := valV_snoc k j y r hn
    by_cases e : p.1 = j
    · rw [valV_pos e, valV_pos e, if_neg (fun z => hk (e.trans z))]
    · rw [valV_neg e, valV_neg e, ih]
theorem valV_put (kvs : List (κ × V)) (k j : κ) (y : V) : valV (putK kvs k y) j = if j = k then some y else valV kvs j := by
  unfold putK
  by_cases a : (kvs.any fun kv => decide (kv.1 = k)) = true
  · rw [if_pos a, valV_map]
    rw [valV_any] at a
    by_cases e : j = k
    · obtain ⟨x, hx⟩ := Option.isSome_iff_exists.mp a
      rw [if_pos e, e, hx, Option.map_some, if_pos rfl]
    · rw [if_neg e]
      cases valV kvs j with
      | none => rfl
      | some x => rw [Option.map_some, if_neg e]
  · rw [if_neg a]
    refine valV_snoc k j y kvs ?_
    rw [valV_any] at a
    cases q : valV kvs k with
    | none => rfl
    | some x => rw [q] at a; exact (a rfl).elim
theorem length_putK (kvs : List (κ × V)) (k : κ) (v : V) : (putK kvs k v).length ≤ kvs.length + 1 := by
  unfold putK
  split
  · rw [List.length_map]; omega
  · rw [List.length_append, List.length_cons, List.length_nil]; omega
theorem RelO.isSome_eq {o : Option V} {u : Option Value} (r : RelO o u) : o.isSome = u.isSome := by
  cases o with
  | none => cases u with
    | none => rfl
    | some _ => exact (show False from r).elim
  | some _ => cases u with
    | none => exact (show False from r).elim
    | some _ => rfl
theorem RelO.getD {o : Option V} {u : Option Value} {d : V} {d' : Value} (r : RelO o u) (rd : RelV d d') : RelV (o.getD d) (u.getD d') := by
  cases o with
  | none => cases u with
    | none => exact rd
    | some _ => exact (show False from r).elim
  | some _ => cases u with
    | none => exact (show False from r).elim
    | some _ => exact r

/-- raw tables of the same keys -/
theorem KV.val {kvs : List (κ × V)} {vs : List (κ × Value)} (r : KV kvs vs) (k : κ) : RelO (valV kvs k) (valueAt vs k) := by
  unfold KV at r
  induction r with
  | nil => exact True.intro
  | @cons p q ps qs h t ih =>
    obtain ⟨h1, h2⟩ := h
    by_cases e : p.1 = k
    · have e' : q.1 = k := h1.symm.trans e
      have b : valueAt (q :: qs) k = some q.2 := by simp [valueAt, List.find?_cons, e']
      rw [valV_pos e, b]; exact h2
    · have e' : ¬ q.1 = k := fun z => e (h1.trans z)
      have b : valueAt (q :: qs) k = valueAt qs k := by simp [valueAt, List.find?_cons, e']
      rw [valV_neg e, b]; exact ih
theorem KV.any {kvs : List (κ × V)} {vs : List (κ × Value)} (r : KV kvs vs) (k : κ) : (kvs.any fun kv => decide (kv.1 = k)) = vs.any fun kv => decide (kv.1 = k) := by
  unfold KV at r
  induction r with
  | nil => rfl
  | cons h t ih => rw [List.any_cons, List.any_cons, ih, h.1]
theorem KV.repl {kvs : List (κ × V)} {vs : List (κ × Value)} (r : KV kvs vs) (k : κ) {y : V} {u : Value} (ry : RelV y u) :
    KV (kvs.map fun kv => if kv.1 = k then (kv.1, y) else kv) (vs.map fun kv => if kv.1 = k then (kv.1, u) else kv) := by
  unfold KV at r ⊢
  induction r with
  | nil => exact .nil
  | @cons p q ps qs h t ih =>
    rw [List.map_cons, List.map_cons]
    refine .cons ?_ ih
    obtain ⟨h1, h2⟩ := h
    by_cases e : p.1 = k
    · rw [if_pos e, if_pos (h1.symm.trans e)]; exact ⟨h1, ry⟩
    · rw [if_neg e, if_neg (fun z => e (h1.trans z))]; exact ⟨h1, h2⟩
theorem KV.put {kvs : List (κ × V)} {vs : List (κ × Value)} (r : KV kvs vs) (k : κ) {y : V} {u : Value} (ry : RelV y u) : KV (putK kvs k y) (stored vs k u) := by
  unfold putK stored
  rw [r.any k]
  by_cases e : (vs.any fun kv => decide (kv.1 = k)) = true
  · rw [if_pos e, if_pos e]; exact r.repl k ry
  · rw [if_neg e, if_neg e]; exact Paired.snoc r ⟨rfl, ry⟩
theorem KV.drop {kvs : List (κ × V)} {vs : List (κ × Value)} (r : KV kvs vs) (k : κ) : KV (dropK kvs k) (without vs k) := by
  unfold KV at r ⊢
  unfold dropK without
  induction r with
  | nil => exact .nil
  | @cons p q ps qs h t ih =>
    obtain ⟨h1, h2⟩ := h
    rw [List.filter_cons, List.filter_cons]
    by_cases e : p.1 = k
    · have a : ¬ decide (p.1 ≠ k) = true := by simp [e]
      have b : ¬ decide (q.1 ≠ k) = true := by simp [h1.symm.trans e]
      rw [if_neg a, if_neg b]; exact ih
    · have e' : ¬ q.1 = k := fun z => e (h1.trans z)
      have a : decide (p.1 ≠ k) = true := by simp [e]
      have b : decide (q.1 ≠ k) = true := by simp [e']
      rw [if_pos a, if_pos b]; exact .cons ⟨h1, h2⟩ ih
theorem KV.keys {kvs : List (κ × V)} {vs : List (κ × Value)} (r : KV kvs vs) : kvs.map (·.1) = vs.map (·.1) := by
  unfold KV at r
  induction r with
  | nil => rfl
  | cons h t ih => rw [List.map_cons, List.map_cons, ih, h.1]
theorem KV.length {kvs : List (κ × V)} {vs : List (κ × Value)} (r : KV kvs vs) : kvs.length = vs.length := Paired.length r
end


/-! ### a tracked dict, its keys ints and texts or tuples of these -/
theorem kV_is {P : Program} {w : World} {k : Key} {u : Value} (r : RelV (kV k) u) : (mixKind P w).is k u = true := by
  cases k with
  | inl i => obtain ⟨t, e⟩ := (show ∃ t, u = Value.int i t from r); subst e; exact mixKind_int P w i t
  | inr x => obtain ⟨t, e⟩ := (show ∃ t, u = Value.str x t from r); subst e; exact mixKind_str P w x t
theorem items_are {P : Program} {w : World} : ∀ {ks : List Key} {us : List Value}, Vals (ks.map kV) us → ItemsAre (mixKind P w) ks us
  | [], _, r => by rw [List.map_nil] at r; cases r; exact .nil
  | k :: ks, _, r => by
    rw [List.map_cons] at r
    cases r with
    | cons h t => exact .cons (kV_is h) (items_are t)

/-- raw entries of a dict with tuple keys -/
abbrev KT (H : Hp) : List (List Key × V) → List (List Key × Addr × Value) → Prop := Paired fun p q => p.1 = q.1 ∧ H q.2.1 = some (.tup (p.1.map kV)) ∧ RelV p.2 q.2.2
theorem KT.val {H : Hp} {kvs : List (List Key × V)} {xs : List (List Key × Addr × Value)} (r : KT H kvs xs) (k : List Key) : RelO (valV kvs k) ((atKey xs k).map (·.2)) := by
  induction r with
  | nil => exact True.intro
  | @cons p q ps qs h t ih =>
    obtain ⟨h1, _, h2⟩ := h
    by_cases e : p.1 = k
    · have e' : q.1 = k := h1.symm.trans e
      have b : atKey (q :: qs) k = some q.2 := by simp [atKey, List.find?_cons, e']
      rw [valV_pos e, b]; exact h2
    · have e' : ¬ q.1 = k := fun z => e (h1.trans z)
      have b : atKey (q :: qs) k = atKey qs k := by simp [atKey, List.find?_cons, e']
      rw [valV_neg e, b]; exact ih
theorem KT.repl {H : Hp} {kvs : List (List Key × V)} {xs : List (List Key × Addr × Value)} (r : KT H kvs xs) (k : List Key) {y : V} {u : Value} (ry : RelV y u) :
    KT H (kvs.map fun kv => if kv.1 = k then (kv.1, y) else kv) (xs.map (putAt k u)) := by
  induction r with
  | nil => exact .nil
  | @cons p q ps qs h t ih =>
    rw [List.map_cons, List.map_cons]
    refine .cons ?_ ih
    obtain ⟨h1, h2, h3⟩ := h
    unfold putAt
    by_cases e : p.1 = k
    · rw [if_pos e, if_pos (h1.symm.trans e)]; exact ⟨h1, h2, ry⟩
    · rw [if_neg e, if_neg (fun z => e (h1.trans z))]; exact ⟨h1, h2, h3⟩
theorem KT.put {H : Hp} {kvs : List (List Key × V)} {xs : List (List Key × Addr × Value)} (r : KT H kvs xs) (k : List Key) {b : Addr} {y : V} {u : Value} (hb : H b = some (.tup (k.map kV))) (ry : RelV y u) :
    KT H (putK kvs k y) (storedH xs k b u) := by
  have e : (kvs.any fun kv => decide (kv.1 = k)) = (atKey xs k).isSome := by
    rw [valV_any, (r.val k).isSome_eq, Option.isSome_map]
  unfold putK storedH
  rw [e]
  by_cases q : (atKey xs k).isSome = true
  · rw [if_pos q, if_pos q]; exact r.repl k ry
  · rw [if_neg q, if_neg q]; exact Paired.snoc r ⟨rfl, hb, ry⟩
theorem KT.keeps {H H' : Hp} {kvs : List (List Key × V)} {xs : List (List Key × Addr × Value)} (r : KT H kvs xs) (ht : ∀ b ys, H b = some (.tup ys) → H' b = some (.tup ys)) : KT H' kvs xs :=
  Paired.mapP r fun _ _ z => ⟨z.1, ht _ _ z.2.1, z.2.2⟩

section
variable {P : Program} {w : World} {H : Hp} {h : Heap} {a : Addr}
theorem rd_of {u : HO} (ok : HOk P w H h) (e : Rd H a u) : ObjOk P w H h a u := e.ok ok
theorem dk_rd {kvs : List (Key × V)} (ok : HOk P w H h) (e : Rd H a (.dK kvs)) : kvs.length ≤ sizeLine ∧ (a == sysModules) = false ∧ ∃ vs, KV kvs vs ∧ h.DictOf (mixKind P w) a vs :=
  show ObjOk P w H h a (.dK kvs) from rd_of ok e
theorem dk_of {kvs : List (Key × V)} (ok : HOk P w H h) (e : H a = some (.dK kvs)) : kvs.length ≤ sizeLine ∧ (a == sysModules) = false ∧ ∃ vs, KV kvs vs ∧ h.DictOf (mixKind P w) a vs := dk_rd ok (.inl e)
/-- a tracked tuple of ints and texts is a key -/
theorem key_of {ks : List Key} (ok : HOk P w H h) (e : H a = some (.tup (ks.map kV))) : (tupleKind (mixKind P w)).is h ks a := by
  obtain ⟨_, its, r, o, h1, h2, n, h3⟩ := (show ObjOk P w H h a (.tup (ks.map kV)) from ok a _ e)
  exact ⟨o, its.toArray, n, h1, h2, h3, by simpa using items_are r⟩
theorem dt_rd {kvs : List (List Key × V)} (ok : HOk P w H h) (e : Rd H a (.dT kvs)) : kvs.length ≤ sizeLine ∧ (a == sysModules) = false ∧
    ∃ xs, KT H kvs xs ∧ h.DictOfH (tupleKind (mixKind P w)) a xs := by
  obtain ⟨z, y, xs, r, o, es, ep, h1, h2, h3, h4, h5⟩ := (show ObjOk P w H h a (.dT kvs) from rd_of ok e)
  refine ⟨z, y, xs, r, o, es, ep, h1, h2, h3, h4, fun x hx => ?_, h5⟩
  have all : ∀ {l : List (List Key × V)} {m : List (List Key × Addr × Value)}, KT H l m → ∀ x ∈ m, (tupleKind (mixKind P w)).is h x.1 x.2.1 := by
    intro l m q
    induction q with
    | nil => intro x hx; exact nomatch hx
    | @cons p q ps qs hq t ih =>
      intro x hx
      rcases List.mem_cons.mp hx with e | hx
      · subst e
        exact key_of ok (by rw [← hq.1]; exact hq.2.1)
      · exact ih x hx
  exact all r x hx
theorem dt_of {kvs : List (List Key × V)} (ok : HOk P w H h) (e : H a = some (.dT kvs)) : kvs.length ≤ sizeLine ∧ (a == sysModules) = false ∧
    ∃ xs, KT H kvs xs ∧ h.DictOfH (tupleKind (mixKind P w)) a xs := dt_rd ok (.inl e)
end

/-- what the dict at a holds at the key y -/
def DGet (H : Hp) (a : Addr) (y : V) (r : Option V) : Prop :=
  (∃ kvs k, Rd H a (.dK kvs) ∧ y = kV k ∧ r = valV kvs k) ∨ ∃ kvs k b, Rd H a (.dT kvs) ∧ y = .ref b ∧ H b = some (.tup (k.map kV)) ∧ r = valV kvs k
/-- the heap behind a[y] = v -/
def DPut (H : Hp) (a : Addr) (y v : V) (H' : Hp) : Prop :=
  (∃ kvs k, H a = some (.dK kvs) ∧ y = kV k ∧ kvs.length < sizeLine ∧ H' = upd H a (.dK (putK kvs k v))) ∨
  ∃ kvs k b, H a = some (.dT kvs) ∧ y = .ref b ∧ H b = some (.tup (k.map kV)) ∧ kvs.length < sizeLine ∧ H' = upd H a (.dT (putK kvs k v))
theorem DGet.k {H : Hp} {a : Addr} {kvs : List (Key × V)} {k : Key} (e : H a = some (.dK kvs)) : DGet H a (kV k) (valV kvs k) := .inl ⟨kvs, k, .inl e, rfl, rfl⟩
theorem DGet.t {H : Hp} {a b : Addr} {kvs : List (List Key × V)} {k : List Key} (e : H a = some (.dT kvs)) (eb : H b = some (.tup (k.map kV))) : DGet H a (.ref b) (valV kvs k) := .inr ⟨kvs, k, b, .inl e, rfl, eb, rfl⟩
theorem DPut.k {H : Hp} {a : Addr} {kvs : List (Key × V)} {k : Key} {v : V} (e : H a = some (.dK kvs)) (hl : kvs.length < sizeLine) : DPut H a (kV k) v (upd H a (.dK (putK kvs k v))) := .inl ⟨kvs, k, e, rfl, hl, rfl⟩
theorem DPut.t {H : Hp} {a b : Addr} {kvs : List (List Key × V)} {k : List Key} {v : V} (e : H a = some (.dT kvs)) (eb : H b = some (.tup (k.map kV))) (hl : kvs.length < sizeLine) :
    DPut H a (.ref b) v (upd H a (.dT (putK kvs k v))) := .inr ⟨kvs, k, b, e, rfl, eb, hl, rfl⟩


section
variable {X : Cx} {pins : List (Addr × Obj)} {σ : St} {H : Hp} {s : Shared} {a : Addr} {y v : V} {u r : Value} {o : Option V} {A : Around} {E : Value → Shared → Prop}

theorem Inv.big (I : Inv X pins σ H s) : sysModules < s.heap.objs.size := by
  have h : mainGlobals < s.heap.objs.size := (I.mod.glob.keeps I.bk).lt
  exact Nat.lt_trans (by decide) h

/-- d[y], there -/
theorem d_getItem {Q : Value → Shared → Prop} (hu : A.units + 1 < cLine) (I : Inv X pins σ H s) (g : DGet H a y (some v)) (ry : RelV y u) (h : ∀ w' s', Inv X pins σ H s' → RelV v w' → Q w' s') :
    wpAny (model X.prog X.w) A (getItem (.ref a) u) Q E s := by
  rcases g with ⟨kvs, k, e, ey, l⟩ | ⟨kvs, k, b, e, ey, eb, l⟩
  · subst ey
    obtain ⟨z, hd, vs, rel, dd⟩ := dk_rd I.hok e
    obtain ⟨w', hw, rw'⟩ := RelO.some_of (v := v) (o := valueAt vs k) (by rw [l]; exact rel.val k)
    exact wpAny_getItem_of (kV_is ry) dd.mapOf hw (h w' _ (I.tok _) rw')
  · subst ey
    cases (show u = Value.ref b from ry)
    obtain ⟨z, hd, xs, rel, dd⟩ := dt_rd I.hok e
    obtain ⟨w', hw, rw'⟩ := RelO.some_of (v := v) (o := (atKey xs k).map (·.2)) (by rw [l]; exact rel.val k)
    obtain ⟨p, hp, hp2⟩ := Option.map_eq_some_iff.mp hw
    refine wpAny_getItem_heap (tupleKind_room_in1 hu) (key_of I.hok eb) dd hp ?_
    rw [hp2]
    exact h w' _ (I.tok _) rw'
theorem d_notIn {Q : Value → Shared → Prop} (hu : A.units + 1 < cLine) (I : Inv X pins σ H s) (g : DGet H a y o) (ry : RelV y u) (h : ∀ s', Inv X pins σ H s' → Q (.bool (!o.isSome)) s') :
    wpAny (model X.prog X.w) A (compareOp .NotIn u (.ref a)) Q E s := by
  rcases g with ⟨kvs, k, e, ey, l⟩ | ⟨kvs, k, b, e, ey, eb, l⟩
  · subst ey
    obtain ⟨z, hd, vs, rel, dd⟩ := dk_rd I.hok e
    refine wpAny_notIn_of (kV_is ry) hd dd.mapOf ?_
    rw [← (rel.val k).isSome_eq, ← l]
    exact h _ (I.tok _)
  · subst ey
    cases (show u = Value.ref b from ry)
    obtain ⟨z, hd, xs, rel, dd⟩ := dt_rd I.hok e
    refine wpAny_notIn_heap (tupleKind_room_in1 hu) (key_of I.hok eb) hd dd ?_
    have q := (rel.val k).isSome_eq
    rw [Option.isSome_map] at q
    rw [← q, ← l]
    exact h _ (I.tok _)
/-- a dict's object is replaced -/
theorem d_write {h' : Heap} {t' : Nat} {ob : HO} (I : Inv X pins σ H s) (mu : Mut (H a)) (hs : Heap.SameBut a s.heap h') (he : ∃ q, h'.get? a = some q) (new : ObjOk X.prog X.w (upd H a ob) h' a ob) :
    Inv X pins σ (upd H a ob) { s with heap := h', toks := t' } :=
  I.write (x := a) (e := a) mu (.inl rfl) (fun b q hb z => (hs.2 b hb).trans z) he new
theorem dk_new {P : Program} {w : World} {H' : Hp} {h' : Heap} {kvs : List (Key × V)} {vs : List (Key × Value)} (z : kvs.length ≤ sizeLine) (hd : (a == sysModules) = false) (rel : KV kvs vs) (dd : h'.DictOf (mixKind P w) a vs) :
    ObjOk P w H' h' a (.dK kvs) := ⟨z, hd, vs, rel, dd⟩
/-- d[y] = v -/
theorem d_setItem {H' : Hp} {Q : Unit → Shared → Prop} (hu : A.units + 1 < cLine) (I : Inv X pins σ H s) (g : DPut H a y v H') (ry : RelV y u) (rv : RelV v r) (h : ∀ s', Inv X pins σ H' s' → Q () s') :
    wpAny (model X.prog X.w) A (setItem (.ref a) u r) Q E s := by
  rcases g with ⟨kvs, k, e, ey, l, eH⟩ | ⟨kvs, k, b, e, ey, eb, l, eH⟩
  · subst ey eH
    obtain ⟨z, hd, vs, rel, dd⟩ := dk_of I.hok e
    have hz : vs.length ≤ sizeLine := by rw [← rel.length]; exact z
    have hl : (putK kvs k v).length ≤ sizeLine := by have := length_putK kvs k v; omega
    refine wpAny_setItem_pairs (hsz := hz) (kV_is ry) dd fun h' dd' hs => h _ ?_
    have he : ∃ q, h'.get? a = some q := let ⟨q, _, _, hq, _⟩ := dd'; ⟨q, hq⟩
    exact d_write I (by rw [e]; exact True.intro) hs he (dk_new hl hd (rel.put k rv) dd')
  · subst ey eH
    cases (show u = Value.ref b from ry)
    obtain ⟨z, hd, xs, rel, dd⟩ := dt_of I.hok e
    have hz : xs.length ≤ sizeLine := by rw [← Paired.length rel]; exact z
    have hl : (putK kvs k v).length ≤ sizeLine := by have := length_putK kvs k v; omega
    refine wpAny_setItem_heap (hsz := hz) (tupleKind_room_in1 hu) (key_of I.hok eb) dd fun h' dd' hs => h _ ?_
    obtain ⟨q, es, ep, hq, h2, h3, h4, _, h5⟩ := dd'
    refine d_write I (by rw [e]; exact True.intro) hs ⟨q, hq⟩ ⟨hl, hd, _, (rel.put k eb rv).keeps fun c ys ec => ?_, q, es, ep, hq, h2, h3, h4, h5⟩
    rw [upd_ne (ne_of ec e (fun z => nomatch z))]
    exact ec
end

section
variable {X : Cx} {pins : List (Addr × Obj)} {σ : St} {H : Hp} {s : Shared} {a : Addr} {kvs : List (Key × V)} {k : Key} {u : Value} {A : Around} {E : Value → Shared → Prop}
end


/-! ### readings and rules -/
/-- the element of a subscription, not a slice -/
def NoSl (i : Expr) : Prop := ∀ ov iv, subscripted i false ov iv = operate [ov, iv] (getItem ov iv)
theorem subD_of {prog : Program} {w : World} {A : Around} {E : Value → Shared → Prop} {s : Shared} {env : Env} {value slice : Expr} {pos : Pos} {T id : String} {Q : Value → Shared → Prop}
    (hl : typeLookup (.type T) "__getitem__" = pure (some (.builtin id))) (hs : NoSl slice)
    (h : wpAny (model prog w) A (eval value env) (fun o s₁ => wpAny (model prog w) A (eval slice env) (fun i s₂ => s₂.TypeIs o T ∧ wpAny (model prog w) A (getItem o i) Q E s₂) E s₁) E s) :
    wpAny (model prog w) A (eval (.Subscript value slice pos) env) Q E s := by
  refine Subscript_ (wpAny_mono h (fun o s₁ h₁ => wpAny_mono h₁ (fun i s₂ h₂ => ?_) fun _ _ x => x) fun _ _ x => x)
  obtain ⟨hT, h₂⟩ := h₂
  unfold subscriptTail
  refine wpAny_bind ?_
  rw [getitemInPython_of_ne hT.not_modules]
  refine wpAny_bind (wpAny_specialOf hT hl ?_)
  have fin : wpAny (model prog w) A (subscripted slice false o i) (fun r s₃ => wpAny (model prog w) A (letTemporaryGo value o r >>= fun _ => pure r) Q E s₃) E s₂ := by
    rw [hs o i]
    exact wpAny_operating (wpAny_mono h₂ (fun r s₃ h₃ => wpAny_bind (wpAny_letTemporaryGo (wpAny_pure h₃))) fun _ _ x => x)
  first
    | exact wpAny_pure (wpAny_bind fin)
    | exact wpAny_bind (wpAny_pure (wpAny_bind fin))
    | exact wpAny_bind fin

theorem dict_typeIs {X : Cx} {pins : List (Addr × Obj)} {σ : St} {H : Hp} {s : Shared} {a : Addr} {y : V} {o : Option V} (I : Inv X pins σ H s) (g : DGet H a y o) : s.TypeIs (.ref a) "dict" := by
  rcases g with ⟨kvs, k, e, _, _⟩ | ⟨kvs, k, b, e, _, _, _⟩
  · obtain ⟨_, _, vs, _, dd⟩ := dk_rd I.hok e
    exact dd.typeIs
  · obtain ⟨_, _, xs, _, dd⟩ := dt_rd I.hok e
    exact dd.typeIs
/-- d[y] -/
def tDGet (td ty : TE) : TE := fun σ H Q => td σ H fun x H1 => ty σ H1 fun y H2 => ∃ a v, x = .ref a ∧ DGet H2 a y (some v) ∧ Q v H2
def tDNotIn (ty td : TE) : TE := fun σ H Q => ty σ H fun y H1 => td σ H1 fun x H2 => ∃ a o, x = .ref a ∧ DGet H2 a y o ∧ Q (.bl (!o.isSome)) H2
/-- d[y] = v -/
def sDPut (td ty tv : TE) : TS := fun D σ H => tv σ H fun v H1 => td σ H1 fun x H2 => ty σ H2 fun y H3 => ∃ a H4, x = .ref a ∧ DPut H3 a y v H4 ∧ D.nx σ H4
section
variable {X : Cx} {o i e value : Expr} {pos pos' tpos : Pos} {td ty tv : TE}
theorem pe_dget (hu : X.A.units + 1 < cLine) (ho : PE X o td) (hi : PE X i ty) (hs : NoSl i) : PE X (.Subscript o i pos) (tDGet td ty) := by
  intro pins s σ H Q I h
  refine subD_of PySem.F.slot_dict_getitem.lookup hs (thn (ho pins s σ H _ I h) fun u s1 ⟨x, H1, I1, rx, q1⟩ => thn (hi pins s1 σ H1 _ I1 q1) fun iv s2 ⟨y, H2, I2, ry, a, v, ex, g, q2⟩ => ?_)
  subst ex
  obtain rfl : u = Value.ref a := rx
  exact ⟨dict_typeIs I2 g, d_getItem hu I2 g ry fun w' s3 I3 rw' => ⟨v, H2, I3, rw', q2⟩⟩
theorem pc_dnotin (hu : X.A.units + 1 < cLine) (hi : PE X i ty) (ho : PE X o td) : PC X .NotIn i o (tDNotIn ty td) := by
  intro pins s σ H Q I h
  refine thn (hi pins s σ H _ I h) fun iv s1 ⟨y, H1, I1, ry, q1⟩ => thn (ho pins s1 σ H1 _ I1 q1) fun u s2 ⟨x, H2, I2, rx, a, ov, ex, g, q2⟩ => ?_
  subst ex
  obtain rfl : u = Value.ref a := rx
  exact d_notIn hu I2 g ry fun s3 I3 => ⟨.bl (!ov.isSome), H2, I3, rfl, q2⟩
theorem ps_dput (hu : X.A.units + 1 < cLine) (ho : PE X o td) (hi : PE X i ty) (hv : PE X value tv) (hs : swapsWith value (some (.Subscript o i pos')) pos.line X.env = pure false) :
    PS X (.Assign [.Subscript o i pos'] value pos) (sDPut td ty tv) := by
  intro pins s σ H D I h
  refine wpAny_Assign_Subscript (thn (hv pins s σ H _ I h) fun r s1 ⟨v, H1, I1, rv, q1⟩ => thn (ho pins s1 σ H1 _ I1 q1) fun u s2 ⟨x, H2, I2, rx, q2⟩ => thn (hi pins s2 σ H2 _ I2 q2) fun iv s3 ⟨y, H3, I3, ry, a, H4, ex, g, q3⟩ => ?_) hs
  subst ex
  obtain rfl : u = Value.ref a := rx
  exact d_setItem hu I3 g ry rv fun s4 I4 => ⟨σ, H4, I4, q3⟩
end


/-! ### displays -/
theorem dk_empty {P : Program} {w : World} {H : Hp} (h : Heap) (hb : sysModules < h.objs.size) : ObjOk P w H (h.push { cls := .type "dict", data := .dict #[] }) h.objs.size (.dK []) :=
  ⟨Nat.zero_le _, beq_eq_false_iff_ne.mpr (Ne.symm (Nat.ne_of_lt hb)), [], .nil, Heap.DictOf.new h⟩
section
variable {X : Cx} {pos : Pos}
end

/-- the pairs of a display, from the left -/
def tPairs : List (TE × TE) → St → Hp → (List (V × V) → Hp → Prop) → Prop
  | [], _, H, Q => Q [] H
  | (tk, tv) :: r, σ, H, Q => tk σ H fun x H1 => tv σ H1 fun y H2 => tPairs r σ H2 fun ps H3 => Q ((x, y) :: ps) H3
abbrev VV : List (V × V) → List (Value × Value) → Prop := Paired fun p q => RelV p.1 q.1 ∧ RelV p.2 q.2
def PPs (X : Cx) (pos : Pos) (keys : List (Option Expr)) (values : List Expr) (trs : List (TE × TE)) : Prop :=
  ∀ (pins : List (Addr × Obj)) (s : Shared) (σ : St) (H : Hp) (Q : List (V × V) → Hp → Prop), Inv X pins σ H s → tPairs trs σ H Q →
    wpAny (model X.prog X.w) X.A (evalPairs (pairTrees keys values X.env pos)) (fun vs s' => ∃ ps H', Inv X pins σ H' s' ∧ VV ps vs ∧ Q ps H') X.xe s
theorem pps_nil {X : Cx} {pos : Pos} : PPs X pos [] [] [] := fun pins s σ H Q I h => pairTrees_nil_walk ⟨[], H, I, .nil, h⟩
theorem pps_cons {X : Cx} {pos : Pos} {k v : Expr} {ks : List (Option Expr)} {vs : List Expr} {tk tv : TE} {trs : List (TE × TE)} (hk : PE X k tk) (hv : PE X v tv) (hr : PPs X pos ks vs trs) :
    PPs X pos (some k :: ks) (v :: vs) ((tk, tv) :: trs) := fun pins s σ H Q I h =>
  pairTrees_cons_walk (thn (hk pins s σ H _ I h) fun u s1 ⟨x, H1, I1, rx, q1⟩ => thn (hv pins s1 σ H1 _ I1 q1) fun w2 s2 ⟨y, H2, I2, ry, q2⟩ =>
    thn (hr pins s2 σ H2 _ I2 q2) fun ws s3 ⟨ps, H3, I3, rel, q3⟩ => ⟨(x, y) :: ps, H3, I3, .cons ⟨rx, ry⟩ rel, q3⟩)

def mergeK (kvs more : List (Key × V)) : List (Key × V) := more.foldl (fun acc kv => putK acc kv.1 kv.2) kvs
theorem KV.merge : ∀ {more : List (Key × V)} {rs : List (Key × Value)} {kvs : List (Key × V)} {vs : List (Key × Value)}, KV more rs → KV kvs vs → KV (mergeK kvs more) (merged vs rs) := by
  intro more rs kvs vs r
  unfold KV at r
  induction r generalizing kvs vs with
  | nil => intro q; exact q
  | @cons p q ps qs h t ih =>
    intro r0
    have e : KV (putK kvs p.1 p.2) (stored vs q.1 q.2) := by
      have := r0.put p.1 h.2
      rw [← h.1]; exact this
    exact ih e
theorem length_mergeK : ∀ (more kvs : List (Key × V)), (mergeK kvs more).length ≤ kvs.length + more.length
  | [], kvs => by show kvs.length ≤ kvs.length + 0; omega
  | p :: r, kvs => by
    have h1 := length_mergeK r (putK kvs p.1 p.2)
    have h2 := length_putK kvs p.1 p.2
    show (mergeK (putK kvs p.1 p.2) r).length ≤ _
    rw [List.length_cons]; omega
theorem carries_of {P : Program} {w : World} : ∀ {kvs : List (Key × V)} {ws : List (Value × Value)}, VV (kvs.map fun kv => (kV kv.1, kv.2)) ws → ∃ rs, Carries (mixKind P w) ws rs ∧ KV kvs rs
  | [], _, r => by rw [List.map_nil] at r; cases r; exact ⟨[], True.intro, .nil⟩
  | p :: kvs, _, r => by
    rw [List.map_cons] at r
    cases r with
    | @cons a b as bs h t =>
      obtain ⟨rs, c, q⟩ := carries_of (P := P) (w := w) t
      obtain ⟨b1, b2⟩ := b
      exact ⟨(p.1, b2) :: rs, ⟨kV_is h.1, rfl, c⟩, .cons ⟨rfl, h.2⟩ q⟩
/-- {k: v, ..} with keys ints and texts; the new dict stands empty while the pairs are made -/
def tDisp (trs : List (TE × TE)) : TE := fun σ H Q => ∀ p, H p = none → tPairs trs σ (upd H p (.dK [])) fun ps H2 => H2 p = some (.dK []) ∧ ∃ kvs : List (Key × V), ps = kvs.map (fun kv => (kV kv.1, kv.2)) ∧ kvs.length ≤ 15 ∧ Q (.ref p) (upd H2 p (.dK (mergeK [] kvs)))
theorem pe_disp {X : Cx} {pos : Pos} {keys : List (Option Expr)} {values : List Expr} {trs : List (TE × TE)} (h : PPs X pos keys values trs) (hall : keys.all (·.isSome) = true) (hl : keys.length = values.length) (h0 : keys ≠ [])
    (h15 : keys.length ≤ 15) : PE X (.Dict keys values pos) (tDisp trs) := by
  intro pins s σ H Q I q
  have hn := I.hok.fresh (Nat.le_refl s.heap.objs.size)
  have I1 := I.laid (a := s.heap.objs.size) (o := .dK []) (h' := s.heap.push { cls := .type "dict", data := .dict #[] }) (t' := s.toks) (fun _ _ q => Heap.get?_push_of_some _ q) (Nat.le_refl _) (dk_empty s.heap I.big)
  refine wpAny_Dict_walk (knd := mixKind X.prog X.w) hall hl h0 h15 (thn (h pins _ σ _ _ I1 (q _ hn)) fun ws s2 ⟨ps, H2, I2, rel, e, kvs, ep, lk, q2⟩ => ?_)
  subst ep
  obtain ⟨rs, c, rk⟩ := carries_of (P := X.prog) (w := X.w) rel
  obtain ⟨z, hd, vs0, r0, dd⟩ := dk_of I2.hok e
  cases r0
  refine ⟨rs, c, dd, fun h' dd' hs => ⟨.ref s.heap.objs.size, _, ?_, rfl, q2⟩⟩
  have hz : (mergeK [] kvs).length ≤ sizeLine := by
    have h1 := length_mergeK kvs []
    rw [List.length_nil] at h1
    rw [sizeLine_eq]; omega
  have he : ∃ q, h'.get? s.heap.objs.size = some q := let ⟨q, _, _, hq, _⟩ := dd'; ⟨q, hq⟩
  exact d_write I2 (by rw [e]; exact True.intro) hs he (dk_new hz hd (rk.merge .nil) dd')


/-! ### methods -/
structure M2 (X : Cx) (o : Expr) (m : Str) (apos : Pos) (e f : Expr) (cpos : Pos) : Prop where
  base : attributeBase o m X.env (eval o X.env) = eval o X.env
  few : ((backTo cpos (starEach [e, f] X.env)).all (fun x => !x.1) && (backToKw cpos (keywordEach [] X.env)).all (fun x => x.1.isSome)
    && decide (([e, f] : List Expr).length + ([] : List Keyword).length + (if ([] : List Keyword).isEmpty then 0 else 1) < 30)) = true
  line : (apos.endLine == cpos.line) = true
  trees : backTo cpos (starEach [e, f] X.env) = [(false, eval e X.env), (false, eval f X.env)]

section
variable {X : Cx} {pins : List (Addr × Obj)} {σ : St} {H : Hp} {s : Shared} {a : Addr} {y d : V} {u r : Value} {o : Option V} {A : Around} {E : Value → Shared → Prop}
end

section
variable {X : Cx} {o e f : Expr} {apos cpos : Pos} {td ty tx : TE}
end

/-! ### dict(d): a copy -/
section
variable {X : Cx} {pins : List (Addr × Obj)} {σ : St} {H : Hp} {s : Shared} {a : Addr} {kvs : List (Key × V)} {A : Around} {E : Value → Shared → Prop}
end


section
variable {X : Cx} {pins : List (Addr × Obj)} {σ : St} {H : Hp} {s : Shared} {a : Addr} {y : V} {u : Value} {A : Around} {E : Value → Shared → Prop}
end
end L2

namespace L2
open PySem PySem.Spec PyProof.Rows

section
variable {prog : Program} {w : World} {A : Around} {E : Value → Shared → Prop}
end

section
variable {X : Cx}
end
end L2

namespace L2
open PySem PySem.Spec PyProof.Rows

section
variable {X : Cx} {pins : List (Addr × Obj)} {σ : St} {H : Hp} {s : Shared} {h' : Heap}
/-! ### locking a thing while a statement runs -/
end
section
variable {X : Cx}
/-! ### one iterator just laid -/
end

/-! ### range with a step -/
/-- range(i, j, c): small bounds, n items -/
def RgC (i j c : Int) (n : Nat) : Prop := c ≠ 0 ∧ c.natAbs < 1073741824 ∧ Builtin.Range.small i j c = true ∧ Builtin.Range.rangeSize i j c = n
theorem RgC.neg {i j : Int} (ha : -(2 ^ 62) ≤ i) (ha' : i < 2 ^ 62) (hb : -(2 ^ 62) ≤ j) (hb' : j < 2 ^ 62) : RgC i j (-1) (i - j).toNat :=
  ⟨by decide, by decide, PySem.W.small_down ha ha' hb hb', PySem.W.rangeSize_downNat i j⟩
section
variable {X : Cx} {tg : Expr}
end
/-! ### reversed(list) -/
section
variable {X : Cx} {tg : Expr}
end

/-! ### a str -/
/-! ### a dict's keys: any dict's entries -/
section
variable {prog : Program} {w : World} {A : Around} {E : Value → Shared → Prop} {s : Shared}
end

/-! ### a locked dict -/
section
variable {X : Cx} {pins : List (Addr × Obj)} {σ : St} {H : Hp} {s : Shared} {d : Addr} {o : Obj}
end

section
variable {P : Program} {w : World} {K : PySem.W.Frag} {tg : Expr} {d : Addr} {o : Obj} {es : Array DictEntry} {ep : Nat}
end

/-! ### for k in d, d.keys(), d.values(), d.items() -/
section
variable {X : Cx} {tg e : Expr} {td : TE} {apos cpos : Pos}
end

/-! ### enumerate(list) -/
/-! ### zip(list, list) -/
end L2

section 
namespace Bits
open PySem PyProof.Rows

theorem nat_and_mul_pow (k : Nat) : ∀ a b : Nat, a < 2 ^ k → a &&& (b * 2 ^ k) = 0 := by
  induction k with
  | zero =>
    intro a b h
    have h0 : a = 0 := by
      rw [Nat.pow_zero] at h
      omega
    subst h0
    simp
  | succ k ih =>
    intro a b h
    have hm : (b * 2 ^ (k + 1)) = (b * 2 ^ k) * 2 := by rw [Nat.pow_succ, Nat.mul_assoc]
    have hlt : a / 2 < 2 ^ k := by
      rw [Nat.pow_succ] at h
      generalize 2 ^ k = m at h ⊢
      omega
    have i := ih (a / 2) b hlt
    rw [hm]
    generalize b * 2 ^ k = B at i ⊢
    have e : (a &&& (B * 2)) / 2 = a / 2 &&& (B * 2) / 2 := Nat.and_div_two
    have e2 : (B * 2) / 2 = B := by omega
    have o := @Nat.and_mod_two_eq_one a (B * 2)
    rw [e2, i] at e
    omega

theorem natCast_mul_pow (m k : Nat) : (m : Int) * 2 ^ k = ((m * 2 ^ k : Nat) : Int) := by
  rw [two_pow_cast]
  first
    | exact (Int.natCast_mul _ _).symm
    | simp

/-- low bits a, high part b: (b << k) | a -/
theorem bitOr_join {a b : Int} {k : Nat} (h0 : 0 ≤ a) (h1 : a < 2 ^ k) (hb : 0 ≤ b) : Builtin.bitOr a (b * 2 ^ k) = a + b * 2 ^ k := by
  obtain ⟨n, rfl⟩ := Int.eq_ofNat_of_zero_le h0
  obtain ⟨m, rfl⟩ := Int.eq_ofNat_of_zero_le hb
  have hn : n < 2 ^ k := by
    rw [two_pow_cast] at h1
    omega
  have e : Builtin.bitAnd (n : Int) ((m * 2 ^ k : Nat) : Int) = 0 := by
    rw [bitAnd_pp (by omega) (by omega), Int.toNat_natCast, Int.toNat_natCast, nat_and_mul_pow k n m hn] <;> rfl
  rw [natCast_mul_pow, bitOr_and, e]
  omega
end Bits
end 

section 
namespace TL
open PySem PySem.Builtin PySem.Builtin.Str PySem.StrLaws

abbrev tl (x : Str) : List Nat := x.cps.toList
theorem len_tl (x : Str) : x.length = (tl x).length := by simp [tl, Str.length]
/-! ### the list functions -/
/-- S stands at the head of l -/
def pre (S l : List Nat) : Bool := l.take S.length == S
/-- l cut at each S from the left; k signs are still to be passed over -/
def spl (S : List Nat) : Nat → List Nat → List Nat → List (List Nat)
  | _, acc, [] => [acc]
  | 0, acc, c :: r => if pre S (c :: r) = true then acc :: spl S (S.length - 1) [] r else spl S 0 (acc ++ [c]) r
  | k + 1, acc, _ :: r => spl S k acc r
/-- what stands before the first S, and behind it -/
def par (S : List Nat) : List Nat → List Nat → Option (List Nat × List Nat)
  | _, [] => none
  | acc, c :: r => if pre S (c :: r) = true then some (acc, (c :: r).drop S.length) else par S (acc ++ [c]) r

/-! ### the model's split and partition are these -/
theorem len1 {y : Str} (hy : tl y ≠ []) : 1 ≤ y.length := by
  have e2 : 0 < (tl y).length := List.length_pos_iff.mpr hy
  rw [len_tl y]
  exact e2
/-! ### computing spl and par -/
/-! ### digits -/
/-! ### words: x.split() -/
end TL
end 

namespace L2
open PySem PySem.Spec PyProof.Rows

section
variable {X : Cx} {pins : List (Addr × Obj)} {σ : St} {H : Hp} {s : Shared} {Q : VK}
end

section
variable {X : Cx}

/-! ### of a text alone -/
/-! ### of a text and a text -/
end

section
variable {X : Cx} {o e : Expr} {to te : TE}
end
end L2

namespace L2
open PySem PySem.Spec PyProof.Rows

section
variable {X : Cx}
end

/-! ### slices of a text -/
theorem IsPart.raw {v : Value} {o : Option Int} (p : IsPart v o) : ∃ l : Option (Int × Tok), v = partValue l ∧ l.map (·.1) = o := by
  cases p with
  | none => exact ⟨none, rfl, rfl⟩
  | int i t => exact ⟨some (i, t), rfl, rfl⟩

end L2

namespace Att
open PySem PySem.W PySem.Calls PyProof.Rows

/-! ### the script -/
theorem ints_of_wellAll {P : Params} {h : Heap} : ∀ (ns : List Int) (vs : List Value), WellAll P h vs (ns.map WData.int) → IntsAre vs ns := by
  intro ns
  induction ns with
  | nil =>
    intro vs w
    rw [List.map_nil] at w
    cases w
    exact .nil
  | cons n ns ih =>
    intro vs w
    rw [List.map_cons] at w
    cases w with
    | cons a b =>
      cases a
      exact .cons _ _ (ih _ b)

theorem script_of {l : OpenLaw} {n : Nat} (hn : l.most = some n) {P : Params} {h : Heap} {args : List WData} {vals : List Value}
    (hpre : l.row.toRowW.claim.pre args = true) (hwl : WellAll P h vals args) :
    ∃ a vs ns, vals = [Value.ref a] ∧ args = [WData.list (ns.map WData.int)] ∧ h.get? a = some { cls := .type "list", data := .seq vs.toArray } ∧ IntsAre vs ns ∧ ns.length ≤ n := by
  have hsh : WShape.hasAll [] args [.list .int] = true := (pre_splitW hpre).1
  have hc : l.pre.holds [] { args := args } = true := (pre_splitW hpre).2
  obtain ⟨d, r, rfl, h1, h2⟩ := hasAllW_cons hsh
  obtain rfl := hasAllW_nil h2
  obtain ⟨xs, rfl, h3⟩ := hasW_list h1
  obtain ⟨ns, rfl⟩ := items_int h3
  have hlen : ns.length ≤ n := by
    unfold OpenLaw.pre at hc
    have h4 : (WTm.not (.lt (.lit (.int (n : Int))) (.len (.arg 0)))).holds [] { args := [.list (ns.map .int)] } = true := by
      have h4 := (holds_andW hc).1
      rw [hn] at h4
      exact h4
    have h5 := condW_of h4 (w_not (w_lt w_lit (w_len_list (w_arg rfl))))
    rw [List.length_map] at h5
    refine Nat.le_of_not_lt fun q => ?_
    have q' : (n : Int) < ((ns.length : Nat) : Int) := by omega
    first
      | (rw [decide_eq_true q'] at h5; exact absurd h5 (by decide))
      | (simp at h5; omega)
  cases hwl with
  | cons w1 w2 =>
    cases w2
    cases w1 with
    | list ho hall => exact ⟨_, _, ns, rfl, rfl, ho, ints_of_wellAll ns _ hall, hlen⟩

theorem post_true (l : OpenLaw) (args : List WData) : l.row.toRowW.claim.post args (.bool true) args = true :=
  postW_of (r := l.row.toRowW) (X := (true == true))
    (show WShape.has [] (.bool true) .bool = true by first | rfl | decide | simp [WShape.has, WShape.arms, WShape.armsAll])
    (show (WTm.eq .res (.lit (.bool true))).value [] { args := args, res := some (.bool true), after := args } = some (.bool (true == true)) from w_eq_bool (w_res rfl) w_lit) rfl

/-! ### the attachment: holds_open's last premise (the goal 'hc' behind k_head) from a wpAny of the law's body -/
/-- the same from a codeAny of the CALL (for a layer whose function contracts speak of calls) -/
theorem attach_call {l : OpenLaw} {n : Nat} {q : Program} {loose : List Str} {XP : (Str → Option Value) → Heap → Prop} {YP : World → Heap → Prop} {d : DefRec}
    (hn : l.most = some n) (hdf : d.params.defaults = [])
    (call : ∀ (w : World) (s₀ s₁ : Shared) (mg mb : Str → Option Value) (fa : Addr) (o : Obj) (pm cd doc : Value) (a : Addr) (vs : List Value) (ns : List Int),
      Ground q loose [] XP w s₀ mg mb s₁.heap → YP w s₁.heap →
      s₁.heap.get? fa = some o → o.data = .func (docDef d.name d.params d.body d.scope pm cd doc) → s₁.heap.CodeRec cd d.name → mg d.name = some (.ref fa) →
      s₁.heap.get? a = some { cls := .type "list", data := .seq vs.toArray } → IntsAre vs ns → ns.length ≤ n → s₁.gens = #[] →
      codeAny (model l.prog w) callerA (.call (.ref fa) ⟨[.ref a], []⟩) (fun r s' => r = .ok (.ret (.bool true)) ∧ OldK s₁.heap s'.heap ∧ s'.os = s₁.os ∧ AllBare s'.gens) s₁) :
    WalkO q loose XP YP l.row.toRowW d [] (fun f vs => PySem.call f vs) := by
  intro w s₀ s₁ mg mb G Y fa o pm cd doc dV kV ho hd hcd hD hmg hg args vals as hpre hlay hrd hwl hlo
  obtain rfl : dV = .none := Dflts.none hD hdf
  obtain rfl : kV = .none := Dflts.noKw hD
  obtain ⟨a, vs, ns, rfl, rfl, hobj, hints, hlen⟩ := script_of hn hpre hwl
  refine enter_call (codeAny_mono (call w s₀ s₁ mg mb fa o pm cd doc a vs ns G Y ho (fd_plain hd) hcd hmg hobj hints hlen hg) fun r s' hq => ?_)
  obtain ⟨rfl, h2, h3, h4⟩ := hq
  exact ⟨.inl ⟨.bool true, .bool true, [], rfl, fun _ => rfl, .bool true, post_true l _, fun _ => ⟨List.Pairwise.nil, fun _ hm => (nomatch hm)⟩⟩, h2, h3, h4⟩

/-! ### rules over ANY heap (no ledger) from facts about the written part K: the library's own take a ledger (News) for what they write -/
section
variable {prog : Program} {w : World} {A : Around} {E : Value → Shared → Prop} {s : Shared} {K : Frag}

/-! the whole heap as the ledger: makes every rule that writes through a ledger a rule over any heap -/
def ledger (h : Heap) (L d : Addr) : List (Addr × Obj) := (List.range h.objs.size).filterMap fun a => if a = L ∨ a = d then none else (h.get? a).map fun o => (a, o)
end
end Att

namespace L2
open PySem PySem.Spec PyProof.Rows

theorem vals_ints : ∀ {vs : List Value} {ns : List Int}, IntsAre vs ns → Vals (ns.map V.int) vs
  | _, _, .nil => .nil
  | _, _, .cons n t h => .cons ⟨t, rfl⟩ (vals_ints h)

/-- nothing is tracked but the script, known to the object (or it is an object of the module) -/
def Only (H : Hp) : Prop := ∀ b, H b = none ∨ ∃ o xs, H b = some (.frz o (.lst xs))

/-- THE HEAD: the law's promise, at the heap behind the top. F, the promise of the law's def, may use that base is part of the heap (so K.In base, base.Ns mainGlobals mg stand in Mod) -/
theorem law_call {P : Program} {w : World} {K : PySem.W.Frag} {mg mb : Str → Option Value} {CX : CXT} {k : Nat} {fa a : Addr} {fd : FuncData} {x : Str} {sp : Sp} {s₁ : Shared} {vs : List Value} {ns : List Int}
    (KX : K.In s₁.heap) (hns : s₁.heap.Ns mainGlobals mg) (hb : s₁.heap.Ns builtinsNs mb) (hbb : ∀ x : Str, x ≠ "__name__" → mb x = bootBuiltins x) (hlim : s₁.heap.NoLimit) (hg : s₁.gens = #[])
    (ha : s₁.heap.get? a = some { cls := .type "list", data := .seq vs.toArray }) (hi : IntsAre vs ns) (hl : ns.length ≤ sizeLine) (hr : Room k callerA)
    (F : ∀ base : Heap, K.In base → base.Ns mainGlobals mg → FnOk P w K mg base CX k fa fd [x] sp) (hbind : ∀ (s : Shared) (u : Value), BindsTo s fd ⟨[u], []⟩ [(x, u)])
    (hsp : ∀ H : Hp, Only H → SqL K H a (ns.map V.int) → sp [.ref a] H (fun v _ => v = .bl true) fun _ _ _ => False)
    (hCX : ∀ H e s', CX [] H s₁ (fun _ _ _ => False) e s' → False) :
    codeAny (model P w) callerA (.call (.ref fa) ⟨[.ref a], []⟩) (fun r s' => r = .ok (.ret (.bool true)) ∧ OldK s₁.heap s'.heap ∧ s'.os = s₁.os ∧ AllBare s'.gens) s₁ := by
  have rv := vals_ints hi
  have lenV := hi.length
  -- from an abstract heap in which nothing but the script may be tracked
  have core : ∀ H : Hp, Only H → SqL K H a (ns.map V.int) → HOk P w H s₁.heap → (∀ b, H b ≠ none → b = a) → (H a ≠ none → K.lookup a = none) →
      codeAny (model P w) callerA (.call (.ref fa) ⟨[.ref a], []⟩) (fun r s' => r = .ok (.ret (.bool true)) ∧ OldK s₁.heap s'.heap ∧ s'.os = s₁.os ∧ AllBare s'.gens) s₁ := by
    intro H hO hS hok hA hK
    have base_of : ∀ {b : Addr} {o : Obj}, s₁.heap.get? b = some o → H b = none → (hidT s₁.heap H).get? b = some o := fun e n => hidT_get e n
    have noA : ∀ {b : Addr} {o : Obj} {es : Array DictEntry} {ep : Nat}, s₁.heap.get? b = some o → o.data = .dict es ep → H b = none := fun {b o es ep} e d => by
      cases q : H b with
      | none => rfl
      | some u =>
        have e' : b = a := hA b (by rw [q]; simp)
        subst e'
        rw [ha] at e; cases e
        have d' : Data.seq vs.toArray _ = Data.dict es ep := d
        cases d'
    have nsK : ∀ {b : Addr} {m : Str → Option Value}, s₁.heap.Ns b m → (hidT s₁.heap H).Ns b m := fun {b m} ⟨o, es, ep, e, d, r⟩ => ⟨o, es, ep, base_of e (noA e d), d, r⟩
    have hKb : K.In (hidT s₁.heap H) := fun b o e => base_of (KX b o e) (by
      cases q : H b with
      | none => rfl
      | some u =>
        have e' : b = a := hA b (by rw [q]; simp)
        subst e'
        rw [hK (by rw [q]; simp)] at e; cases e)
    have hM : Mod K mg (hidT s₁.heap H) := ⟨hKb, nsK hns, ⟨mb, nsK hb, hbb⟩, let ⟨mc, h1, h2⟩ := hlim; ⟨mc, nsK h1, h2⟩⟩
    have e0 : Env0 P w K mg (hidT s₁.heap H) callerA [] s₁ H := ⟨rfl, hM, fun b o e => of_hidT e, Nat.le_of_eq (hidT_size _ _), trivial, fun b hb => absurd (show b ∈ ([] : List Addr) from hb) (by simp), hok, .of_eq hg⟩
    refine codeAny_mono ((F _ hKb (nsK hns)).run callerA [] s₁ H ⟨[.ref a], []⟩ [.ref a] [.ref a] _ _ hr e0 (hbind s₁ (.ref a)) (.cons rfl .nil) (hsp H hO hS)) fun r s' h => ?_
    cases r with
    | error e => exact (hCX H e s' h).elim
    | ok fl =>
      cases fl with
      | next => exact False.elim h
      | brk => exact False.elim h
      | cont => exact False.elim h
      | ret u =>
        obtain ⟨v, H', os, bare, un, hok', r', q⟩ := h
        have q' : v = .bl true := q
        subst q'
        obtain rfl : u = Value.bool true := r'
        refine ⟨rfl, OldK.of_keep fun b o e => ?_, os, bare⟩
        cases q : H b with
        | none => exact un.keep b o e q (by intro z; exact absurd (show b ∈ ([] : List Addr) from z) (by simp)) (by simp)
        | some u =>
          rcases hO b with z | ⟨ob, xs, z⟩
          · rw [q] at z; cases z
          · have z2 := un.frzs b ob _ z
            obtain ⟨e1, _⟩ := hok b _ z
            obtain ⟨e2, _⟩ := hok' b _ z2
            rw [e] at e1; cases e1
            exact e2
  cases hk : K.lookup a with
  | some o =>
    -- the script is one of the module's own objects
    have e := KX a o hk
    rw [ha] at e
    cases e
    refine core (fun _ => none) (fun _ => .inl rfl) (.inr ⟨_, vs.toArray, _, hk, rfl, rfl, rfl, by rw [List.size_toArray, lenV]; exact hl, by simpa using rv⟩) (fun b u z => by have z' : (none : Option HO) = some u := z; cases z') (fun b z => absurd rfl z) fun z => absurd rfl z
  | none =>
    refine core (fun b => if b = a then some (.frz { cls := .type "list", data := .seq vs.toArray } (.lst (ns.map V.int))) else none) (fun b => ?_) (.inl (.inr ⟨{ cls := .type "list", data := .seq vs.toArray }, if_pos rfl⟩)) (fun b u z => ?_) (fun b z => ?_) fun _ => hk
    · by_cases hb : b = a
      · exact .inr ⟨_, _, if_pos hb⟩
      · exact .inl (if_neg hb)
    · by_cases hb : b = a
      · have z' := (if_pos hb).symm.trans z
        cases z'
        subst hb
        exact ⟨ha, by rw [List.length_map]; exact hl, vs, _, rv, ha⟩
      · have z' := (if_neg hb).symm.trans z
        cases z'
    · by_cases hb : b = a
      · exact hb
      · exact absurd (if_neg hb) z
end L2

namespace L2
open PySem PySem.Spec PyProof.Rows

abbrev KOf {K : PySem.W.Frag} {h : Heap} (_ : K.In h) : PySem.W.Frag := K

/-- the goal that k_head leaves (case hc), from the law's promise. F gives the function object fd (K's own) once, then the promise over every base -/
theorem walk_of {l : PySem.W.OpenLaw} {n k : Nat} {q : Program} {loose : List Str} {XP : (Str → Option Value) → Heap → Prop} {YP : World → Heap → Prop} {d : DefRec} {K : Params → PySem.W.Frag} {CX : World → CXT} {sp : World → Sp} {x : Str}
    (hn : l.most = some n) (hn2 : n ≤ sizeLine) (hdf : d.params.defaults = []) (hr : Room k callerA)
    (hY : ∀ (w : World) (h : Heap), YP w h → (K w.params).In h)
    (F : ∀ (w : World) (mg : Str → Option Value) (fa : Addr) (h : Heap), (K w.params).In h → h.Ns mainGlobals mg → mg d.name = some (.ref fa) →
      ∃ fd : FuncData, (∀ (s : Shared) (u : Value), BindsTo s fd ⟨[u], []⟩ [(x, u)]) ∧
        ∀ base : Heap, (K w.params).In base → base.Ns mainGlobals mg → FnOk l.prog w (K w.params) mg base (CX w) k fa fd [x] (sp w))
    (hsp : ∀ (w : World) (H : Hp) (a : Addr) (ns : List Int), ns.length ≤ n → Only H → SqL (K w.params) H a (ns.map V.int) → sp w [.ref a] H (fun v _ => v = .bl true) fun _ _ _ => False)
    (hCX : ∀ (w : World) (H : Hp) (s : Shared) (e : Value) (s' : Shared), CX w [] H s (fun _ _ _ => False) e s' → False) :
    PySem.W.WalkO q loose XP YP l.row.toRowW d [] (fun f vs => PySem.call f vs) := by
  refine Att.attach_call hn hdf fun w s₀ s₁ mg mb fa o pm cd doc a vs ns G Y ho hd hcd hmg hobj hints hlen hg => ?_
  have KX := hY w _ Y
  obtain ⟨fd, hb, hF⟩ := F w mg fa _ KX G.T.g hmg
  exact law_call KX G.T.g G.T.b G.T.builtins G.T.nolimit hg hobj hints (Nat.le_trans hlen hn2) hr hF hb (fun H hO hS => hsp w H a ns hlen hO hS) fun H e s' => hCX w H s₁ e s'
end L2

/- THE LAST THEOREM (shape; LID, My.* are yours):
   My.Adr: a structure of the addresses that your layer names (classes, functions); My.Txt K t: a structure (Prop) of the equations over K;
   My.txt_mk : {K} {implicit addresses ..} (e1 : nsIn K mainGlobals "law" = some (some (.ref f))) (e2 : K.lookup f = some ⟨oc, od, .func (fnOf "law" "law" params body scope dV kV doc pm an cdv ct), sl⟩) (e3 : codeIn K cdv "law" = true) .. : ∃ t, My.Txt K t

set_option maxRecDepth 100000 in
set_option maxHeartbeats 0 in
theorem PySem.Challenge.cw_LID_holds : PySem.Challenge.rw_LID.Holds := by
  w_on; o_law; k_head; (case hw => w_witness2)
  k_fill
  refine L2.walk_of (l := PySem.Challenge.rw_LID) (n := 63) (k := 40) (x := "script") (CX := fun w => ..) (sp := fun _ => My.sp_law) rfl (by decide) rfl ⟨rfl, by decide, by decide⟩ (fun w h Y => PySem.W.kIn_of Y) ?F ?S ?C
  case F =>
    intro w mg fa h KX G hmg
    have T : ∃ t, My.Txt (L2.KOf KX) t := by
      dsimp only [L2.KOf]                          -- K must stand as «<heap const> w.params» for k_is
      refine' My.txt_mk ?e1 ?e2 ?e3 ..
      (case e1 => PySem.W.k_is)                    -- in the order: a name -> its address -> its object -> its parts
      (case e2 => PySem.W.k_is)
      ..
    obtain ⟨t, T⟩ := T
    have e0 := hmg.symm.trans (PySem.W.mg_of KX G T.law)
    cases e0                                       -- fa is the law's own address
    exact ⟨_, fun s u => .of_eq rfl, fun base kb nb => My.law_fn T kb nb⟩     -- if «.of_eq rfl» comes too early: refine' ⟨_, ?b, fun base kb nb => My.law_fn T kb nb⟩; exact fun s u => .of_eq rfl
  case S => exact fun w H a ns hl hO hS => ..
  case C => exact ..
(the tactic k_is has no namespace: write k_is) -/

/-! SHORT WORDS over the layer: a def of the text, its body, what a loop and a test want. -/
namespace L2
open PySem PySem.Spec PyProof.Rows

/-! ### the text by places -/
/-- the j-th statement of a class's body -/
def inClass (s : Stmt) (j : Nat) : Stmt := match s with
  | .ClassDef _ _ _ body _ _ _ _ _ _ _ => body.getD j (.Pass ⟨0, 0, 0, 0⟩)
  | _ => .Pass ⟨0, 0, 0, 0⟩
def defArgs (s : Stmt) : Arguments := match s with
  | .FunctionDef _ a _ _ _ _ _ _ _ _ => a
  | _ => { posonlyargs := [], args := [], vararg := none, kwonlyargs := [], kw_defaults := [], kwarg := none, defaults := [] }
def defBody (s : Stmt) : List Stmt := match s with
  | .FunctionDef _ _ b _ _ _ _ _ _ _ => b
  | _ => []
def defScope (s : Stmt) : Scope := match s with
  | .FunctionDef _ _ _ _ _ _ sc _ _ _ => sc
  | _ => { kind := .function, names := [], isGenerator := false, isCoroutine := false }

/-! ### no exception leaves a def -/
abbrev CX0 : CXT := fun _ _ _ _ _ _ => False
abbrev E0 : XK := fun _ _ _ => False
theorem pass0 {X : Cx} : Passes CX0 X E0 := fun _ _ _ _ _ _ _ h => h.elim

/-! ### a def (or method) of the text as it stands behind the top -/
structure Fun (K : PySem.W.Frag) (x qual : Str) (st : Stmt) (f : Addr) (fd : FuncData) : Prop where
  ex : ∃ (oc : Value) (od : Option Addr) (kV doc pm : Value) (an : Option Addr) (cdv ct : Value) (osl : Array (Option Value)),
    fd = PySem.W.fnOf x qual (defArgs st) (defBody st) (defScope st) .none kV doc pm an cdv ct ∧ K.lookup f = some ⟨oc, od, .func fd, osl⟩ ∧ PySem.W.codeIn K cdv qual = true
  kp : PySem.W.keepIn K (.ref f) = true
section
variable {P : Program} {w : World} {K : PySem.W.Frag} {mg : Str → Option Value} {base : Heap}
/-- THE RULE for a def: its body as a term of rules, and the reading of that term -/
theorem Fun.ok {x qual : Str} {st : Stmt} {f : Addr} {fd : FuncData} {N ps : List Str} {k : Nat} {sp : Sp} (F : Fun K x qual st f fd) (S : FnScope N ps (defScope st)) (len : ∀ vs H Q E, sp vs H Q E → vs.length = ps.length)
    (hbody : ∀ (cdv : Value) (A : Around) (outer : List Env) (s : Shared) (H : Hp) (vs : List V) (Q : VK) (E : XK), Room k (A.deeper (envOfC qual (defScope st) s.heap.objs.size f cdv)) → sp vs H Q E →
      ∃ t, PSs (cxOf CX0 P w K mg base N qual (defScope st) f cdv A outer s H E).nox (defBody st) t ∧ t { nx := fun _ H' => Q .non H', rt := Q } (start N vs) H) : FnOk P w K mg base CX0 (k + 1) f fd ps sp := by
  obtain ⟨oc, od, kV, doc, pm, an, cdv, ct, osl, rfl, lk, hcd⟩ := F.ex
  refine fn_of lk hcd S len fun A outer s H vs Q E hr hsp => ?_
  obtain ⟨t, h, q⟩ := hbody cdv A outer s H vs Q E hr hsp
  exact ⟨t, h.nox, q⟩
/-- how its arguments bind (no defaults): h is «fun _ _ _ _ _ _ us hl => match us, hl with | [_, _], _ => rfl», one _ a parameter -/
theorem Fun.binds {x qual : Str} {st : Stmt} {f : Addr} {fd : FuncData} {ps : List Str} (F : Fun K x qual st f fd)
    (h : ∀ (kV doc pm : Value) (an : Option Addr) (cdv ct : Value) (us : List Value), us.length = ps.length → bindArgs (PySem.W.fnOf x qual (defArgs st) (defBody st) (defScope st) .none kV doc pm an cdv ct) ⟨us, []⟩ = pure (ps.zip us)) : Binds K fd ps [] := by
  obtain ⟨oc, od, kV, doc, pm, an, cdv, ct, osl, rfl, lk, hcd⟩ := F.ex
  exact .all (h kV doc pm an cdv ct)
theorem fun_mk {x qual : Str} {st : Stmt} {f : Addr} {oc : Value} {od an : Option Addr} {osl : Array (Option Value)} {kV doc pm cdv ct : Value} (l : K.lookup f = some ⟨oc, od, .func (PySem.W.fnOf x qual (defArgs st) (defBody st) (defScope st) .none kV doc pm an cdv ct), osl⟩)
    (c : PySem.W.codeIn K cdv qual = true) (k : PySem.W.keepIn K (.ref f) = true) : Fun K x qual st f (PySem.W.fnOf x qual (defArgs st) (defBody st) (defScope st) .none kV doc pm an cdv ct) := ⟨⟨oc, od, kV, doc, pm, an, cdv, ct, osl, rfl, l, c⟩, k⟩
end
theorem hu_of {A : Around} {k : Nat} (hr : Room k A) : A.units + 1 < cLine := Nat.lt_of_le_of_lt (Nat.add_le_add_left (by decide : 1 ≤ 64) _) hr.units
/-! ### expressions in short: the name that stands in the i-th slot -/
section
variable {X : Cx}
theorem pv (i : Nat) {x : Str} {pos : Pos} (hN : X.N[i]? = some x := by rfl) (hv : Vis X.env.scope x := by first | exact Or.inl rfl | exact Or.inr (Or.inl rfl) | exact Or.inr (Or.inr rfl)) (hd : (x == ("__debug__" : Str)) = false := by decide)
    (hcd : (x == ("__classdict__" : Str)) = false := by decide) : PE X (.Name x pos) (tVar i) := pe_var hN hv hd hcd
end

/-! ### tests -/
theorem iteF {A B : Prop} (h : B) : if false = true then A else B := by
  rw [if_neg Bool.false_ne_true]
  exact h
theorem iteT {A B : Prop} (h : A) : if true = true then A else B := by
  rw [if_pos rfl]
  exact h
theorem iteNS {c A B : Prop} [Decidable c] (hc : c) (h : B) : if (!decide c) = true then A else B := by
  rw [decide_eq_true hc]
  exact iteF h

/-! ### heaps -/
/-- all that was tracked is as it was -/
def Same (H H' : Hp) : Prop := ∀ b o, H b = some o → H' b = some o
theorem Same.refl (H : Hp) : Same H H := fun _ _ h => h
theorem Same.trans {H H1 H2 : Hp} (a : Same H H1) (b : Same H1 H2) : Same H H2 := fun c o h => b c o (a c o h)
theorem Same.free {H H' : Hp} (e : Same H H') {l : Addr} (h : H' l = Option.none) : H l = Option.none := by
  cases q : H l with
  | none => rfl
  | some o =>
    rw [e l o q] at h
    cases h
theorem Same.seq {K : PySem.W.Frag} {H H' : Hp} {a : Addr} {xs : List V} (e : Same H H') (h : SqL K H a xs) : SqL K H' a xs := by
  rcases h with (h | ⟨o, h⟩) | h
  · exact .inl (.inl (e _ _ h))
  · exact .inl (.inr ⟨o, e _ _ h⟩)
  · exact .inr h

/-! ### a dict's pairs: keys that differ -/
section
variable {κ : Type} [DecidableEq κ]
end
/-! ### lists -/
/-- a new instance and its __init__ leave all that was tracked as it was -/
theorem Same.made {H H1 : Hp} {x dx C : Addr} (nx : H x = Option.none) (nd : H dx = Option.none) (k : ∀ b o, (upd (upd H dx (.own x)) x (.ins C dx [])) b = some o → b ≠ x → H1 b = some o) : Same H H1 := fun b o e =>
  k b o (by rw [upd_ne (ne_of_none e nx), upd_ne (ne_of_none e nd)]; exact e) (ne_of_none e nx)
end L2

section
set_option Elab.async false
set_option linter.all false
set_option maxRecDepth 100000
set_option maxHeartbeats 2000000
namespace L2
open PySem PySem.Spec PyProof.Rows
open PySem.W (WData Codec OpenSpec Well WellAll ReadsW ReadsAllW)
/-! ### an answer as data -/
mutual
/-- x stands for the datum d, lists and tuples all the way -/
inductive Dw (K : PySem.W.Frag) (H : Hp) : V → WData → Prop
  | non : Dw K H .non .none
  | bl (b : Bool) : Dw K H (.bl b) (.bool b)
  | int (i : Int) : Dw K H (.int i) (.int i)
  | str (x : Str) : Dw K H (.str x) (.str x)
  | byt (b : Array UInt8) : Dw K H (.byt b) (.bytes b.toList)
  | lst {a : Addr} {xs : List V} {ds : List WData} : SqL K H a xs → DwAll K H xs ds → Dw K H (.ref a) (.list ds)
  | tup {a : Addr} {xs : List V} {ds : List WData} : SqT K H a xs → DwAll K H xs ds → Dw K H (.ref a) (.tuple ds)
inductive DwAll (K : PySem.W.Frag) (H : Hp) : List V → List WData → Prop
  | nil : DwAll K H [] []
  | cons {v : V} {vs : List V} {d : WData} {ds : List WData} : Dw K H v d → DwAll K H vs ds → DwAll K H (v :: vs) (d :: ds)
end
theorem dw_ints {K : PySem.W.Frag} {H : Hp} : ∀ ns : List Int, DwAll K H (ns.map V.int) (ns.map WData.int)
  | [] => .nil
  | n :: r => .cons (.int n) (dw_ints r)
theorem ints_dw {K : PySem.W.Frag} {H : Hp} : ∀ (ns : List Int) (xs : List V), DwAll K H xs (ns.map WData.int) → xs = ns.map V.int
  | [], xs, h => by
    cases h
    rfl
  | n :: r, xs, h => by
    cases h with
    | cons h1 h2 =>
      cases h1
      rw [ints_dw r _ h2] <;> rfl
section
variable {P : Program} {w : World} {K : PySem.W.Frag} {H : Hp} {h : Heap} {R : PySem.W.WRecords} {cl : Str → Option Addr}
theorem sqL_at {a : Addr} {xs : List V} (hok : HOk P w H h) (KX : K.In h) (q : SqL K H a xs) : ∃ (its : List Value) (o : Obj) (n : Nat), Vals xs its ∧ h.get? a = some o ∧ o.cls = .type "list" ∧ o.data = .seq its.toArray n := by
  rcases q with q | ⟨o, its, n, e, hc, _, hd, _, hv⟩
  · obtain ⟨_, its, n, hv, e⟩ := (show ObjOk P w H h a (.lst xs) from q.ok hok)
    exact ⟨its, _, n, hv, e, rfl, rfl⟩
  · exact ⟨its.toList, o, n, hv, KX _ _ e, hc, by simp [hd]⟩
theorem sqT_at {a : Addr} {xs : List V} (hok : HOk P w H h) (KX : K.In h) (q : SqT K H a xs) : ∃ (its : List Value) (o : Obj) (n : Nat), Vals xs its ∧ h.get? a = some o ∧ o.cls = .type "tuple" ∧ o.data = .seq its.toArray n := by
  rcases q with q | ⟨o, its, n, e, hc, hd, _, hv⟩
  · obtain ⟨_, its, hv, o, e, hc, n, hd⟩ := (show ObjOk P w H h a (.tup xs) from q.ok hok)
    exact ⟨its, o, n, hv, e, hc, hd⟩
  · exact ⟨its.toList, o, n, hv, KX _ _ e, hc, by simp [hd]⟩
mutual
theorem Dw.reads (hok : HOk P w H h) (KX : K.In h) : ∀ (d : WData) (v : V) (u : Value), Dw K H v d → RelV v u → ∃ as, ReadsW R cl h u d as
  | .none, _, _, x, r => by
    cases x
    cases r
    exact ⟨_, ReadsW.none⟩
  | .bool b, _, _, x, r => by
    cases x
    cases r
    exact ⟨_, ReadsW.bool b⟩
  | .int i, _, _, x, r => by
    cases x
    obtain ⟨t, rfl⟩ := r
    exact ⟨_, ReadsW.int i t⟩
  | .str s, _, _, x, r => by
    cases x
    obtain ⟨t, rfl⟩ := r
    exact ⟨_, ReadsW.str s t⟩
  | .bytes b, _, _, x, r => by
    cases x
    obtain ⟨t, rfl⟩ := r
    exact ⟨_, ReadsW.bytes _ t⟩
  | .list ds, _, _, x, r => by
    cases x with
    | lst hs ha =>
      cases r
      obtain ⟨its, o, n, rv, ho, hc, hd⟩ := sqL_at hok KX hs
      obtain ⟨as, hr⟩ := Dw.readsAll hok KX ds _ its ha rv
      exact ⟨_, ReadsW.list ho hc hd hr⟩
  | .tuple ds, _, _, x, r => by
    cases x with
    | tup hs ha =>
      cases r
      obtain ⟨its, o, n, rv, ho, hc, hd⟩ := sqT_at hok KX hs
      obtain ⟨as, hr⟩ := Dw.readsAll hok KX ds _ its ha rv
      exact ⟨_, ReadsW.tuple ho hc hd hr⟩
  | .float _, _, _, x, _ => by cases x
  | .dict _, _, _, x, _ => by cases x
  | .bytearray _, _, _, x, _ => by cases x
  | .set _, _, _, x, _ => by cases x
  | .frozenset _, _, _, x, _ => by cases x
  | .obj _ _, _, _, x, _ => by cases x
theorem Dw.readsAll (hok : HOk P w H h) (KX : K.In h) : ∀ (ds : List WData) (vs : List V) (us : List Value), DwAll K H vs ds → Vals vs us → ∃ as, ReadsAllW R cl h us ds as
  | [], _, _, x, r => by
    cases x
    cases r
    exact ⟨_, ReadsAllW.nil⟩
  | d :: ds, _, _, x, r => by
    cases x with
    | cons h1 h2 =>
      cases r with
      | cons r1 r2 =>
        obtain ⟨as, q1⟩ := Dw.reads hok KX d _ _ h1 r1
        obtain ⟨bs, q2⟩ := Dw.readsAll hok KX ds _ _ h2 r2
        exact ⟨_, ReadsAllW.cons q1 q2⟩
end
end
/-! ### the arguments -/
mutual
/-- data that a codec tells -/
def plW : WData → Bool
  | .none => true
  | .bool _ => true
  | .int _ => true
  | .str _ => true
  | .bytes _ => true
  | .list xs => plWs xs
  | .tuple xs => plWs xs
  | _ => false
def plWs : List WData → Bool
  | [] => true
  | x :: r => plW x && plWs r
end
theorem plWs_map {α : Type} {f : α → WData} (h : ∀ a, plW (f a) = true) : ∀ l : List α, plWs (l.map f) = true
  | [] => rfl
  | x :: r => by
    show (plW (f x) && plWs (r.map f)) = true
    rw [h x, plWs_map h r] <;> rfl
theorem pl_enc : ∀ (c : Codec) (a : c.denote), plW (c.enc a) = true
  | .unit, _ => rfl
  | .bool, _ => rfl
  | .int _ _, _ => rfl
  | .nat _ _, _ => rfl
  | .u8, _ => rfl
  | .bytes _ _, _ => rfl
  | .text _ _ _ _, _ => rfl
  | .list _ _ c, a => plWs_map (fun x => pl_enc c x) a
  | .pair c d, a => by
    show (plW (c.enc a.1) && (plW (d.enc a.2) && true)) = true
    rw [pl_enc c a.1, pl_enc d a.2] <;> rfl
  | .triple c d e, a => by
    show (plW (c.enc a.1) && (plW (d.enc a.2.1) && (plW (e.enc a.2.2) && true))) = true
    rw [pl_enc c a.1, pl_enc d a.2.1, pl_enc e a.2.2] <;> rfl
  | .option c, none => rfl
  | .option c, some x => pl_enc c x
theorem pl_encAll : ∀ (cs : List Codec) (a : Codec.denoteAll cs), plWs (Codec.encAll cs a) = true
  | [], _ => rfl
  | c :: cs, a => by
    show (plW (c.enc a.1) && plWs (Codec.encAll cs a.2)) = true
    rw [pl_enc c a.1, pl_encAll cs a.2] <;> rfl
theorem weight_mem : ∀ {xs : List WData} {d : WData}, d ∈ xs → d.weight ≤ WData.weightAll xs
  | [], d, h => absurd h (by simp)
  | x :: r, d, h => by
    show d.weight ≤ x.weight + 1 + WData.weightAll r
    rcases List.mem_cons.mp h with e | m
    · rw [e]
      omega
    · have z := weight_mem m
      omega
def toV : Value → V
  | .none => .non
  | .bool b => .bl b
  | .int i _ => .int i
  | .str x _ => .str x
  | .bytes b _ => .byt b
  | .ref a => .ref a
  | _ => .non
/-- a value of the arguments, its objects among A -/
def OkU (A : List Addr) : Value → Prop
  | .none => True
  | .bool _ => True
  | .int _ _ => True
  | .str _ _ => True
  | .bytes _ _ => True
  | .ref a => a ∈ A
  | _ => False
theorem OkU.mono {A B : List Addr} (h : ∀ a ∈ A, a ∈ B) : ∀ {u : Value}, OkU A u → OkU B u := fun {u} x => by
  cases u with
  | ref a => exact h a x
  | none => trivial
  | bool b => trivial
  | int i t => trivial
  | str s t => trivial
  | bytes b t => trivial
  | _ => exact False.elim x
theorem relV_toV {A : List Addr} {u : Value} (x : OkU A u) : RelV (toV u) u := by
  cases u with
  | ref a => rfl
  | none => rfl
  | bool b => rfl
  | int i t => exact ⟨t, rfl⟩
  | str s t => exact ⟨t, rfl⟩
  | bytes b t => exact ⟨t, rfl⟩
  | _ => exact False.elim x
theorem vals_toV {A : List Addr} : ∀ {vs : List Value}, (∀ u ∈ vs, OkU A u) → Vals (vs.map toV) vs
  | [], _ => .nil
  | u :: r, h => .cons (relV_toV (h u (List.mem_cons_self ..))) (vals_toV fun x hx => h x (List.mem_cons_of_mem _ hx))
/-- an object of the arguments -/
def ArgOb (h : Heap) (A : List Addr) (a : Addr) : Prop := ∃ vs : List Value, vs.length ≤ sizeLine ∧ (∀ u ∈ vs, OkU A u) ∧
  (h.get? a = some { cls := .type "list", data := .seq vs.toArray } ∨ h.get? a = some { cls := .type "tuple", data := .seq vs.toArray })
theorem ArgOb.mono {h : Heap} {A B : List Addr} {a : Addr} (k : ∀ a ∈ A, a ∈ B) (x : ArgOb h A a) : ArgOb h B a := by
  obtain ⟨vs, h1, h2, h3⟩ := x
  exact ⟨vs, h1, fun u hu => (h2 u hu).mono k, h3⟩
theorem wellAll_len {P : Params} {h : Heap} : ∀ {vs : List Value} {ds : List WData}, WellAll P h vs ds → vs.length = ds.length
  | _, _, .nil => rfl
  | _, _, .cons _ b => by
    show _ + 1 = _ + 1
    rw [wellAll_len b]
theorem well_list {P : Params} {h : Heap} {v : Value} {ds : List WData} (x : Well P h v (.list ds)) : ∃ (a : Addr) (vs : List Value), v = .ref a ∧ h.get? a = some { cls := .type "list", data := .seq vs.toArray } ∧ WellAll P h vs ds := by
  cases x with
  | list ho hall => exact ⟨_, _, rfl, ho, hall⟩
theorem well_tuple {P : Params} {h : Heap} {v : Value} {ds : List WData} (x : Well P h v (.tuple ds)) : ∃ (a : Addr) (vs : List Value), v = .ref a ∧ h.get? a = some { cls := .type "tuple", data := .seq vs.toArray } ∧ WellAll P h vs ds := by
  cases x with
  | tuple ho hall => exact ⟨_, _, rfl, ho, hall⟩
theorem well_cons {P : Params} {h : Heap} {us : List Value} {d : WData} {ds : List WData} (x : WellAll P h us (d :: ds)) : ∃ (v : Value) (vs : List Value), us = v :: vs ∧ Well P h v d ∧ WellAll P h vs ds := by
  cases x with
  | cons a b => exact ⟨_, _, rfl, a, b⟩
theorem line_of {n : Nat} (h : n ≤ 1048576) : n ≤ sizeLine := Nat.le_trans h (by decide)
section
variable {P : Params} {h : Heap}
mutual
theorem area_one : ∀ (d : WData) (v : Value), Well P h v d → plW d = true → d.weight ≤ 1048576 → ∃ A : List Addr, OkU A v ∧ ∀ a ∈ A, ArgOb h A a
  | .none, _, x, _, _ => by
    cases x
    exact ⟨[], trivial, fun a m => absurd m (by simp)⟩
  | .bool b, _, x, _, _ => by
    cases x
    exact ⟨[], trivial, fun a m => absurd m (by simp)⟩
  | .int i, _, x, _, _ => by
    cases x
    exact ⟨[], trivial, fun a m => absurd m (by simp)⟩
  | .str s, _, x, _, _ => by
    cases x
    exact ⟨[], trivial, fun a m => absurd m (by simp)⟩
  | .bytes b, _, x, _, _ => by
    cases x
    exact ⟨[], trivial, fun a m => absurd m (by simp)⟩
  | .list ds, _, x, p, z => by
    obtain ⟨a, vs, rfl, ho, hall⟩ := well_list x
    have z2 : WData.weightAll ds ≤ 1048576 := z
    obtain ⟨A, h1, h2⟩ := area_all ds _ hall p fun d hd => Nat.le_trans (weight_mem hd) z2
    have k : ∀ b ∈ A, b ∈ a :: A := fun b hb => List.mem_cons_of_mem _ hb
    refine ⟨a :: A, List.mem_cons_self .., fun b hb => ?_⟩
    rcases List.mem_cons.mp hb with e | m
    · rw [e]
      exact ⟨vs, line_of (by rw [wellAll_len hall]; exact Nat.le_trans (PySem.W.length_le_weightAllW ds) z2), fun u hu => (h1 u hu).mono k, .inl ho⟩
    · exact (h2 b m).mono k
  | .tuple ds, _, x, p, z => by
    obtain ⟨a, vs, rfl, ho, hall⟩ := well_tuple x
    have z2 : WData.weightAll ds ≤ 1048576 := z
    obtain ⟨A, h1, h2⟩ := area_all ds _ hall p fun d hd => Nat.le_trans (weight_mem hd) z2
    have k : ∀ b ∈ A, b ∈ a :: A := fun b hb => List.mem_cons_of_mem _ hb
    refine ⟨a :: A, List.mem_cons_self .., fun b hb => ?_⟩
    rcases List.mem_cons.mp hb with e | m
    · rw [e]
      exact ⟨vs, line_of (by rw [wellAll_len hall]; exact Nat.le_trans (PySem.W.length_le_weightAllW ds) z2), fun u hu => (h1 u hu).mono k, .inr ho⟩
    · exact (h2 b m).mono k
  | .float _, _, _, p, _ => Bool.noConfusion (show false = true from p)
  | .dict _, _, _, p, _ => Bool.noConfusion (show false = true from p)
  | .bytearray _, _, _, p, _ => Bool.noConfusion (show false = true from p)
  | .set _, _, _, p, _ => Bool.noConfusion (show false = true from p)
  | .frozenset _, _, _, p, _ => Bool.noConfusion (show false = true from p)
  | .obj _ _, _, _, p, _ => Bool.noConfusion (show false = true from p)
theorem area_all : ∀ (ds : List WData) (vs : List Value), WellAll P h vs ds → plWs ds = true → (∀ d ∈ ds, d.weight ≤ 1048576) → ∃ A : List Addr, (∀ u ∈ vs, OkU A u) ∧ ∀ a ∈ A, ArgOb h A a
  | [], _, x, _, _ => by
    cases x
    exact ⟨[], fun u m => absurd m (by simp), fun a m => absurd m (by simp)⟩
  | d :: ds, _, x, p, z => by
    obtain ⟨v, vs, rfl, x1, x2⟩ := well_cons x
    have q : plW d = true ∧ plWs ds = true := Bool.and_eq_true_iff.mp p
    obtain ⟨A, a1, a2⟩ := area_one d v x1 q.1 (z d (List.mem_cons_self ..))
    obtain ⟨B, b1, b2⟩ := area_all ds vs x2 q.2 fun e he => z e (List.mem_cons_of_mem _ he)
    have kA : ∀ b ∈ A, b ∈ A ++ B := fun b hb => List.mem_append.mpr (.inl hb)
    have kB : ∀ b ∈ B, b ∈ A ++ B := fun b hb => List.mem_append.mpr (.inr hb)
    refine ⟨A ++ B, fun u hu => ?_, fun b hb => ?_⟩
    · rcases List.mem_cons.mp hu with e | m
      · rw [e]
        exact a1.mono kA
      · exact (b1 u m).mono kB
    · rcases List.mem_append.mp hb with m | m
      · exact (a2 b m).mono kA
      · exact (b2 b m).mono kB
end
end
/-- what is tracked of an argument's object -/
def hoOf (o : Obj) : Option HO := match o.data with
  | .seq vs _ => if (o.cls == Value.type "list") = true then some (.frz o (.lst (vs.toList.map toV))) else some (.frz o (.tup (vs.toList.map toV)))
  | _ => none
def argH (K : PySem.W.Frag) (h : Heap) (A : List Addr) : Hp := fun b => if b ∈ A then (if (K.lookup b).isNone = true then (h.get? b).bind hoOf else none) else none
/-- nothing is tracked but what is known to the object -/
def OnlyF (H : Hp) : Prop := ∀ b, H b = none ∨ ∃ o u, H b = some (.frz o u)
theorem hoOf_lst (vs : List Value) : hoOf { cls := .type "list", data := .seq vs.toArray } = some (.frz { cls := .type "list", data := .seq vs.toArray } (.lst (vs.map toV))) := by
  show (if (Value.type "list" == Value.type "list") = true then some (HO.frz { cls := .type "list", data := .seq vs.toArray } (.lst (vs.toArray.toList.map toV))) else some (HO.frz { cls := .type "list", data := .seq vs.toArray } (.tup (vs.toArray.toList.map toV)))) = _
  rw [if_pos (beq_self_eq_true _)]
theorem hoOf_tup (vs : List Value) : hoOf { cls := .type "tuple", data := .seq vs.toArray } = some (.frz { cls := .type "tuple", data := .seq vs.toArray } (.tup (vs.map toV))) := by
  show (if (Value.type "tuple" == Value.type "list") = true then some (HO.frz { cls := .type "tuple", data := .seq vs.toArray } (.lst (vs.toArray.toList.map toV))) else some (HO.frz { cls := .type "tuple", data := .seq vs.toArray } (.tup (vs.toArray.toList.map toV)))) = _
  rw [if_neg (by decide)]
section
variable {P : Program} {w : World} {K : PySem.W.Frag} {h : Heap} {A : List Addr}
theorem argH_at {b : Addr} {o : Obj} (hb : b ∈ A) (hk : K.lookup b = none) (e : h.get? b = some o) : argH K h A b = hoOf o := by
  unfold argH
  rw [if_pos hb, hk, if_pos (show (none : Option Obj).isNone = true from rfl), e] <;> rfl
theorem of_argH {b : Addr} {u : HO} (q : argH K h A b = some u) : b ∈ A ∧ K.lookup b = none := by
  unfold argH at q
  by_cases hb : b ∈ A
  · rw [if_pos hb] at q
    cases hk : K.lookup b with
    | none => exact ⟨hb, rfl⟩
    | some o =>
      rw [hk, if_neg (by simp)] at q
      cases q
  · rw [if_neg hb] at q
    cases q
/-- what stands tracked -/
theorem argH_is (ar : ∀ a ∈ A, ArgOb h A a) {b : Addr} {u : HO} (q : argH K h A b = some u) : K.lookup b = none ∧ ∃ vs : List Value, vs.length ≤ sizeLine ∧ (∀ u ∈ vs, OkU A u) ∧
    ((h.get? b = some { cls := .type "list", data := .seq vs.toArray } ∧ u = .frz { cls := .type "list", data := .seq vs.toArray } (.lst (vs.map toV))) ∨
     (h.get? b = some { cls := .type "tuple", data := .seq vs.toArray } ∧ u = .frz { cls := .type "tuple", data := .seq vs.toArray } (.tup (vs.map toV)))) := by
  obtain ⟨hb, hk⟩ := of_argH q
  obtain ⟨vs, h1, h2, h3⟩ := ar b hb
  refine ⟨hk, vs, h1, h2, ?_⟩
  rcases h3 with e | e
  · rw [argH_at hb hk e, hoOf_lst] at q
    exact .inl ⟨e, (Option.some.inj q).symm⟩
  · rw [argH_at hb hk e, hoOf_tup] at q
    exact .inr ⟨e, (Option.some.inj q).symm⟩
theorem argH_only (ar : ∀ a ∈ A, ArgOb h A a) : OnlyF (argH K h A) := fun b => by
  cases q : argH K h A b with
  | none => exact .inl rfl
  | some u =>
    obtain ⟨_, vs, _, _, ⟨_, e⟩ | ⟨_, e⟩⟩ := argH_is ar q
    · exact .inr ⟨_, _, by rw [e]⟩
    · exact .inr ⟨_, _, by rw [e]⟩
theorem argH_ok (ar : ∀ a ∈ A, ArgOb h A a) : HOk P w (argH K h A) h := fun b u q => by
  obtain ⟨_, vs, h1, h2, ⟨e, rfl⟩ | ⟨e, rfl⟩⟩ := argH_is ar q
  · exact ⟨e, by rw [List.length_map]; exact h1, vs, _, vals_toV h2, e⟩
  · exact ⟨e, by rw [List.length_map]; exact h1, vs, vals_toV h2, _, e, rfl, _, rfl⟩
theorem seq_inj {c c' : Value} {vs us : List Value} (e : (some { cls := c, data := .seq vs.toArray } : Option Obj) = some { cls := c', data := .seq us.toArray }) : c = c' ∧ vs = us := by
  have e1 := Option.some.inj e
  have e2 : c = c' := congrArg Obj.cls e1
  have e3 : Data.seq vs.toArray = Data.seq us.toArray := congrArg Obj.data e1
  injection e3 with e4
  refine ⟨e2, ?_⟩
  have e5 := congrArg Array.toList e4
  simpa using e5
/-- a list argument -/
theorem argL (KX : K.In h) (ar : ∀ a ∈ A, ArgOb h A a) {a : Addr} {vs : List Value} (ha : a ∈ A) (e : h.get? a = some { cls := .type "list", data := .seq vs.toArray }) : (∀ u ∈ vs, OkU A u) ∧ SqL K (argH K h A) a (vs.map toV) := by
  obtain ⟨us, h1, h2, h3⟩ := ar a ha
  have hu : us = vs := by
    rcases h3 with q | q
    · rw [e] at q
      exact (seq_inj q).2.symm
    · rw [e] at q
      exact absurd (Value.type.inj (seq_inj q).1) (by decide)
  subst hu
  refine ⟨h2, ?_⟩
  cases hk : K.lookup a with
  | none => exact .inl (.inr ⟨_, by rw [argH_at ha hk e, hoOf_lst]⟩)
  | some o =>
    have e2 := KX a o hk
    rw [e] at e2
    obtain rfl := Option.some.inj e2
    exact .inr ⟨_, us.toArray, _, hk, rfl, rfl, rfl, by rw [List.size_toArray]; exact h1, by simpa using vals_toV h2⟩
theorem argT (KX : K.In h) (ar : ∀ a ∈ A, ArgOb h A a) {a : Addr} {vs : List Value} (ha : a ∈ A) (e : h.get? a = some { cls := .type "tuple", data := .seq vs.toArray }) : (∀ u ∈ vs, OkU A u) ∧ SqT K (argH K h A) a (vs.map toV) := by
  obtain ⟨us, h1, h2, h3⟩ := ar a ha
  have hu : us = vs := by
    rcases h3 with q | q
    · rw [e] at q
      exact absurd (Value.type.inj (seq_inj q).1) (by decide)
    · rw [e] at q
      exact (seq_inj q).2.symm
  subst hu
  refine ⟨h2, ?_⟩
  cases hk : K.lookup a with
  | none => exact .inl (.inr ⟨_, by rw [argH_at ha hk e, hoOf_tup]⟩)
  | some o =>
    have e2 := KX a o hk
    rw [e] at e2
    obtain rfl := Option.some.inj e2
    exact .inr ⟨_, us.toArray, _, hk, rfl, rfl, by rw [List.size_toArray]; exact h1, by simpa using vals_toV h2⟩
mutual
theorem dw_one {Pm : Params} (KX : K.In h) (ar : ∀ a ∈ A, ArgOb h A a) : ∀ (d : WData) (v : Value), Well Pm h v d → plW d = true → OkU A v → Dw K (argH K h A) (toV v) d
  | .none, _, x, _, _ => by
    cases x
    exact .non
  | .bool b, _, x, _, _ => by
    cases x
    exact .bl b
  | .int i, _, x, _, _ => by
    cases x
    exact .int i
  | .str s, _, x, _, _ => by
    cases x
    exact .str s
  | .bytes b, _, x, _, _ => by
    cases x
    have z := Dw.byt (K := K) (H := argH K h A) b.toArray
    exact z
  | .list ds, _, x, p, hu => by
    obtain ⟨a, vs, rfl, ho, hall⟩ := well_list x
    obtain ⟨h2, hs⟩ := argL KX ar hu ho
    exact .lst hs (dw_all KX ar ds _ hall p h2)
  | .tuple ds, _, x, p, hu => by
    obtain ⟨a, vs, rfl, ho, hall⟩ := well_tuple x
    obtain ⟨h2, hs⟩ := argT KX ar hu ho
    exact .tup hs (dw_all KX ar ds _ hall p h2)
  | .float _, _, _, p, _ => Bool.noConfusion (show false = true from p)
  | .dict _, _, _, p, _ => Bool.noConfusion (show false = true from p)
  | .bytearray _, _, _, p, _ => Bool.noConfusion (show false = true from p)
  | .set _, _, _, p, _ => Bool.noConfusion (show false = true from p)
  | .frozenset _, _, _, p, _ => Bool.noConfusion (show false = true from p)
  | .obj _ _, _, _, p, _ => Bool.noConfusion (show false = true from p)
theorem dw_all {Pm : Params} (KX : K.In h) (ar : ∀ a ∈ A, ArgOb h A a) : ∀ (ds : List WData) (vs : List Value), WellAll Pm h vs ds → plWs ds = true → (∀ u ∈ vs, OkU A u) → DwAll K (argH K h A) (vs.map toV) ds
  | [], _, x, _, _ => by
    cases x
    exact .nil
  | d :: ds, _, x, p, hu => by
    obtain ⟨v, vs, rfl, x1, x2⟩ := well_cons x
    have q : plW d = true ∧ plWs ds = true := Bool.and_eq_true_iff.mp p
    exact .cons (dw_one KX ar d v x1 q.1 (hu _ (List.mem_cons_self ..))) (dw_all KX ar ds vs x2 q.2 fun u m => hu u (List.mem_cons_of_mem _ m))
end
end
/-! ### the call -/
/-! ### the row -/
theorem layable_weight {ds : List WData} (h : WData.layableAll ds = true) : ∀ d ∈ ds, d.weight ≤ 1048576 := fun d hd =>
  (PySem.W.layableW_iff.mp (List.all_eq_true.mp h d hd)).2.2
theorem encAll_len : ∀ (cs : List Codec) (a : Codec.denoteAll cs), (Codec.encAll cs a).length = cs.length
  | [], _ => rfl
  | c :: cs, a => by
    show (Codec.encAll cs a.2).length + 1 = cs.length + 1
    rw [encAll_len cs a.2]
end L2
-- rests on (row put in by the clerk, for the bench that shows a file only what it spells): KE.SpHead KE.OsShapes
end


section
set_option Elab.async false
set_option linter.all false
namespace Mt
open Km457

/-! ### sums -/
theorem foldl_add : ∀ (l : List Nat) (a : Nat), l.foldl (· + ·) a = a + l.foldl (· + ·) 0
  | [], a => by simp
  | x :: r, a => by
    simp only [List.foldl_cons]
    rw [foldl_add r (a + x), foldl_add r (0 + x)]
    omega
theorem sum_nil : Km457.sum [] = 0 := rfl
theorem sum_cons (x : Nat) (l : List Nat) : Km457.sum (x :: l) = x + Km457.sum l := by
  unfold Km457.sum
  rw [List.foldl_cons, foldl_add]
  omega
theorem sum_append : ∀ (l r : List Nat), Km457.sum (l ++ r) = Km457.sum l + Km457.sum r
  | [], r => by rw [List.nil_append, sum_nil]; omega
  | x :: l, r => by rw [List.cons_append, sum_cons, sum_cons, sum_append l r]; omega
theorem sum_ints : ∀ l : List Nat, ((Km457.sum l : Nat) : Int) = (l.map fun (x : Nat) => (x : Int)).sum
  | [] => rfl
  | x :: l => by rw [sum_cons, List.map_cons, List.sum_cons, ← sum_ints l]; omega
theorem sum_split (p : Nat → Bool) (g : Nat → Nat) : ∀ l : List Nat, Km457.sum ((l.filter p).map g) + Km457.sum ((l.filter fun x => !p x).map g) = Km457.sum (l.map g)
  | [] => rfl
  | x :: l => by
    have ih := sum_split p g l
    rw [List.map_cons, sum_cons]
    cases h : p x with
    | true => rw [List.filter_cons_of_pos h, List.filter_cons_of_neg (by simp [h]), List.map_cons, sum_cons]; omega
    | false => rw [List.filter_cons_of_neg (by simp [h]), List.filter_cons_of_pos (by simp [h]), List.map_cons, sum_cons]; omega
theorem sum_le {g : Nat → Nat} {b : Nat} : ∀ {l : List Nat}, (∀ x ∈ l, g x ≤ b) → Km457.sum (l.map g) ≤ l.length * b
  | [], _ => by simp [sum_nil]
  | x :: l, h => by
    have h1 := h x (List.mem_cons_self ..)
    have h2 := sum_le (g := g) (b := b) (l := l) fun y hy => h y (List.mem_cons_of_mem _ hy)
    rw [List.map_cons, sum_cons, List.length_cons, Nat.succ_mul]
    omega
theorem sum_pos {g : Nat → Nat} : ∀ {l : List Nat}, 0 < Km457.sum (l.map g) → 0 < l.length
  | [], h => by simp [sum_nil] at h
  | _ :: _, _ => by simp

/-! ### a valley as the program keeps it -/
structure WF (s : Valley) : Prop where
  pos : 0 < s.length
  le : s.length ≤ 12
  up : ∀ i, 0 < i → i < s.length → (at_ s i).up < i
  up0 : (at_ s 0).up = 0
  long0 : (at_ s 0).long = 0
  long : ∀ i, 0 < i → i < s.length → 1 ≤ (at_ s i).long ∧ (at_ s i).long ≤ 1000
  many : ∀ i, i < s.length → (at_ s i).many ≤ 1000
theorem WF.longle {s : Valley} (W : WF s) {i : Nat} (h : i < s.length) : (at_ s i).long ≤ 1000 := by
  by_cases e : i = 0
  · subst e; rw [W.long0]; omega
  · exact (W.long i (by omega) h).2
theorem WF.upl {s : Valley} (W : WF s) {i : Nat} (h : i < s.length) : (at_ s i).up ≤ i ∧ (at_ s i).up < s.length := by
  by_cases e : i = 0
  · subst e; rw [W.up0]; omega
  · have := W.up i (by omega) h; omega

/-! ### a village's line -/
section
variable {s : Valley} (W : WF s)
theorem lineGo_eq (W : WF s) : ∀ (f g v : Nat), v < s.length → v ≤ f → v ≤ g → lineGo s f v = lineGo s g v
  | 0, 0, v, _, _, _ => rfl
  | 0, g + 1, v, _, h, _ => by
    have e : v = 0 := by omega
    subst e
    show [0] = if 0 = 0 then [0] else _
    rw [if_pos rfl]
  | f + 1, 0, v, _, _, h => by
    have e : v = 0 := by omega
    subst e
    show (if 0 = 0 then [0] else _) = [0]
    rw [if_pos rfl]
  | f + 1, g + 1, v, hv, h1, h2 => by
    show (if v = 0 then [0] else v :: lineGo s f (at_ s v).up) = if v = 0 then [0] else v :: lineGo s g (at_ s v).up
    by_cases e : v = 0
    · rw [if_pos e, if_pos e]
    · have hu := W.up v (by omega) hv
      rw [if_neg e, if_neg e, lineGo_eq W f g (at_ s v).up (by omega) (by omega) (by omega)]
theorem line_zero (W : WF s) : line s 0 = [0] := by
  unfold line
  rw [lineGo_eq W s.length 0 0 W.pos (Nat.zero_le _) (Nat.le_refl _)]
  rfl
theorem line_succ (W : WF s) {v : Nat} (h0 : 0 < v) (hv : v < s.length) : line s v = v :: line s (at_ s v).up := by
  have hu := W.up v h0 hv
  unfold line
  rw [lineGo_eq W s.length (s.length + 1) v hv (by omega) (by omega)]
  show (if v = 0 then [0] else v :: lineGo s s.length (at_ s v).up) = _
  rw [if_neg (by omega)]
/-- strong induction down the line -/
theorem down {M : Nat → Prop} (W : WF s) (z : M 0) (st : ∀ v, 0 < v → v < s.length → M (at_ s v).up → M v) : ∀ v, v < s.length → M v := by
  intro v
  induction v using Nat.strongRecOn with
  | _ v ih =>
    intro hv
    by_cases e : v = 0
    · subst e; exact z
    · have hu := W.up v (by omega) hv
      exact st v (by omega) hv (ih _ hu (by omega))
theorem line_le (W : WF s) : ∀ v, v < s.length → ∀ x ∈ line s v, x ≤ v := by
  refine down W ?_ fun v h0 hv ih x hx => ?_
  · intro x hx; rw [line_zero W] at hx; simp at hx; omega
  · rw [line_succ W h0 hv] at hx
    rcases List.mem_cons.mp hx with e | m
    · omega
    · have := ih x m; have := W.up v h0 hv; omega
theorem line_head (W : WF s) {v : Nat} (hv : v < s.length) : v ∈ line s v := by
  by_cases e : v = 0
  · subst e; rw [line_zero W]; simp
  · rw [line_succ W (by omega) hv]; simp
theorem line_root (W : WF s) : ∀ v, v < s.length → 0 ∈ line s v := by
  refine down W ?_ fun v h0 hv ih => ?_
  · rw [line_zero W]; simp
  · rw [line_succ W h0 hv]; exact List.mem_cons_of_mem _ ih
theorem line_lt (W : WF s) {v x : Nat} (hv : v < s.length) (hx : x ∈ line s v) : x < s.length := Nat.lt_of_le_of_lt (line_le W v hv x hx) hv
theorem line_len (W : WF s) : ∀ v, v < s.length → (line s v).length ≤ v + 1 := by
  refine down W ?_ fun v h0 hv ih => ?_
  · rw [line_zero W]; simp
  · rw [line_succ W h0 hv, List.length_cons]
    have := W.up v h0 hv; omega
theorem line_nodup (W : WF s) : ∀ v, v < s.length → (line s v).Nodup := by
  refine down W ?_ fun v h0 hv ih => ?_
  · rw [line_zero W]; simp
  · have hu := W.up v h0 hv
    rw [line_succ W h0 hv]
    refine List.nodup_cons.mpr ⟨fun m => ?_, ih⟩
    have := line_le W _ (by omega) v m
    omega
/-- a village of the line has its own line as the line's end -/
theorem line_up (W : WF s) : ∀ v, v < s.length → ∀ x ∈ line s v, 0 < x → (at_ s x).up ∈ line s v := by
  refine down W ?_ fun v h0 hv ih x hx h => ?_
  · intro x hx h; rw [line_zero W] at hx; simp at hx; omega
  · have hu := W.up v h0 hv
    rw [line_succ W h0 hv] at hx ⊢
    rcases List.mem_cons.mp hx with e | m
    · subst e; exact List.mem_cons_of_mem _ (line_head W (by omega))
    · exact List.mem_cons_of_mem _ (ih x m h)
theorem line_trans (W : WF s) {v : Nat} (hv : v < s.length) {y : Nat} : ∀ x, x < s.length → x ∈ line s v → y ∈ line s x → y ∈ line s v := by
  refine down W ?_ fun x h0 hx ih m hy => ?_
  · intro m hy; rw [line_zero W] at hy; simp at hy; subst hy; exact m
  · rw [line_succ W h0 hx] at hy
    rcases List.mem_cons.mp hy with e | q
    · subst e; exact m
    · exact ih (line_up W v hv x m h0) q
/-- of two villages of a line one is in the line of the other -/
theorem line_two (W : WF s) : ∀ v, v < s.length → ∀ x ∈ line s v, ∀ y ∈ line s v, x ≤ y → x ∈ line s y := by
  refine down W ?_ fun v h0 hv ih x hx y hy h => ?_
  · intro x hx y hy h; rw [line_zero W] at hx hy; simp at hx hy; subst hx; subst hy; rw [line_zero W]; simp
  · have hu := W.up v h0 hv
    have hx' := hx
    rw [line_succ W h0 hv] at hx hy
    rcases List.mem_cons.mp hy with e | m
    · subst e; exact hx'
    · rcases List.mem_cons.mp hx with e | m'
      · subst e
        have := line_le W _ (by omega) y m
        omega
      · exact ih x m' y m h
end

/-! ### how far -/
theorem find_congr {α : Type} {p q : α → Bool} : ∀ {l : List α}, (∀ x ∈ l, p x = q x) → l.find? p = l.find? q
  | [], _ => rfl
  | x :: l, h => by
    rw [List.find?_cons, List.find?_cons, h x (List.mem_cons_self ..), find_congr fun y hy => h y (List.mem_cons_of_mem _ hy)]
section
variable {s : Valley}
theorem meet_mem (W : WF s) {v w : Nat} (hv : v < s.length) (hw : w < s.length) : meet s v w ∈ line s v ∧ meet s v w ∈ line s w := by
  unfold meet
  cases e : (line s v).find? fun x => (line s w).contains x with
  | none =>
    have h := List.find?_eq_none.mp e 0 (line_root W v hv)
    have h2 := line_root W w hw
    simp [h2] at h
  | some x =>
    have h1 := List.mem_of_find?_eq_some e
    have h2 := List.find?_some e
    refine ⟨h1, ?_⟩
    simpa using h2
theorem meet_line (W : WF s) : ∀ v, v < s.length → ∀ x ∈ line s v, meet s v x = x := by
  refine down W ?_ fun v h0 hv ih x hx => ?_
  · intro x hx; rw [line_zero W] at hx; simp at hx; subst hx
    unfold meet; rw [line_zero W]; rfl
  · have hu := W.up v h0 hv
    have hx' := line_lt W hv hx
    unfold meet
    rw [line_succ W h0 hv] at hx ⊢
    rw [List.find?_cons]
    rcases List.mem_cons.mp hx with e | m
    · subst e
      have : (line s x).contains x = true := by simpa using line_head W hv
      rw [this]
      rfl
    · have hle := line_le W _ (show (at_ s v).up < s.length by omega) x m
      have : (line s x).contains v = false := by
        cases q : (line s x).contains v with
        | false => rfl
        | true =>
          have q' : v ∈ line s x := by simpa using q
          have := line_le W x hx' v q'
          omega
      rw [this]
      exact ih x m
theorem climb_self (W : WF s) {x : Nat} (hx : x < s.length) : climb s (line s x) x = 0 := by
  unfold climb
  by_cases e : x = 0
  · subst e; rw [line_zero W]; rfl
  · rw [line_succ W (by omega) hx, List.takeWhile_cons_of_neg (by simp)]; rfl
theorem far_line (W : WF s) {v x : Nat} (hv : v < s.length) (hx : x ∈ line s v) : far s v x = climb s (line s v) x := by
  unfold far
  rw [meet_line W v hv x hx, climb_self W (line_lt W hv hx)]
  omega
theorem far_up (W : WF s) {v x : Nat} (hv : v < s.length) (hx : x < s.length) (hn : x ∉ line s v) : 0 < x ∧ far s v x = far s v (at_ s x).up + (at_ s x).long := by
  have h0 : 0 < x := by
    cases x with
    | zero => exact absurd (line_root W v hv) hn
    | succ k => omega
  refine ⟨h0, ?_⟩
  have hu := W.up x h0 hx
  have e1 : meet s v x = meet s v (at_ s x).up := by
    unfold meet
    rw [line_succ W h0 hx]
    refine congrArg (·.getD 0) (find_congr fun y hy => ?_)
    have : y ≠ x := fun e => hn (e ▸ hy)
    simp [this]
  have hm := (meet_mem W hv hx).1
  have hne : x ≠ meet s v x := fun e => hn (e ▸ hm)
  unfold far
  rw [← e1, line_succ W h0 hx]
  have e2 : climb s (x :: line s (at_ s x).up) (meet s v x) = (at_ s x).long + climb s (line s (at_ s x).up) (meet s v x) := by
    unfold climb
    rw [List.takeWhile_cons_of_pos (by simp [hne]), List.map_cons, sum_cons]
  rw [e2]
  omega
/-- down v's line: how far each one's up is -/
theorem far_next (W : WF s) {v : Nat} (hv : v < s.length) {x : Nat} (hx : x ∈ line s v) (h0 : 0 < x) : far s v (at_ s x).up = far s v x + (at_ s x).long := by
  have key : ∀ v, v < s.length → ∀ x ∈ line s v, 0 < x → climb s (line s v) (at_ s x).up = climb s (line s v) x + (at_ s x).long := by
    refine down W ?_ fun v h1 hv ih x hx h0 => ?_
    · intro x hx h; rw [line_zero W] at hx; simp at hx; omega
    · have hu := W.up v h1 hv
      have hxl := line_lt W hv hx
      have hux := W.up x h0 hxl
      rw [line_succ W h1 hv] at hx ⊢
      have st : ∀ y, y ≠ v → climb s (v :: line s (at_ s v).up) y = (at_ s v).long + climb s (line s (at_ s v).up) y := fun y hy => by
        unfold climb
        rw [List.takeWhile_cons_of_pos (by simp; exact fun e => hy e.symm), List.map_cons, sum_cons]
      rcases List.mem_cons.mp hx with e | m
      · subst e
        rw [st _ (by omega), climb_self W (by omega)]
        have : climb s (x :: line s (at_ s x).up) x = 0 := by
          unfold climb
          rw [List.takeWhile_cons_of_neg (by simp)]; rfl
        rw [this]
        omega
      · have hle := line_le W _ (show (at_ s v).up < s.length by omega) x m
        rw [st _ (by omega), st _ (by omega), ih x m h0]
        omega
  rw [far_line W hv (line_up W v hv x hx h0), far_line W hv hx, key v hv x hx h0]
theorem far_self (W : WF s) {v : Nat} (hv : v < s.length) : far s v v = 0 := by
  rw [far_line W hv (line_head W hv), climb_self W hv]
end
end Mt

end
section
set_option Elab.async false
set_option linter.all false
namespace Mt
open Km457
section
variable {s : Valley}
theorem all_mem {x : Nat} : x ∈ all s ↔ x < s.length := by unfold all; exact List.mem_range
theorem map_at (g : Village → Nat) : (all s).map (fun x => g (at_ s x)) = s.map g := by
  unfold all
  apply List.ext_getElem?
  intro i
  rw [List.getElem?_map, List.getElem?_map]
  by_cases h : i < s.length
  · rw [List.getElem?_range h]
    have : at_ s i = s[i] := by unfold at_; rw [List.getD_eq_getElem?_getD, List.getElem?_eq_getElem h]; rfl
    rw [List.getElem?_eq_getElem h]
    show some (g (at_ s i)) = some (g s[i])
    rw [this]
  · rw [List.getElem?_eq_none (by simpa using h), List.getElem?_eq_none (by omega)]
    rfl
theorem total_all : total s = Km457.sum ((all s).map fun x => (at_ s x).many) := by
  unfold total
  rw [map_at fun x => x.many]

/-! ### beside, branches -/
theorem near_child (W : WF s) {v w : Nat} (hv : v < s.length) (hw : w < s.length) : near s v w = true ↔ v ≠ w ∧ ((at_ s v).up = w ∨ (at_ s w).up = v) := by
  unfold near
  have h1 := W.up v; have h2 := W.up w
  have h0 := W.up0
  simp only [Bool.or_eq_true, Bool.and_eq_true, bne_iff_ne, beq_iff_eq]
  constructor
  · rintro (⟨a, b⟩ | ⟨a, b⟩)
    · have := h2 (by omega) hw
      exact ⟨by omega, .inr b⟩
    · have := h1 (by omega) hv
      exact ⟨by omega, .inl b⟩
  · rintro ⟨a, b | b⟩
    · by_cases e : v = 0
      · subst e; rw [h0] at b; exact absurd b a
      · exact .inr ⟨e, b⟩
    · by_cases e : w = 0
      · subst e; rw [h0] at b; exact absurd b.symm a
      · exact .inl ⟨e, b⟩
/-- w is v's child -/
def Child (s : Valley) (v w : Nat) : Prop := 0 < w ∧ w < s.length ∧ (at_ s w).up = v
theorem near_iff (W : WF s) {v w : Nat} (hv : v < s.length) (hw : w < s.length) : near s v w = true ↔ Child s v w ∨ Child s w v := by
  unfold near Child
  simp only [Bool.or_eq_true, Bool.and_eq_true, bne_iff_ne, beq_iff_eq]
  constructor
  · rintro (⟨a, b⟩ | ⟨a, b⟩)
    · exact .inl ⟨by omega, hw, b⟩
    · exact .inr ⟨by omega, hv, b⟩
  · rintro (⟨a, _, b⟩ | ⟨a, _, b⟩)
    · exact .inl ⟨by omega, b⟩
    · exact .inr ⟨by omega, b⟩
theorem Child.lt (W : WF s) {v w : Nat} (c : Child s v w) : v < w := by
  have := W.up w c.1 c.2.1
  rw [c.2.2] at this; exact this
theorem beyond_down (W : WF s) {v w : Nat} (c : Child s v w) : beyond s v w = (all s).filter fun x => (line s x).contains w := by
  unfold beyond
  refine List.filter_congr fun x _ => ?_
  rw [if_pos ⟨c.2.2, by have := c.1; omega⟩]
theorem beyond_up (W : WF s) {v w : Nat} (c : Child s w v) : beyond s v w = (all s).filter fun x => !(line s x).contains v := by
  unfold beyond
  refine List.filter_congr fun x _ => ?_
  rw [if_neg]
  rintro ⟨a, b⟩
  have h1 := c.lt W
  have h2 := W.up w (by omega) (by have := c.2.1; omega)
  omega
theorem branch_both (W : WF s) {v w : Nat} (hv : v < s.length) (hw : w < s.length) (hn : near s v w = true) : branch s v w + branch s w v = total s := by
  rw [total_all]
  unfold branch
  rcases (near_iff W hv hw).mp hn with c | c
  · rw [beyond_down W c, beyond_up W c]
    exact sum_split _ _ _
  · rw [beyond_up W c, beyond_down W c, Nat.add_comm]
    exact sum_split _ _ _
theorem near_comm {v w : Nat} : near s v w = near s w v := by
  unfold near; rw [Bool.or_comm]
theorem beyond_mem {v w x : Nat} (h : x ∈ beyond s v w) : x < s.length := by
  unfold beyond at h
  exact all_mem.mp (List.mem_filter.mp h).1
theorem filter_lt {p q : Nat → Bool} : ∀ {l : List Nat} {z : Nat}, (∀ x ∈ l, p x = true → q x = true) → z ∈ l → p z = false → q z = true → (l.filter p).length < (l.filter q).length
  | [], z, _, hz, _, _ => by simp at hz
  | a :: l, z, h, hz, hp, hq => by
    have hl : ∀ x ∈ l, p x = true → q x = true := fun x hx => h x (List.mem_cons_of_mem _ hx)
    have le : (l.filter p).length ≤ (l.filter q).length := by
      clear hz
      induction l with
      | nil => simp
      | cons b l ih =>
        have ih := ih (fun x hx => h x ((List.mem_cons.mp hx).elim (fun e => e ▸ List.mem_cons_self ..) fun m => List.mem_cons_of_mem _ (List.mem_cons_of_mem _ m))) (fun x hx => hl x (List.mem_cons_of_mem _ hx))
        cases e : p b with
        | true => rw [List.filter_cons_of_pos e, List.filter_cons_of_pos (hl b (List.mem_cons_self ..) e)]; simp; exact ih
        | false =>
          rw [List.filter_cons_of_neg (by simp [e])]
          cases e2 : q b with
          | true => rw [List.filter_cons_of_pos e2, List.length_cons]; omega
          | false => rw [List.filter_cons_of_neg (by simp [e2])]; exact ih
    rcases List.mem_cons.mp hz with e | m
    · subst e
      rw [List.filter_cons_of_neg (by simp [hp]), List.filter_cons_of_pos hq, List.length_cons]
      omega
    · have ih := filter_lt hl m hp hq
      cases e : p a with
      | true => rw [List.filter_cons_of_pos e, List.filter_cons_of_pos (h a (List.mem_cons_self ..) e), List.length_cons, List.length_cons]; omega
      | false =>
        rw [List.filter_cons_of_neg (by simp [e])]
        cases e2 : q a with
        | true => rw [List.filter_cons_of_pos e2, List.length_cons]; omega
        | false => rw [List.filter_cons_of_neg (by simp [e2])]; exact ih
/-- going on, not back: the branch beyond has fewer villages -/
theorem beyond_lt (W : WF s) {v w x : Nat} (hv : v < s.length) (hw : w < s.length) (hx : x < s.length) (h1 : near s v w = true) (h2 : near s w x = true) (hne : x ≠ v) : (beyond s w x).length < (beyond s v w).length := by
  rcases (near_iff W hv hw).mp h1 with c | c
  · -- w is v's child: x is w's child
    rcases (near_iff W hw hx).mp h2 with d | d
    · rw [beyond_down W c, beyond_down W d]
      refine filter_lt (z := w) (fun y hy q => ?_) (all_mem.mpr hw) ?_ ?_
      · have q' : x ∈ line s y := by simpa using q
        have : w ∈ line s y := by
          have := line_up W y (all_mem.mp hy) x q' d.1
          rw [d.2.2] at this; exact this
        simpa using this
      · cases q : (line s w).contains x with
        | false => rfl
        | true =>
          have q' : x ∈ line s w := by simpa using q
          have := line_le W w hw x q'
          have := d.lt W
          omega
      · simpa using line_head W hw
    · exact absurd (c.2.2.symm.trans d.2.2).symm hne
  · -- v is w's child
    rw [beyond_up W c]
    rcases (near_iff W hw hx).mp h2 with d | d
    · rw [beyond_down W d]
      refine filter_lt (z := w) (fun y hy q => ?_) (all_mem.mpr hw) ?_ ?_
      · have q' : x ∈ line s y := by simpa using q
        cases r : (line s y).contains v with
        | false => rfl
        | true =>
          have r' : v ∈ line s y := by simpa using r
          have hy' := all_mem.mp hy
          exfalso
          have fin : ∀ a b, Child s w a → Child s w b → a ∈ line s y → b ∈ line s y → a < b → False := fun a b ca cb ha hb hlt => by
            have m := line_two W y hy' a ha b hb (by omega)
            rw [line_succ W cb.1 cb.2.1, cb.2.2] at m
            rcases List.mem_cons.mp m with e | m
            · omega
            · have := line_le W w hw a m
              have := ca.lt W
              omega
          rcases Nat.lt_or_ge v x with l | l
          · exact fin v x c d r' q' l
          · exact fin x v d c q' r' (by omega)
      · cases q : (line s w).contains x with
        | false => rfl
        | true =>
          have q' : x ∈ line s w := by simpa using q
          have := line_le W w hw x q'
          have := d.lt W
          omega
      · cases q : (line s w).contains v with
        | false => rfl
        | true =>
          have q' : v ∈ line s w := by simpa using q
          have := line_le W w hw v q'
          have := c.lt W
          omega
    · rw [beyond_up W d]
      refine filter_lt (z := w) (fun y hy q => ?_) (all_mem.mpr hw) ?_ ?_
      · cases r : (line s y).contains v with
        | false => rfl
        | true =>
          have r' : v ∈ line s y := by simpa using r
          have : w ∈ line s y := by
            have := line_up W y (all_mem.mp hy) v r' c.1
            rw [c.2.2] at this; exact this
          simp [this] at q
      · have := line_head W hw
        simp [this]
      · cases q : (line s w).contains v with
        | false => rfl
        | true =>
          have q' : v ∈ line s w := by simpa using q
          have := line_le W w hw v q'
          have := c.lt W
          omega

/-! ### the heaviest branch -/
abbrev pick (g : Nat → Nat) : Option Nat → Nat → Option Nat := fun r w => match r with
  | none => some w
  | some x => if g x < g w then some w else some x
theorem pick_some (g : Nat → Nat) : ∀ (l : List Nat) (x : Nat), ∃ y, l.foldl (pick g) (some x) = some y ∧ (y = x ∨ y ∈ l)
  | [], x => ⟨x, rfl, .inl rfl⟩
  | a :: l, x => by
    rw [List.foldl_cons]
    show ∃ y, l.foldl (pick g) (if g x < g a then some a else some x) = some y ∧ _
    by_cases h : g x < g a
    · rw [if_pos h]
      obtain ⟨y, e, r⟩ := pick_some g l a
      exact ⟨y, e, .inr (r.elim (fun r => r ▸ List.mem_cons_self ..) fun r => List.mem_cons_of_mem _ r)⟩
    · rw [if_neg h]
      obtain ⟨y, e, r⟩ := pick_some g l x
      exact ⟨y, e, r.imp_right fun r => List.mem_cons_of_mem _ r⟩
theorem pick_mem (g : Nat → Nat) {l : List Nat} {y : Nat} (h : l.foldl (pick g) none = some y) : y ∈ l := by
  cases l with
  | nil => cases h
  | cons a l =>
    rw [List.foldl_cons] at h
    obtain ⟨z, e, r⟩ := pick_some g l a
    have h : l.foldl (pick g) (some a) = some y := h
    rw [e] at h
    have e2 := Option.some.inj h
    subst e2
    rcases r with r | r
    · exact r ▸ List.mem_cons_self ..
    · exact List.mem_cons_of_mem _ r
theorem heavy_eq (v : Nat) : heavy s v = ((all s).filter fun w => near s v w).foldl (pick (branch s v)) none := rfl
theorem heavy_near {v w : Nat} (h : heavy s v = some w) : w < s.length ∧ near s v w = true := by
  rw [heavy_eq] at h
  have m := List.mem_filter.mp (pick_mem _ h)
  exact ⟨all_mem.mp m.1, m.2⟩

/-! ### toward the half -/
def next (s : Valley) (v : Nat) : Option Nat := match heavy s v with
  | none => none
  | some w => if total s < 2 * branch s v w then some w else none
theorem next_is {v w : Nat} (h : next s v = some w) : heavy s v = some w ∧ total s < 2 * branch s v w := by
  unfold next at h
  cases e : heavy s v with
  | none => rw [e] at h; cases h
  | some x =>
    rw [e] at h
    have h : (if total s < 2 * branch s v x then some x else none) = some w := h
    by_cases q : total s < 2 * branch s v x
    · rw [if_pos q] at h; cases h; exact ⟨rfl, q⟩
    · rw [if_neg q] at h; cases h
theorem toward_step (f v : Nat) : towardGo s (f + 1) v = v :: (match next s v with | none => [] | some w => towardGo s f w) := by
  show (match heavy s v with | none => [v] | some w => if total s < 2 * branch s v w then v :: towardGo s f w else [v]) = _
  unfold next
  cases e : heavy s v with
  | none => rfl
  | some w =>
    show (if total s < 2 * branch s v w then v :: towardGo s f w else [v]) = v :: (match (if total s < 2 * branch s v w then some w else none) with | none => [] | some w => towardGo s f w)
    by_cases q : total s < 2 * branch s v w
    · rw [if_pos q, if_pos q]
    · rw [if_neg q, if_neg q]
/-- at most k steps are gone from v -/
def Ends (s : Valley) : Nat → Nat → Prop
  | 0, v => next s v = none
  | k + 1, v => ∀ w, next s v = some w → Ends s k w
theorem ends_of (W : WF s) : ∀ (k v w : Nat), v < s.length → next s v = some w → (beyond s v w).length ≤ k + 1 → Ends s k w
  | k, v, w, hv, hn, hl => by
    obtain ⟨h1, h2⟩ := next_is hn
    obtain ⟨hw, n1⟩ := heavy_near h1
    have go : ∀ x, next s w = some x → x < s.length ∧ (beyond s w x).length < (beyond s v w).length ∧ 0 < (beyond s w x).length := fun x hx => by
      obtain ⟨g1, g2⟩ := next_is hx
      obtain ⟨hx', n2⟩ := heavy_near g1
      refine ⟨hx', beyond_lt W hv hw hx' n1 n2 fun e => ?_, sum_pos (g := fun x => (at_ s x).many) (by show 0 < branch s w x; omega)⟩
      subst e
      have := branch_both W hv hw n1
      omega
    match k with
    | 0 =>
      show next s w = none
      cases e : next s w with
      | none => rfl
      | some x =>
        obtain ⟨_, a, b⟩ := go x e
        omega
    | k + 1 =>
      intro x hx
      obtain ⟨hx', a, b⟩ := go x hx
      exact ends_of W k w x hw hx (by omega)
theorem ends_all (W : WF s) {v : Nat} (hv : v < s.length) : Ends s (s.length - 1) v := by
  have hlen : ∀ w, next s v = some w → (beyond s v w).length < s.length := fun w hw => by
    obtain ⟨h1, _⟩ := next_is hw
    obtain ⟨hw', n⟩ := heavy_near h1
    have e : (all s).length = s.length := by unfold all; exact List.length_range
    rw [← e]
    have e2 : ((all s).filter fun _ => true).length = (all s).length := by rw [List.filter_eq_self.mpr (fun _ _ => rfl)]
    rw [← e2]
    have noV : (if (at_ s w).up = v ∧ w ≠ 0 then (line s v).contains w else !(line s v).contains v) = false := by
      by_cases q : (at_ s w).up = v ∧ w ≠ 0
      · rw [if_pos q]
        have c : Child s v w := ⟨by omega, hw', q.1⟩
        cases r : (line s v).contains w with
        | false => rfl
        | true =>
          have r' : w ∈ line s v := by simpa using r
          have := line_le W v hv w r'
          have := c.lt W
          omega
      · rw [if_neg q]
        have := line_head W hv
        simp [this]
    exact filter_lt (z := v) (fun _ _ _ => rfl) (all_mem.mpr hv) noV rfl
  cases h : s.length - 1 with
  | zero =>
    show next s v = none
    cases e : next s v with
    | none => rfl
    | some w =>
      have := hlen w e
      obtain ⟨h1, h2⟩ := next_is e
      have := sum_pos (g := fun x => (at_ s x).many) (show 0 < branch s v w by omega)
      omega
  | succ k =>
    intro w hw
    have := hlen w hw
    exact ends_of W k v w hv hw (by omega)
theorem toward_stable : ∀ (k f v : Nat), Ends s k v → k ≤ f → towardGo s (f + 1) v = towardGo s (k + 1) v ∧ (towardGo s (k + 1) v).length ≤ k + 1
  | 0, f, v, h, _ => by
    have h : next s v = none := h
    rw [toward_step, toward_step, h]
    exact ⟨rfl, Nat.le_refl _⟩
  | k + 1, f, v, h, hf => by
    match f, hf with
    | f + 1, hf =>
      rw [toward_step, toward_step]
      cases e : next s v with
      | none => exact ⟨rfl, by simp⟩
      | some w =>
        obtain ⟨h1, h2⟩ := toward_stable k f w (h w e) (by omega)
        exact ⟨congrArg (v :: ·) h1, by simp only [List.length_cons]; omega⟩
theorem toward_len (W : WF s) {v : Nat} (hv : v < s.length) : (toward s v).length ≤ s.length := by
  have h := toward_stable (s.length - 1) (s.length - 1) v (ends_all W hv) (Nat.le_refl _)
  have e : s.length - 1 + 1 = s.length := by have := W.pos; omega
  rw [e] at h
  exact h.2
/-- the walk, with as many steps as it may have -/
theorem toward_go (W : WF s) {v : Nat} (hv : v < s.length) : toward s v = towardGo s (s.length - 1 + 1) v := by
  unfold toward
  have e : s.length - 1 + 1 = s.length := by have := W.pos; omega
  rw [e]
end
end Mt

end
section
set_option Elab.async false
set_option linter.all false
set_option maxRecDepth 100000
namespace Mt
open Km457
/-! ### the calls by their numbers -/
def ar (c : Nat) : Nat := [1, 3, 2, 2, 0, 2, 1, 0, 0, 1, 2, 1, 2, 0, 2, 1, 3, 1, 1, 1, 1, 1, 0, 0, 0, 0].getD c 0
def mkc (c : Nat) (ns : List Nat) : Km457.Call := match c with
  | 0 => .start (ns.getD 0 0)
  | 1 => .village (ns.getD 0 0) (ns.getD 1 0) (ns.getD 2 0)
  | 2 => .many (ns.getD 0 0) (ns.getD 1 0)
  | 3 => .long_ (ns.getD 0 0) (ns.getD 1 0)
  | 4 => .drop
  | 5 => .far (ns.getD 0 0) (ns.getD 1 0)
  | 6 => .ways (ns.getD 0 0)
  | 7 => .best
  | 8 => .all_
  | 9 => .heavy (ns.getD 0 0)
  | 10 => .branch (ns.getD 0 0) (ns.getD 1 0)
  | 11 => .toward (ns.getD 0 0)
  | 12 => .gain (ns.getD 0 0) (ns.getD 1 0)
  | 13 => .two
  | 14 => .ways2 (ns.getD 0 0) (ns.getD 1 0)
  | 15 => .farthest (ns.getD 0 0)
  | 16 => .nearest (ns.getD 0 0) (ns.getD 1 0) (ns.getD 2 0)
  | 17 => .line (ns.getD 0 0)
  | 18 => .beside (ns.getD 0 0)
  | 19 => .till (ns.getD 0 0)
  | 20 => .without (ns.getD 0 0)
  | 21 => .look (ns.getD 0 0)
  | 22 => .sums
  | 23 => .back
  | 24 => .again
  | _ => .state
/-- the calls' shapes -/
theorem lt26 {k : Nat} (hk : k < 26) : k = 0 ∨ k = 1 ∨ k = 2 ∨ k = 3 ∨ k = 4 ∨ k = 5 ∨ k = 6 ∨ k = 7 ∨ k = 8 ∨ k = 9 ∨ k = 10 ∨ k = 11 ∨ k = 12 ∨ k = 13 ∨ k = 14 ∨ k = 15 ∨ k = 16 ∨ k = 17 ∨ k = 18 ∨ k = 19 ∨ k = 20 ∨ k = 21 ∨ k = 22 ∨ k = 23 ∨ k = 24 ∨ k = 25 := by omega
theorem shape_some {p : Int} {q : Nat × Nat} (h : PyKm457.shape p = some q) : ∃ c : Nat, c < 26 ∧ p = (c : Int) ∧ q = (ar c, 0) := by
  by_cases hp : 0 ≤ p ∧ p < 26
  · obtain ⟨k, rfl⟩ : ∃ k : Nat, p = (k : Int) := ⟨p.toNat, by omega⟩
    have hk : k < 26 := by omega
    refine ⟨k, hk, rfl, ?_⟩
    rcases lt26 hk with rfl | rfl | rfl | rfl | rfl | rfl | rfl | rfl | rfl | rfl | rfl | rfl | rfl | rfl | rfl | rfl | rfl | rfl | rfl | rfl | rfl | rfl | rfl | rfl | rfl | rfl
    all_goals exact (Option.some.inj h).symm
  · exfalso
    unfold PyKm457.shape at h
    repeat rw [if_neg (by omega)] at h
    cases h
theorem call_one {l : List Int} {c : List (List Int)} {t : List Int} (h : PyFlat.call PyKm457.shape l = some (c, t)) : ∃ (k : Nat) (r : List Int), k < 26 ∧ l = (k : Int) :: r ∧ ar k ≤ r.length ∧ c = [(k : Int) :: r.take (ar k)] ∧ t = r.drop (ar k) := by
  cases l with
  | nil => cases h
  | cons p r =>
    unfold PyFlat.call at h
    cases e : PyKm457.shape p with
    | none => simp only [e] at h; cases h
    | some q =>
      obtain ⟨k, hk, rfl, rfl⟩ := shape_some e
      simp only [e] at h
      by_cases hl : r.length < ar k
      · rw [if_pos hl] at h; cases h
      · rw [if_neg hl] at h
        have h2 : some ([(k : Int) :: r.take (ar k)], r.drop (ar k)) = some (c, t) := h
        have h3 := Option.some.inj h2
        exact ⟨k, r, hk, rfl, by omega, (Prod.mk.inj h3).1.symm, (Prod.mk.inj h3).2.symm⟩
theorem nat0 {z : Int} (h : 0 ≤ z) : ((z.toNat : Nat) : Int) = z := Int.toNat_of_nonneg h
theorem callOf_mkc {k : Nat} (hk : k < 26) {xs : List Int} (hl : xs.length = ar k) : Km457Neutral.callOf [(k : Int) :: xs] = some (mkc k (xs.map Int.toNat)) := by
  have hk' := hk
  have : k = 0 ∨ k = 1 ∨ k = 2 ∨ k = 3 ∨ k = 4 ∨ k = 5 ∨ k = 6 ∨ k = 7 ∨ k = 8 ∨ k = 9 ∨ k = 10 ∨ k = 11 ∨ k = 12 ∨ k = 13 ∨ k = 14 ∨ k = 15 ∨ k = 16 ∨ k = 17 ∨ k = 18 ∨ k = 19 ∨ k = 20 ∨ k = 21 ∨ k = 22 ∨ k = 23 ∨ k = 24 ∨ k = 25 := by omega
  rcases this with rfl | rfl | rfl | rfl | rfl | rfl | rfl | rfl | rfl | rfl | rfl | rfl | rfl | rfl | rfl | rfl | rfl | rfl | rfl | rfl | rfl | rfl | rfl | rfl | rfl | rfl
  all_goals first
    | (match xs, hl with | [], _ => rfl)
    | (match xs, hl with | [a], _ => rfl)
    | (match xs, hl with | [a, b], _ => rfl)
    | (match xs, hl with | [a, b, c], _ => rfl)
theorem ll0 {xs : List Int} (h : xs.length = 0) : xs = [] := List.length_eq_zero_iff.mp h
theorem ll1 {xs : List Int} (h : xs.length = 1) : ∃ a, xs = [a] := by
  match xs, h with
  | [a], _ => exact ⟨a, rfl⟩
theorem ll2 {xs : List Int} (h : xs.length = 2) : ∃ a b, xs = [a, b] := by
  match xs, h with
  | [a, b], _ => exact ⟨a, b, rfl⟩
theorem ll3 {xs : List Int} (h : xs.length = 3) : ∃ a b c, xs = [a, b, c] := by
  match xs, h with
  | [a, b, c], _ => exact ⟨a, b, c, rfl⟩
theorem whole_one {k : Nat} (hk : k < 26) {xs : List Int} (hl : xs.length = ar k) : PyKm457.whole [(k : Int) :: xs] = [(k : Int) :: xs] := by
  rcases lt26 hk with rfl | rfl | rfl | rfl | rfl | rfl | rfl | rfl | rfl | rfl | rfl | rfl | rfl | rfl | rfl | rfl | rfl | rfl | rfl | rfl | rfl | rfl | rfl | rfl | rfl | rfl
  all_goals first
    | (obtain rfl := ll0 hl; rfl)
    | (obtain ⟨a, rfl⟩ := ll1 hl; rfl)
    | (obtain ⟨a, b, rfl⟩ := ll2 hl; rfl)
    | (obtain ⟨a, b, c, rfl⟩ := ll3 hl; rfl)
theorem map_whole : ∀ (f : Nat) {l : List Int} {raw : List (List (List Int))}, PyFlat.calls PyKm457.shape f l = some raw → raw.map PyKm457.whole = raw
  | _, [], raw, h => by
    unfold PyFlat.calls at h
    have := Option.some.inj h
    subst this
    rfl
  | 0, _ :: _, _, h => by cases h
  | f + 1, p :: r, raw, h => by
    unfold PyFlat.calls at h
    cases e : PyFlat.call PyKm457.shape (p :: r) with
    | none => simp only [e] at h; cases h
    | some q =>
      obtain ⟨c0, t0⟩ := q
      simp only [e] at h
      obtain ⟨c, r', hc, hl, har, ec, et⟩ := call_one e
      cases e2 : PyFlat.calls PyKm457.shape f t0 with
      | none => simp only [e2] at h; cases h
      | some cs =>
        simp only [e2] at h
        have er : raw = c0 :: cs := (Option.some.inj h).symm
        subst er ec
        rw [List.map_cons, whole_one hc (by rw [List.length_take]; omega), map_whole f e2]
end Mt

end
section
set_option Elab.async false
set_option linter.all false
set_option maxRecDepth 100000
namespace Mt
open Km457
def nv (c : Nat) : Nat := [0, 1, 1, 1, 0, 2, 1, 0, 0, 1, 2, 1, 2, 0, 2, 1, 3, 1, 1, 1, 1, 1, 0, 0, 0, 0].getD c 0
/-- a village that isn't there -/
theorem act_miss {c : Nat} (hc : c < 26) {d : Desk} {ns : List Nat} (hl : ns.length = ar c) {v : Nat} (hv : v ∈ ns.take (nv c)) (hm : d.now.length ≤ v) : act d (mkc c ns) = (d, only (-2)) := by
  have one : ∀ a, v ∈ [a] → d.now.length ≤ a := fun a h => by have : v = a := by simpa using h
                                                              omega
  have two : ∀ a b, v ∈ [a, b] → d.now.length ≤ a ∨ d.now.length ≤ b := fun a b h => by
    rcases List.mem_cons.mp h with e | h
    · exact .inl (by omega)
    · exact .inr (one b h)
  have three : ∀ a b e, v ∈ [a, b, e] → d.now.length ≤ a ∨ d.now.length ≤ b ∨ d.now.length ≤ e := fun a b e h => by
    rcases List.mem_cons.mp h with q | h
    · exact .inl (by omega)
    · exact .inr (two b e h)
  by_cases c1 : c = 1
  · subst c1
    obtain ⟨a, b, e, rfl⟩ : ∃ a b e, ns = [a, b, e] := match ns, hl with | [a, b, e], _ => ⟨a, b, e, rfl⟩
    show (if d.now.length ≤ a then (d, only (-2)) else if b = 0 ∨ 1000 < b ∨ 1000 < e then (d, only (-22)) else if VILLAGES ≤ d.now.length then (d, only (-28)) else (d.become (d.now ++ [⟨a, b, e⟩]), only ((d.now.length : Nat) : Int))) = _
    exact if_pos (one a hv)
  rcases lt26 hc with rfl | rfl | rfl | rfl | rfl | rfl | rfl | rfl | rfl | rfl | rfl | rfl | rfl | rfl | rfl | rfl | rfl | rfl | rfl | rfl | rfl | rfl | rfl | rfl | rfl | rfl
  all_goals first
    | (exact absurd rfl c1)
    | (exact absurd (show v ∈ ([] : List Nat) from hv) (by simp))
    | (match ns, hl with | [a], _ => exact congrArg (Prod.mk d) (if_pos (one a hv)))
    | (match ns, hl with | [a, b], _ => exact congrArg (Prod.mk d) (if_pos (two a b hv)))
    | (match ns, hl with | [a, b, e], _ => exact congrArg (Prod.mk d) (if_pos (three a b e hv)))
    | (match ns, hl with | [a, b], _ => (show (if d.now.length ≤ a then (d, only (-2)) else _) = _); exact if_pos (one a hv))

/-! ### a desk as the program keeps it -/
structure Dk (d : Desk) : Prop where
  now : WF d.now
  past : ∀ s ∈ d.past, WF s
  future : ∀ s ∈ d.future, WF s
  sum : d.past.length + d.future.length ≤ 20
theorem at_get (s : Valley) (i : Nat) : at_ s i = (s[i]?).getD ⟨0, 0, 0⟩ := by unfold at_; rw [List.getD_eq_getElem?_getD]
theorem wf_opened {m : Nat} (h : m ≤ 1000) : WF (opened m) := by
  refine ⟨by simp [opened], by simp [opened], fun i h0 hi => ?_, rfl, rfl, fun i h0 hi => ?_, fun i hi => ?_⟩
  · simp [opened] at hi; omega
  · simp [opened] at hi; omega
  · have : i = 0 := by simp [opened] at hi; omega
    subst this
    exact h
theorem wf_snoc {s : Valley} (W : WF s) {u l m : Nat} (hu : u < s.length) (h1 : 1 ≤ l) (h2 : l ≤ 1000) (h3 : m ≤ 1000) (h4 : s.length < 12) : WF (s ++ [⟨u, l, m⟩]) := by
  have lo : ∀ i, i < s.length → at_ (s ++ [⟨u, l, m⟩]) i = at_ s i := fun i hi => by rw [at_get, at_get, List.getElem?_append_left hi]
  have hi' : at_ (s ++ [⟨u, l, m⟩]) s.length = ⟨u, l, m⟩ := by rw [at_get, List.getElem?_append_right (Nat.le_refl _), Nat.sub_self]; rfl
  have hp := W.pos
  refine ⟨by simp, by simp; omega, fun i h0 hi => ?_, by rw [lo 0 hp]; exact W.up0, by rw [lo 0 hp]; exact W.long0, fun i h0 hi => ?_, fun i hi => ?_⟩
  all_goals
    simp only [List.length_append, List.length_cons, List.length_nil] at hi
    by_cases c : i < s.length
  · rw [lo i c]; exact W.up i h0 c
  · have : i = s.length := by omega
    subst this
    rw [hi']; exact hu
  · rw [lo i c]; exact W.long i h0 c
  · have : i = s.length := by omega
    subst this
    rw [hi']; exact ⟨h1, h2⟩
  · rw [lo i c]; exact W.many i c
  · have : i = s.length := by omega
    subst this
    rw [hi']; exact h3
theorem at_set {s : Valley} {v i : Nat} {x : Village} (hv : v < s.length) : at_ (s.set v x) i = if i = v then x else at_ s i := by
  rw [at_get, at_get]
  by_cases c : i = v
  · subst c
    rw [List.getElem?_set_self hv, if_pos rfl]
    rfl
  · rw [List.getElem?_set_ne (fun e => c e.symm), if_neg c]
theorem wf_many {s : Valley} (W : WF s) {v n : Nat} (hv : v < s.length) (hn : n ≤ 1000) : WF (s.set v { at_ s v with many := n }) := by
  refine ⟨by rw [List.length_set]; exact W.pos, by rw [List.length_set]; exact W.le, fun i h0 hi => ?_, ?_, ?_, fun i h0 hi => ?_, fun i hi => ?_⟩
  all_goals
    try rw [List.length_set] at hi
    try rw [at_set hv]
  · by_cases c : i = v
    · subst c; rw [if_pos rfl]; exact W.up i h0 hi
    · rw [if_neg c]; exact W.up i h0 hi
  · by_cases c : 0 = v
    · subst c; rw [if_pos rfl]; exact W.up0
    · rw [if_neg c]; exact W.up0
  · by_cases c : 0 = v
    · subst c; rw [if_pos rfl]; exact W.long0
    · rw [if_neg c]; exact W.long0
  · by_cases c : i = v
    · subst c; rw [if_pos rfl]; exact W.long i h0 hi
    · rw [if_neg c]; exact W.long i h0 hi
  · by_cases c : i = v
    · subst c; rw [if_pos rfl]; exact hn
    · rw [if_neg c]; exact W.many i hi
theorem wf_long {s : Valley} (W : WF s) {v n : Nat} (hv : v < s.length) (hz : v ≠ 0) (h1 : 1 ≤ n) (hn : n ≤ 1000) : WF (s.set v { at_ s v with long := n }) := by
  refine ⟨by rw [List.length_set]; exact W.pos, by rw [List.length_set]; exact W.le, fun i h0 hi => ?_, ?_, ?_, fun i h0 hi => ?_, fun i hi => ?_⟩
  all_goals
    try rw [List.length_set] at hi
    try rw [at_set hv]
  · by_cases c : i = v
    · subst c; rw [if_pos rfl]; exact W.up i h0 hi
    · rw [if_neg c]; exact W.up i h0 hi
  · rw [if_neg (fun e => hz e.symm)]; exact W.up0
  · rw [if_neg (fun e => hz e.symm)]; exact W.long0
  · by_cases c : i = v
    · subst c; rw [if_pos rfl]; exact ⟨h1, hn⟩
    · rw [if_neg c]; exact W.long i h0 hi
  · by_cases c : i = v
    · subst c; rw [if_pos rfl]; exact W.many i hi
    · rw [if_neg c]; exact W.many i hi
theorem wf_drop {s : Valley} (W : WF s) (h : s.length ≠ 1) : WF s.dropLast := by
  have hp := W.pos
  have lo : ∀ i, i < s.length - 1 → at_ s.dropLast i = at_ s i := fun i hi => by rw [at_get, at_get, List.dropLast_eq_take, List.getElem?_take_of_lt hi]
  refine ⟨by rw [List.length_dropLast]; omega, by rw [List.length_dropLast]; have := W.le; omega, fun i h0 hi => ?_, by rw [lo 0 (by omega)]; exact W.up0, by rw [lo 0 (by omega)]; exact W.long0, fun i h0 hi => ?_, fun i hi => ?_⟩
  all_goals
    rw [List.length_dropLast] at hi
    rw [lo i hi]
  · exact W.up i h0 (by omega)
  · exact W.long i h0 (by omega)
  · exact W.many i (by omega)
theorem dk_become {d : Desk} (D : Dk d) {s : Valley} (W : WF s) : Dk (d.become s) := by
  refine ⟨W, fun q hq => ?_, fun q hq => (by cases hq), ?_⟩
  · have hq := List.mem_of_mem_take hq
    rcases List.mem_cons.mp hq with e | m
    · exact e ▸ D.now
    · exact D.past q m
  · show ((d.now :: d.past).take PAST).length + 0 ≤ 20
    rw [List.length_take]
    have : PAST = 20 := rfl
    omega
theorem dk_opened {m : Nat} (h : ¬ 1000 < m) : Dk ⟨opened m, [], []⟩ := ⟨wf_opened (by omega), fun q hq => (by cases hq), fun q hq => (by cases hq), by simp⟩
theorem dk_act {d : Desk} (D : Dk d) (c : Call) : Dk (act d c).1 := by
  cases c with
  | start m =>
    show Dk (if 1000 < m then (d, only (-22)) else (⟨opened m, [], []⟩, only 0)).1
    by_cases h : 1000 < m
    · rw [if_pos h]; exact D
    · rw [if_neg h]; exact dk_opened h
  | village u l m =>
    show Dk (if d.now.length ≤ u then (d, only (-2)) else if l = 0 ∨ 1000 < l ∨ 1000 < m then (d, only (-22)) else if VILLAGES ≤ d.now.length then (d, only (-28)) else (d.become (d.now ++ [⟨u, l, m⟩]), only ((d.now.length : Nat) : Int))).1
    have hV : VILLAGES = 12 := rfl
    by_cases h1 : d.now.length ≤ u
    · rw [if_pos h1]; exact D
    · rw [if_neg h1]
      by_cases h2 : l = 0 ∨ 1000 < l ∨ 1000 < m
      · rw [if_pos h2]; exact D
      · rw [if_neg h2]
        by_cases h3 : VILLAGES ≤ d.now.length
        · rw [if_pos h3]; exact D
        · rw [if_neg h3]
          exact dk_become D (wf_snoc D.now (by omega) (by omega) (by omega) (by omega) (by omega))
  | many v n =>
    show Dk (if d.now.length ≤ v then (d, only (-2)) else if 1000 < n then (d, only (-22)) else (d.become (d.now.set v { at_ d.now v with many := n }), only (((at_ d.now v).many : Nat) : Int))).1
    by_cases h1 : d.now.length ≤ v
    · rw [if_pos h1]; exact D
    · rw [if_neg h1]
      by_cases h2 : 1000 < n
      · rw [if_pos h2]; exact D
      · rw [if_neg h2]
        exact dk_become D (wf_many D.now (by omega) (by omega))
  | long_ v n =>
    show Dk (if d.now.length ≤ v then (d, only (-2)) else if n = 0 ∨ 1000 < n then (d, only (-22)) else if v = 0 then (d, only (-33)) else (d.become (d.now.set v { at_ d.now v with long := n }), only (((at_ d.now v).long : Nat) : Int))).1
    by_cases h1 : d.now.length ≤ v
    · rw [if_pos h1]; exact D
    · rw [if_neg h1]
      by_cases h2 : n = 0 ∨ 1000 < n
      · rw [if_pos h2]; exact D
      · rw [if_neg h2]
        by_cases h3 : v = 0
        · rw [if_pos h3]; exact D
        · rw [if_neg h3]
          exact dk_become D (wf_long D.now (by omega) h3 (by omega) (by omega))
  | drop =>
    show Dk (if d.now.length = 1 then (d, only (-33)) else (d.become d.now.dropLast, only (((d.now.length - 1 : Nat)) : Int))).1
    by_cases h1 : d.now.length = 1
    · rw [if_pos h1]; exact D
    · rw [if_neg h1]
      exact dk_become D (wf_drop D.now h1)
  | back =>
    show Dk (match d.past with
      | [] => (d, only (-2))
      | k :: r => (⟨k, r, d.now :: d.future⟩, only ((r.length : Nat) : Int))).1
    cases e : d.past with
    | nil => exact D
    | cons k r =>
      have hs := D.sum
      rw [e, List.length_cons] at hs
      refine ⟨D.past k (by rw [e]; simp), fun q hq => D.past q (by rw [e]; exact List.mem_cons_of_mem _ hq), fun q hq => ?_, by show r.length + (d.now :: d.future).length ≤ 20; rw [List.length_cons]; omega⟩
      rcases List.mem_cons.mp hq with z | m
      · exact z ▸ D.now
      · exact D.future q m
  | again =>
    show Dk (match d.future with
      | [] => (d, only (-2))
      | k :: r => (⟨k, (d.now :: d.past).take PAST, r⟩, only ((r.length : Nat) : Int))).1
    cases e : d.future with
    | nil => exact D
    | cons k r =>
      have hs := D.sum
      rw [e, List.length_cons] at hs
      refine ⟨D.future k (by rw [e]; simp), fun q hq => ?_, fun q hq => D.future q (by rw [e]; exact List.mem_cons_of_mem _ hq), ?_⟩
      · rcases List.mem_cons.mp (List.mem_of_mem_take hq) with z | m
        · exact z ▸ D.now
        · exact D.past q m
      · show ((d.now :: d.past).take PAST).length + r.length ≤ 20
        rw [List.length_take, List.length_cons]
        have : PAST = 20 := rfl
        omega
  | _ => exact D
end Mt

end
section
set_option Elab.async false
set_option linter.all false
set_option maxRecDepth 100000
namespace Mt
open Km457
/-! ### the machine, step by step -/
def RelS : Option Desk → Desk → Prop
  | none, d => d = ⟨[], [], []⟩
  | some e, d => d = e ∧ Dk d
theorem start_only {c : Nat} (hc : c < 26) {ns : List Nat} (h : Km457Neutral.isStart (mkc c ns) = true) : c = 0 := by
  rcases lt26 hc with rfl | rfl | rfl | rfl | rfl | rfl | rfl | rfl | rfl | rfl | rfl | rfl | rfl | rfl | rfl | rfl | rfl | rfl | rfl | rfl | rfl | rfl | rfl | rfl | rfl | rfl
  · rfl
  all_goals cases h
theorem step_rel {st : Option Desk} {d : Desk} (R : RelS st d) {c : Nat} (hc : c < 26) {xs : List Int} (hl : xs.length = ar c) (hm : ((Km457Neutral.step st [(c : Int) :: xs]).2.isEmpty) = false) :
    (Km457Neutral.step st [(c : Int) :: xs]).2 = Km457Neutral.told (act d (mkc c (xs.map Int.toNat))).2 ∧ RelS (Km457Neutral.step st [(c : Int) :: xs]).1 (act d (mkc c (xs.map Int.toNat))).1 ∧ ((c == 0) = false → Dk d) := by
  have hco := callOf_mkc hc hl
  cases st with
  | some e =>
    obtain ⟨rfl, D⟩ := R
    unfold Km457Neutral.step
    rw [hco]
    exact ⟨rfl, ⟨rfl, dk_act D _⟩, fun _ => D⟩
  | none =>
    have R : d = ⟨[], [], []⟩ := R
    subst R
    unfold Km457Neutral.step at hm ⊢
    rw [hco] at hm ⊢
    cases hs : Km457Neutral.isStart (mkc c (xs.map Int.toNat)) with
    | false =>
      simp only [hs] at hm
      cases hm
    | true =>
      have e := start_only hc hs
      subst e
      refine ⟨?_, ?_, fun h => by cases h⟩
      · show Km457Neutral.told (act (fresh 0) (.start ((xs.map Int.toNat).getD 0 0))).2 = Km457Neutral.told (act ⟨[], [], []⟩ (.start ((xs.map Int.toNat).getD 0 0))).2
        by_cases h : 1000 < (xs.map Int.toNat).getD 0 0
        · have e1 : act (fresh 0) (.start ((xs.map Int.toNat).getD 0 0)) = (fresh 0, only (-22)) := if_pos h
          have e2 : act ⟨[], [], []⟩ (.start ((xs.map Int.toNat).getD 0 0)) = (⟨[], [], []⟩, only (-22)) := if_pos h
          rw [e1, e2]
        · have e1 : act (fresh 0) (.start ((xs.map Int.toNat).getD 0 0)) = (⟨opened ((xs.map Int.toNat).getD 0 0), [], []⟩, only 0) := if_neg h
          have e2 : act ⟨[], [], []⟩ (.start ((xs.map Int.toNat).getD 0 0)) = (⟨opened ((xs.map Int.toNat).getD 0 0), [], []⟩, only 0) := if_neg h
          rw [e1, e2]
      · show RelS (if ((Km457Neutral.told (act (fresh 0) (.start ((xs.map Int.toNat).getD 0 0))).2).headD 0 < 0) then none else some (act (fresh 0) (.start ((xs.map Int.toNat).getD 0 0))).1) (act ⟨[], [], []⟩ (.start ((xs.map Int.toNat).getD 0 0))).1
        by_cases h : 1000 < (xs.map Int.toNat).getD 0 0
        · have e1 : act (fresh 0) (.start ((xs.map Int.toNat).getD 0 0)) = (fresh 0, only (-22)) := if_pos h
          have e2 : act ⟨[], [], []⟩ (.start ((xs.map Int.toNat).getD 0 0)) = (⟨[], [], []⟩, only (-22)) := if_pos h
          rw [e1, e2]
          exact rfl
        · have e1 : act (fresh 0) (.start ((xs.map Int.toNat).getD 0 0)) = (⟨opened ((xs.map Int.toNat).getD 0 0), [], []⟩, only 0) := if_neg h
          have e2 : act ⟨[], [], []⟩ (.start ((xs.map Int.toNat).getD 0 0)) = (⟨opened ((xs.map Int.toNat).getD 0 0), [], []⟩, only 0) := if_neg h
          rw [e1, e2]
          exact ⟨rfl, dk_opened h⟩
/-- the rest of a list of calls that is still to be read -/
structure Rest (zs : List Int) (k : Nat) (st : Option Desk) (acc : List Int) : Prop where
  ex : ∃ (f : Nat) (raw : List (List (List Int))), PyFlat.calls PyKm457.shape f (zs.drop k) = some raw ∧ Km457Neutral.may st raw = true ∧ PyKm457.answers zs = acc ++ PyFlat.told (PyFlat.played Km457Neutral.step st raw)
theorem Rest.done {zs : List Int} {k : Nat} {st : Option Desk} {acc : List Int} (R : Rest zs k st acc) (hk : zs.length ≤ k) : PyKm457.answers zs = acc := by
  obtain ⟨f, raw, h1, _, h3⟩ := R.ex
  rw [List.drop_of_length_le hk] at h1
  cases f with
  | zero =>
    have e : raw = [] := (Option.some.inj h1).symm
    subst e
    rw [h3]
    exact List.append_nil _
  | succ f =>
    have e : raw = [] := (Option.some.inj h1).symm
    subst e
    rw [h3]
    exact List.append_nil _
theorem Rest.next {zs : List Int} {k : Nat} {st : Option Desk} {d : Desk} {acc : List Int} (R : Rest zs k st acc) (S : RelS st d) (hk : k < zs.length) :
    ∃ (c : Nat) (xs : List Int), c < 26 ∧ zs[k]? = some (c : Int) ∧ xs = (zs.drop (k + 1)).take (ar c) ∧ xs.length = ar c ∧ k + 1 + ar c ≤ zs.length ∧ ((c == 0) = false → Dk d) ∧
      ∃ st', RelS st' (act d (mkc c (xs.map Int.toNat))).1 ∧ Rest zs (k + 1 + ar c) st' (acc ++ (((Km457Neutral.told (act d (mkc c (xs.map Int.toNat))).2).length : Int) :: Km457Neutral.told (act d (mkc c (xs.map Int.toNat))).2)) := by
  obtain ⟨f, raw, h1, h2, h3⟩ := R.ex
  have hd : zs.drop k = zs[k] :: zs.drop (k + 1) := List.drop_eq_getElem_cons hk
  rw [hd] at h1
  cases f with
  | zero => cases h1
  | succ f =>
    unfold PyFlat.calls at h1
    cases e : PyFlat.call PyKm457.shape (zs[k] :: zs.drop (k + 1)) with
    | none => simp only [e] at h1; cases h1
    | some q =>
      obtain ⟨c0, t0⟩ := q
      simp only [e] at h1
      obtain ⟨c, r, hc, hl, har, ec, et⟩ := call_one e
      injection hl with hl1 hl2
      cases e2 : PyFlat.calls PyKm457.shape f t0 with
      | none => simp only [e2] at h1; cases h1
      | some cs =>
        simp only [e2] at h1
        have er : raw = c0 :: cs := (Option.some.inj h1).symm
        subst er
        have hlx : (r.take (ar c)).length = ar c := by rw [List.length_take]; omega
        have hm : ((Km457Neutral.step st c0).2.isEmpty) = false ∧ Km457Neutral.may (Km457Neutral.step st c0).1 cs = true := by
          unfold Km457Neutral.may at h2
          rw [Bool.and_eq_true] at h2
          exact ⟨by simpa using h2.1, h2.2⟩
        subst ec
        obtain ⟨s1, s2, s3⟩ := step_rel S hc hlx hm.1
        rw [← hl2] at har s1 s2 hm h3 et
        refine ⟨c, _, hc, by rw [List.getElem?_eq_getElem hk, hl1], rfl, by rw [List.length_take]; omega, by rw [List.length_drop] at har; omega, s3, _, s2, ⟨f, cs, ?_, hm.2, ?_⟩⟩
        · rw [← e2, et, List.drop_drop]
        · rw [h3]
          show acc ++ PyFlat.told ((Km457Neutral.step st _).2 :: PyFlat.played Km457Neutral.step (Km457Neutral.step st _).1 cs) = _
          unfold PyFlat.told
          rw [List.flatMap_cons, s1, List.append_assoc]
theorem rest_start {zs : List Int} (h : PyKm457.answers_asked zs = true) : Rest zs 0 none [] := by
  unfold PyKm457.answers_asked at h
  cases e : PyFlat.calls PyKm457.shape zs.length zs with
  | none => rw [e] at h; cases h
  | some raw =>
    rw [e] at h
    simp only [Bool.and_eq_true] at h
    obtain ⟨⟨⟨⟨_, _⟩, _⟩, h1⟩, _⟩ := h
    rw [map_whole _ e] at h1
    unfold Km457Neutral.asked at h1
    simp only [Bool.and_eq_true] at h1
    refine ⟨zs.length, raw, e, h1.2.2.2, ?_⟩
    unfold PyKm457.answers PyKm457.calls
    rw [e]
    show PyFlat.told (PyFlat.played Km457Neutral.step Km457Neutral.start (raw.map PyKm457.whole)) = _
    rw [map_whole _ e]
    rfl
theorem asked_short {zs : List Int} (h : PyKm457.answers_asked zs = true) : (PyKm457.answers zs).length ≤ 10000000 := by
  unfold PyKm457.answers_asked at h
  cases e : PyFlat.calls PyKm457.shape zs.length zs with
  | none => rw [e] at h; cases h
  | some raw =>
    rw [e] at h
    simp only [Bool.and_eq_true] at h
    exact of_decide_eq_true h.2
end Mt

end
section
set_option Elab.async false
set_option linter.all false
set_option maxRecDepth 100000
namespace Sp
open PySem PySem.Spec PyProof.Rows L2

/-! ### the tables of codes that lambdas of the text grow -/
structure TabI where
  P : Addr
  line : Nat
  col : Nat
  qual : Str
def codeLike (oc : Obj) (qual : Str) : Prop := ∃ (vs : Array Value) (tq : Tok), oc.data = .fields vs ∧ vs[1]? = some (.str qual tq)
def TabOk (i : TabI) (H : Hp) : Prop := H i.P = some (.tbl #[]) ∨ ∃ c oc, H i.P = some (.tbl #[rawInt i.line, rawInt i.col, .ref c]) ∧ H c = some (.frz oc (.own 0)) ∧ codeLike oc i.qual
def isTbl : HO → Bool
  | .tbl _ => true
  | _ => false
/-- all that was tracked is as it was; tables may have grown, and stand well if they did -/
structure Ext (ts : List TabI) (H H' : Hp) : Prop where
  same : ∀ b o, isTbl o = false → H b = some o → H' b = some o
  has : ∀ b, H' b = Option.none → H b = Option.none
  tab : ∀ i, i ∈ ts → TabOk i H → TabOk i H'
section
variable {ts : List TabI} {H H1 H2 : Hp}
theorem Ext.refl (H : Hp) : Ext ts H H := ⟨fun _ _ _ h => h, fun _ h => h, fun _ _ h => h⟩
theorem Ext.trans (a : Ext ts H H1) (b : Ext ts H1 H2) : Ext ts H H2 := ⟨fun x o t h => b.same x o t (a.same x o t h), fun x h => a.has x (b.has x h), fun i m h => b.tab i m (a.tab i m h)⟩
theorem TabOk.upd {i : TabI} {p : Addr} {o : HO} (h : TabOk i H) (hn : ∀ u, H p = some u → isTbl u = false ∧ ∀ oc, u ≠ .frz oc (.own 0)) : TabOk i (upd H p o) := by
  rcases h with h | ⟨c, oc, h1, h2, h3⟩
  · refine .inl ?_
    rw [upd_ne fun e => ?_]
    · exact h
    · have := (hn _ (e ▸ h)).1
      cases this
  · refine .inr ⟨c, oc, ?_, ?_, h3⟩
    · rw [upd_ne fun e => ?_]
      · exact h1
      · have := (hn _ (e ▸ h1)).1
        cases this
    · rw [upd_ne fun e => ?_]
      · exact h2
      · exact (hn _ (e ▸ h2)).2 oc rfl
/-- something new -/
theorem Ext.new {p : Addr} {o : HO} (hp : H p = Option.none) : Ext ts H (upd H p o) where
  same := fun b u _ h => by rw [upd_ne (ne_of_none h hp)]; exact h
  has := fun b h => by
    by_cases e : b = p
    · subst e; exact hp
    · rw [upd_ne e] at h; exact h
  tab := fun i _ h => h.upd fun u q => by rw [hp] at q; cases q
/-- what is new since H is changed -/
theorem Ext.put {p : Addr} {o u : HO} (e : Ext ts H H1) (hp : H p = Option.none) (hq : H1 p = some u) (hu : isTbl u = false) (hf : ∀ oc, u ≠ .frz oc (.own 0)) : Ext ts H (upd H1 p o) where
  same := fun b v t h => by rw [upd_ne (ne_of_none h hp)]; exact e.same b v t h
  has := fun b h => by
    by_cases q : b = p
    · subst q; exact hp
    · rw [upd_ne q] at h; exact e.has b h
  tab := fun i m h => (e.tab i m h).upd fun v q => by rw [hq] at q; cases q; exact ⟨hu, hf⟩
theorem Ext.seq {K : PySem.W.Frag} {a : Addr} {xs : List V} (e : Ext ts H H1) (h : SqL K H a xs) : SqL K H1 a xs := by
  rcases h with (h | ⟨o, h⟩) | h
  · exact .inl (.inl (e.same _ _ rfl h))
  · exact .inl (.inr ⟨o, e.same _ _ rfl h⟩)
  · exact .inr h
theorem Ext.lst {a : Addr} {xs : List V} (e : Ext ts H H1) (h : H a = some (.lst xs)) : H1 a = some (.lst xs) := e.same _ _ rfl h
theorem Ext.ins {a C dx : Addr} {fs : List (Str × V)} (e : Ext ts H H1) (h : H a = some (.ins C dx fs)) : H1 a = some (.ins C dx fs) := e.same _ _ rfl h
end

/-! ### the villages -/
def vf (x : Km457.Village) : List (Str × V) := [("up", .int x.up), ("road", .int x.long), ("children", .int x.many)]
def VilAt (C : Addr) (H : Hp) (a : Addr) (x : Km457.Village) : Prop := ∃ dx, H a = some (.ins C dx (vf x))
/-- the list at l holds the villages of s -/
def VsAt (C : Addr) (H : Hp) (l : Addr) (s : Km457.Valley) : Prop := ∃ as : List Addr, H l = some (.lst (as.map V.ref)) ∧ as.length = s.length ∧ ∀ (i : Nat) (x : Km457.Village), s[i]? = some x → ∃ a, as[i]? = some a ∧ VilAt C H a x
section
variable {ts : List TabI} {H H1 H2 : Hp} {C l a : Addr} {s : Km457.Valley} {x : Km457.Village}
theorem VilAt.ext (e : Ext ts H H1) (h : VilAt C H a x) : VilAt C H1 a x := let ⟨dx, q⟩ := h; ⟨dx, e.ins q⟩
theorem VsAt.ext (e : Ext ts H H1) (h : VsAt C H l s) : VsAt C H1 l s := let ⟨as, h1, h2, h3⟩ := h; ⟨as, e.lst h1, h2, fun i x q => let ⟨a, q1, q2⟩ := h3 i x q; ⟨a, q1, q2.ext e⟩⟩
/-- the village in the i-th place -/
theorem VsAt.at (h : VsAt C H l s) {i : Nat} (hi : i < s.length) : ∃ xs a dx, H l = some (.lst xs) ∧ xs.length = s.length ∧ xs[i]? = some (.ref a) ∧ H a = some (.ins C dx (vf (Km457.at_ s i))) := by
  obtain ⟨as, h1, h2, h3⟩ := h
  have e : s[i]? = some (Km457.at_ s i) := by
    unfold Km457.at_
    rw [List.getD_eq_getElem?_getD, List.getElem?_eq_getElem hi]
    rfl
  obtain ⟨a, q1, dx, q2⟩ := h3 i _ e
  exact ⟨as.map V.ref, a, dx, h1, by rw [List.length_map]; exact h2, by rw [List.getElem?_map, q1]; rfl, q2⟩
theorem VsAt.lst (h : VsAt C H l s) : ∃ xs, H l = some (.lst xs) ∧ xs.length = s.length := by
  obtain ⟨as, h1, h2, _⟩ := h
  exact ⟨_, h1, by rw [List.length_map]; exact h2⟩
theorem vf_up : (vf x).lookup ("up" : Str) = some (.int x.up) := rfl
theorem vf_road : (vf x).lookup ("road" : Str) = some (.int x.long) := rfl
theorem vf_children : (vf x).lookup ("children" : Str) = some (.int x.many) := rfl
end
abbrev nts (l : List Nat) : List V := l.map fun (n : Nat) => V.int (n : Int)
theorem sl {n : Nat} (h : n ≤ 100000) : n ≤ sizeLine := Nat.le_trans h (by decide)
theorem slt {n : Nat} (h : n ≤ 100000) : n < sizeLine := Nat.lt_of_le_of_lt h (by decide)

/-! ### a def of the text, called by its name -/
structure Df (K : PySem.W.Frag) (mg : Str → Option Value) (x : Str) (st : Stmt) (ps : List Str) (f : Addr) (fd : FuncData) : Prop where
  F : Fun K x x st f fd
  b : Binds K fd ps []
  m : mg x = some (.ref f)
def top (i : Nat) : Stmt := PySem.Challenge.pw_schoolplaces_s01_answers.main.body.getD i (.Pass ⟨0, 0, 0, 0⟩)
end Sp

end
section
set_option Elab.async false
set_option linter.all false
set_option maxRecDepth 100000
namespace Sp
open PySem PySem.Spec PyProof.Rows L2
abbrev s_Village_init : Stmt := inClass (top 1) 0
abbrev s_Valley_init : Stmt := inClass (top 37) 0
abbrev s_Valley_begin : Stmt := inClass (top 37) 1
abbrev s_Valley_change : Stmt := inClass (top 37) 2
abbrev s_Valley_take_back : Stmt := inClass (top 37) 3
abbrev s_Valley_do_again : Stmt := inClass (top 37) 4
abbrev s_replaced : Stmt := top 2
abbrev s_with_children : Stmt := top 3
abbrev s_with_road : Stmt := top 4
abbrev s_line : Stmt := top 5
abbrev s_meeting : Stmt := top 6
abbrev s_distances : Stmt := top 7
abbrev s_farthest : Stmt := top 8
abbrev s_ways_over : Stmt := top 9
abbrev s_all_ways : Stmt := top 10
abbrev s_best_places : Stmt := top 11
abbrev s_nearer_ways : Stmt := top 12
abbrev s_ways_to_either : Stmt := top 13
abbrev s_best_two : Stmt := top 14
abbrev s_are_beside : Stmt := top 15
abbrev s_beside : Stmt := top 16
abbrev s_branch : Stmt := top 17
abbrev s_all_roads : Stmt := top 18
abbrev s_children_in : Stmt := top 19
abbrev s_all_children : Stmt := top 20
abbrev s_branch_children : Stmt := top 21
abbrev s_heaviest : Stmt := top 22
abbrev s_over_half : Stmt := top 23
abbrev s_step_to_half : Stmt := top 24
abbrev s_way_to_half : Stmt := top 25
abbrev s_is_road : Stmt := top 38
abbrev s_bits : Stmt := top 39
abbrev s_padded : Stmt := top 40
abbrev s_row : Stmt := top 41
abbrev s_va_start : Stmt := top 42
abbrev s_va_village : Stmt := top 43
abbrev s_va_many : Stmt := top 44
abbrev s_va_road : Stmt := top 45
abbrev s_va_drop : Stmt := top 46
abbrev s_va_far : Stmt := top 47
abbrev s_va_ways : Stmt := top 48
abbrev s_va_best : Stmt := top 49
abbrev s_va_all : Stmt := top 50
abbrev s_va_heavy : Stmt := top 51
abbrev s_va_branch : Stmt := top 52
abbrev s_va_toward : Stmt := top 53
abbrev s_va_gain : Stmt := top 54
abbrev s_va_two : Stmt := top 55
abbrev s_va_both : Stmt := top 56
abbrev s_va_farthest : Stmt := top 57
abbrev s_va_nearer : Stmt := top 58
abbrev s_va_line : Stmt := top 59
abbrev s_va_beside : Stmt := top 60
abbrev s_va_till : Stmt := top 61
abbrev s_va_without : Stmt := top 62
abbrev s_va_look : Stmt := top 63
abbrev s_va_sums : Stmt := top 64
abbrev s_va_back : Stmt := top 65
abbrev s_va_again : Stmt := top 66
abbrev s_va_state : Stmt := top 67
abbrev s_answer : Stmt := top 69
abbrev s_answers : Stmt := top 70
def la_best_two (P : Addr) : TabI := ⟨P, 51, 26, "best_two.<locals>.<lambda>"⟩
def la_heaviest (P : Addr) : TabI := ⟨P, 69, 40, "heaviest.<locals>.<lambda>"⟩
/-- the addresses and the function objects of the text -/
structure Ad where
  c_Village : Addr
  f_Village_init : Addr
  g_Village_init : FuncData
  c_Valley : Addr
  f_Valley_init : Addr
  g_Valley_init : FuncData
  f_Valley_begin : Addr
  g_Valley_begin : FuncData
  f_Valley_change : Addr
  g_Valley_change : FuncData
  f_Valley_take_back : Addr
  g_Valley_take_back : FuncData
  f_Valley_do_again : Addr
  g_Valley_do_again : FuncData
  f_replaced : Addr
  g_replaced : FuncData
  f_with_children : Addr
  g_with_children : FuncData
  f_with_road : Addr
  g_with_road : FuncData
  f_line : Addr
  g_line : FuncData
  f_meeting : Addr
  g_meeting : FuncData
  f_distances : Addr
  g_distances : FuncData
  f_farthest : Addr
  g_farthest : FuncData
  f_ways_over : Addr
  g_ways_over : FuncData
  f_all_ways : Addr
  g_all_ways : FuncData
  f_best_places : Addr
  g_best_places : FuncData
  f_nearer_ways : Addr
  g_nearer_ways : FuncData
  f_ways_to_either : Addr
  g_ways_to_either : FuncData
  f_best_two : Addr
  g_best_two : FuncData
  f_are_beside : Addr
  g_are_beside : FuncData
  f_beside : Addr
  g_beside : FuncData
  f_branch : Addr
  g_branch : FuncData
  f_all_roads : Addr
  g_all_roads : FuncData
  f_children_in : Addr
  g_children_in : FuncData
  f_all_children : Addr
  g_all_children : FuncData
  f_branch_children : Addr
  g_branch_children : FuncData
  f_heaviest : Addr
  g_heaviest : FuncData
  f_over_half : Addr
  g_over_half : FuncData
  f_step_to_half : Addr
  g_step_to_half : FuncData
  f_way_to_half : Addr
  g_way_to_half : FuncData
  f_is_road : Addr
  g_is_road : FuncData
  f_bits : Addr
  g_bits : FuncData
  f_padded : Addr
  g_padded : FuncData
  f_row : Addr
  g_row : FuncData
  f_va_start : Addr
  g_va_start : FuncData
  f_va_village : Addr
  g_va_village : FuncData
  f_va_many : Addr
  g_va_many : FuncData
  f_va_road : Addr
  g_va_road : FuncData
  f_va_drop : Addr
  g_va_drop : FuncData
  f_va_far : Addr
  g_va_far : FuncData
  f_va_ways : Addr
  g_va_ways : FuncData
  f_va_best : Addr
  g_va_best : FuncData
  f_va_all : Addr
  g_va_all : FuncData
  f_va_heavy : Addr
  g_va_heavy : FuncData
  f_va_branch : Addr
  g_va_branch : FuncData
  f_va_toward : Addr
  g_va_toward : FuncData
  f_va_gain : Addr
  g_va_gain : FuncData
  f_va_two : Addr
  g_va_two : FuncData
  f_va_both : Addr
  g_va_both : FuncData
  f_va_farthest : Addr
  g_va_farthest : FuncData
  f_va_nearer : Addr
  g_va_nearer : FuncData
  f_va_line : Addr
  g_va_line : FuncData
  f_va_beside : Addr
  g_va_beside : FuncData
  f_va_till : Addr
  g_va_till : FuncData
  f_va_without : Addr
  g_va_without : FuncData
  f_va_look : Addr
  g_va_look : FuncData
  f_va_sums : Addr
  g_va_sums : FuncData
  f_va_back : Addr
  g_va_back : FuncData
  f_va_again : Addr
  g_va_again : FuncData
  f_va_state : Addr
  g_va_state : FuncData
  f_answer : Addr
  g_answer : FuncData
  f_answers : Addr
  g_answers : FuncData
  a_CALLS : Addr
/-- what stands behind the top -/
structure Tx (K : PySem.W.Frag) (mg : Str → Option Value) (t : Ad) : Prop where
  cl_Village : Cls K t.c_Village
  m_Village : mg "Village" = some (.ref t.c_Village)
  no_Village_children : NoAttr K t.c_Village "children"
  no_Village_road : NoAttr K t.c_Village "road"
  no_Village_up : NoAttr K t.c_Village "up"
  mk_Village : Mk K t.c_Village t.f_Village_init
  F_Village_init : Fun K "__init__" "Village.__init__" s_Village_init t.f_Village_init t.g_Village_init
  b_Village_init : Binds K t.g_Village_init ["self", "up", "road", "children"] []
  cl_Valley : Cls K t.c_Valley
  m_Valley : mg "Valley" = some (.ref t.c_Valley)
  no_Valley_earlier : NoAttr K t.c_Valley "earlier"
  no_Valley_later : NoAttr K t.c_Valley "later"
  no_Valley_villages : NoAttr K t.c_Valley "villages"
  mk_Valley : Mk K t.c_Valley t.f_Valley_init
  F_Valley_init : Fun K "__init__" "Valley.__init__" s_Valley_init t.f_Valley_init t.g_Valley_init
  b_Valley_init : Binds K t.g_Valley_init ["self"] []
  me_Valley_begin : Meth K t.c_Valley "begin" t.f_Valley_begin
  F_Valley_begin : Fun K "begin" "Valley.begin" s_Valley_begin t.f_Valley_begin t.g_Valley_begin
  b_Valley_begin : Binds K t.g_Valley_begin ["self", "villages"] []
  me_Valley_change : Meth K t.c_Valley "change" t.f_Valley_change
  F_Valley_change : Fun K "change" "Valley.change" s_Valley_change t.f_Valley_change t.g_Valley_change
  b_Valley_change : Binds K t.g_Valley_change ["self", "villages"] []
  me_Valley_take_back : Meth K t.c_Valley "take_back" t.f_Valley_take_back
  F_Valley_take_back : Fun K "take_back" "Valley.take_back" s_Valley_take_back t.f_Valley_take_back t.g_Valley_take_back
  b_Valley_take_back : Binds K t.g_Valley_take_back ["self"] []
  me_Valley_do_again : Meth K t.c_Valley "do_again" t.f_Valley_do_again
  F_Valley_do_again : Fun K "do_again" "Valley.do_again" s_Valley_do_again t.f_Valley_do_again t.g_Valley_do_again
  b_Valley_do_again : Binds K t.g_Valley_do_again ["self"] []
  d_replaced : Df K mg "replaced" s_replaced ["villages", "v", "village"] t.f_replaced t.g_replaced
  d_with_children : Df K mg "with_children" s_with_children ["villages", "v", "many"] t.f_with_children t.g_with_children
  d_with_road : Df K mg "with_road" s_with_road ["villages", "v", "far"] t.f_with_road t.g_with_road
  d_line : Df K mg "line" s_line ["villages", "v"] t.f_line t.g_line
  d_meeting : Df K mg "meeting" s_meeting ["villages", "v", "w"] t.f_meeting t.g_meeting
  d_distances : Df K mg "distances" s_distances ["villages", "v"] t.f_distances t.g_distances
  d_farthest : Df K mg "farthest" s_farthest ["villages", "v"] t.f_farthest t.g_farthest
  d_ways_over : Df K mg "ways_over" s_ways_over ["villages", "far"] t.f_ways_over t.g_ways_over
  d_all_ways : Df K mg "all_ways" s_all_ways ["villages", "v"] t.f_all_ways t.g_all_ways
  d_best_places : Df K mg "best_places" s_best_places ["villages"] t.f_best_places t.g_best_places
  d_nearer_ways : Df K mg "nearer_ways" s_nearer_ways ["villages", "far", "other"] t.f_nearer_ways t.g_nearer_ways
  d_ways_to_either : Df K mg "ways_to_either" s_ways_to_either ["villages", "v", "w"] t.f_ways_to_either t.g_ways_to_either
  d_best_two : Df K mg "best_two" s_best_two ["villages"] t.f_best_two t.g_best_two
  d_are_beside : Df K mg "are_beside" s_are_beside ["villages", "v", "w"] t.f_are_beside t.g_are_beside
  d_beside : Df K mg "beside" s_beside ["villages", "v"] t.f_beside t.g_beside
  d_branch : Df K mg "branch" s_branch ["villages", "v", "w"] t.f_branch t.g_branch
  d_all_roads : Df K mg "all_roads" s_all_roads ["villages"] t.f_all_roads t.g_all_roads
  d_children_in : Df K mg "children_in" s_children_in ["villages", "places"] t.f_children_in t.g_children_in
  d_all_children : Df K mg "all_children" s_all_children ["villages"] t.f_all_children t.g_all_children
  d_branch_children : Df K mg "branch_children" s_branch_children ["villages", "v", "w"] t.f_branch_children t.g_branch_children
  d_heaviest : Df K mg "heaviest" s_heaviest ["villages", "v"] t.f_heaviest t.g_heaviest
  d_over_half : Df K mg "over_half" s_over_half ["villages", "v"] t.f_over_half t.g_over_half
  d_step_to_half : Df K mg "step_to_half" s_step_to_half ["villages", "v"] t.f_step_to_half t.g_step_to_half
  d_way_to_half : Df K mg "way_to_half" s_way_to_half ["villages", "v"] t.f_way_to_half t.g_way_to_half
  d_is_road : Df K mg "is_road" s_is_road ["far"] t.f_is_road t.g_is_road
  d_bits : Df K mg "bits" s_bits ["places"] t.f_bits t.g_bits
  d_padded : Df K mg "padded" s_padded ["numbers"] t.f_padded t.g_padded
  d_row : Df K mg "row" s_row ["places"] t.f_row t.g_row
  d_va_start : Df K mg "va_start" s_va_start ["valley", "numbers"] t.f_va_start t.g_va_start
  d_va_village : Df K mg "va_village" s_va_village ["valley", "numbers"] t.f_va_village t.g_va_village
  d_va_many : Df K mg "va_many" s_va_many ["valley", "numbers"] t.f_va_many t.g_va_many
  d_va_road : Df K mg "va_road" s_va_road ["valley", "numbers"] t.f_va_road t.g_va_road
  d_va_drop : Df K mg "va_drop" s_va_drop ["valley", "numbers"] t.f_va_drop t.g_va_drop
  d_va_far : Df K mg "va_far" s_va_far ["valley", "numbers"] t.f_va_far t.g_va_far
  d_va_ways : Df K mg "va_ways" s_va_ways ["valley", "numbers"] t.f_va_ways t.g_va_ways
  d_va_best : Df K mg "va_best" s_va_best ["valley", "numbers"] t.f_va_best t.g_va_best
  d_va_all : Df K mg "va_all" s_va_all ["valley", "numbers"] t.f_va_all t.g_va_all
  d_va_heavy : Df K mg "va_heavy" s_va_heavy ["valley", "numbers"] t.f_va_heavy t.g_va_heavy
  d_va_branch : Df K mg "va_branch" s_va_branch ["valley", "numbers"] t.f_va_branch t.g_va_branch
  d_va_toward : Df K mg "va_toward" s_va_toward ["valley", "numbers"] t.f_va_toward t.g_va_toward
  d_va_gain : Df K mg "va_gain" s_va_gain ["valley", "numbers"] t.f_va_gain t.g_va_gain
  d_va_two : Df K mg "va_two" s_va_two ["valley", "numbers"] t.f_va_two t.g_va_two
  d_va_both : Df K mg "va_both" s_va_both ["valley", "numbers"] t.f_va_both t.g_va_both
  d_va_farthest : Df K mg "va_farthest" s_va_farthest ["valley", "numbers"] t.f_va_farthest t.g_va_farthest
  d_va_nearer : Df K mg "va_nearer" s_va_nearer ["valley", "numbers"] t.f_va_nearer t.g_va_nearer
  d_va_line : Df K mg "va_line" s_va_line ["valley", "numbers"] t.f_va_line t.g_va_line
  d_va_beside : Df K mg "va_beside" s_va_beside ["valley", "numbers"] t.f_va_beside t.g_va_beside
  d_va_till : Df K mg "va_till" s_va_till ["valley", "numbers"] t.f_va_till t.g_va_till
  d_va_without : Df K mg "va_without" s_va_without ["valley", "numbers"] t.f_va_without t.g_va_without
  d_va_look : Df K mg "va_look" s_va_look ["valley", "numbers"] t.f_va_look t.g_va_look
  d_va_sums : Df K mg "va_sums" s_va_sums ["valley", "numbers"] t.f_va_sums t.g_va_sums
  d_va_back : Df K mg "va_back" s_va_back ["valley", "numbers"] t.f_va_back t.g_va_back
  d_va_again : Df K mg "va_again" s_va_again ["valley", "numbers"] t.f_va_again t.g_va_again
  d_va_state : Df K mg "va_state" s_va_state ["valley", "numbers"] t.f_va_state t.g_va_state
  d_answer : Df K mg "answer" s_answer ["valley", "call", "numbers"] t.f_answer t.g_answer
  d_answers : Df K mg "answers" s_answers ["calls"] t.f_answers t.g_answers
  k_NO_VILLAGE : ∃ x, mg "NO_VILLAGE" = some (.int (-2) x)
  k_NO_CHANGE : ∃ x, mg "NO_CHANGE" = some (.int (-2) x)
  k_ALONE : ∃ x, mg "ALONE" = some (.int (-6) x)
  k_OUT_OF_BOUNDS : ∃ x, mg "OUT_OF_BOUNDS" = some (.int (-22) x)
  k_FULL : ∃ x, mg "FULL" = some (.int (-28) x)
  k_NOT_THIS_ONE : ∃ x, mg "NOT_THIS_ONE" = some (.int (-33) x)
  k_MOST_VILLAGES : ∃ x, mg "MOST_VILLAGES" = some (.int (12) x)
  k_MOST_CHILDREN : ∃ x, mg "MOST_CHILDREN" = some (.int (1000) x)
  k_LONGEST_ROAD : ∃ x, mg "LONGEST_ROAD" = some (.int (1000) x)
  k_MOST_TAKEN_BACK : ∃ x, mg "MOST_TAKEN_BACK" = some (.int (20) x)
  m_CALLS : mg "CALLS" = some (.ref t.a_CALLS)
  bl_len : mg "len" = none
  bl_max : mg "max" = none
  bl_min : mg "min" = none
  bl_range : mg "range" = none
  bl_sum : mg "sum" = none
/-! the names of each def, parameters first -/
abbrev N_Village_init : List Str := ["self", "up", "road", "children"]
theorem sc_Village_init : FnScope N_Village_init ["self", "up", "road", "children"] (defScope s_Village_init) := ⟨rfl, rfl, rfl, by decide +kernel, rfl, by decide +kernel, by decide +kernel⟩
abbrev N_Valley_init : List Str := ["self"]
theorem sc_Valley_init : FnScope N_Valley_init ["self"] (defScope s_Valley_init) := ⟨rfl, rfl, rfl, by decide +kernel, rfl, by decide +kernel, by decide +kernel⟩
abbrev N_Valley_begin : List Str := ["self", "villages"]
theorem sc_Valley_begin : FnScope N_Valley_begin ["self", "villages"] (defScope s_Valley_begin) := ⟨rfl, rfl, rfl, by decide +kernel, rfl, by decide +kernel, by decide +kernel⟩
abbrev N_Valley_change : List Str := ["self", "villages"]
theorem sc_Valley_change : FnScope N_Valley_change ["self", "villages"] (defScope s_Valley_change) := ⟨rfl, rfl, rfl, by decide +kernel, rfl, by decide +kernel, by decide +kernel⟩
abbrev N_Valley_take_back : List Str := ["self"]
theorem sc_Valley_take_back : FnScope N_Valley_take_back ["self"] (defScope s_Valley_take_back) := ⟨rfl, rfl, rfl, by decide +kernel, rfl, by decide +kernel, by decide +kernel⟩
abbrev N_Valley_do_again : List Str := ["self"]
theorem sc_Valley_do_again : FnScope N_Valley_do_again ["self"] (defScope s_Valley_do_again) := ⟨rfl, rfl, rfl, by decide +kernel, rfl, by decide +kernel, by decide +kernel⟩
abbrev N_replaced : List Str := ["villages", "v", "village"]
theorem sc_replaced : FnScope N_replaced ["villages", "v", "village"] (defScope s_replaced) := ⟨rfl, rfl, rfl, by decide +kernel, rfl, by decide +kernel, by decide +kernel⟩
abbrev N_with_children : List Str := ["villages", "v", "many"]
theorem sc_with_children : FnScope N_with_children ["villages", "v", "many"] (defScope s_with_children) := ⟨rfl, rfl, rfl, by decide +kernel, rfl, by decide +kernel, by decide +kernel⟩
abbrev N_with_road : List Str := ["villages", "v", "far"]
theorem sc_with_road : FnScope N_with_road ["villages", "v", "far"] (defScope s_with_road) := ⟨rfl, rfl, rfl, by decide +kernel, rfl, by decide +kernel, by decide +kernel⟩
abbrev N_line : List Str := ["villages", "v", "passed"]
theorem sc_line : FnScope N_line ["villages", "v"] (defScope s_line) := ⟨rfl, rfl, rfl, by decide +kernel, rfl, by decide +kernel, by decide +kernel⟩
abbrev N_meeting : List Str := ["villages", "v", "w", "others", "x"]
theorem sc_meeting : FnScope N_meeting ["villages", "v", "w"] (defScope s_meeting) := ⟨rfl, rfl, rfl, by decide +kernel, rfl, by decide +kernel, by decide +kernel⟩
abbrev N_distances : List Str := ["villages", "v", "far", "x"]
theorem sc_distances : FnScope N_distances ["villages", "v"] (defScope s_distances) := ⟨rfl, rfl, rfl, by decide +kernel, rfl, by decide +kernel, by decide +kernel⟩
abbrev N_farthest : List Str := ["villages", "v", "far"]
theorem sc_farthest : FnScope N_farthest ["villages", "v"] (defScope s_farthest) := ⟨rfl, rfl, rfl, by decide +kernel, rfl, by decide +kernel, by decide +kernel⟩
abbrev N_ways_over : List Str := ["villages", "far", "x"]
theorem sc_ways_over : FnScope N_ways_over ["villages", "far"] (defScope s_ways_over) := ⟨rfl, rfl, rfl, by decide +kernel, rfl, by decide +kernel, by decide +kernel⟩
abbrev N_all_ways : List Str := ["villages", "v"]
theorem sc_all_ways : FnScope N_all_ways ["villages", "v"] (defScope s_all_ways) := ⟨rfl, rfl, rfl, by decide +kernel, rfl, by decide +kernel, by decide +kernel⟩
abbrev N_best_places : List Str := ["villages", "ways", "v", "least"]
theorem sc_best_places : FnScope N_best_places ["villages"] (defScope s_best_places) := ⟨rfl, rfl, rfl, by decide +kernel, rfl, by decide +kernel, by decide +kernel⟩
abbrev N_nearer_ways : List Str := ["villages", "far", "other", "x"]
theorem sc_nearer_ways : FnScope N_nearer_ways ["villages", "far", "other"] (defScope s_nearer_ways) := ⟨rfl, rfl, rfl, by decide +kernel, rfl, by decide +kernel, by decide +kernel⟩
abbrev N_ways_to_either : List Str := ["villages", "v", "w"]
theorem sc_ways_to_either : FnScope N_ways_to_either ["villages", "v", "w"] (defScope s_ways_to_either) := ⟨rfl, rfl, rfl, by decide +kernel, rfl, by decide +kernel, by decide +kernel⟩
abbrev N_best_two : List Str := ["villages", "far", "v", "pairs", "w", "pair"]
theorem sc_best_two : FnScope N_best_two ["villages"] (defScope s_best_two) := ⟨rfl, rfl, rfl, by decide +kernel, rfl, by decide +kernel, by decide +kernel⟩
abbrev N_are_beside : List Str := ["villages", "v", "w"]
theorem sc_are_beside : FnScope N_are_beside ["villages", "v", "w"] (defScope s_are_beside) := ⟨rfl, rfl, rfl, by decide +kernel, rfl, by decide +kernel, by decide +kernel⟩
abbrev N_beside : List Str := ["villages", "v", "w"]
theorem sc_beside : FnScope N_beside ["villages", "v"] (defScope s_beside) := ⟨rfl, rfl, rfl, by decide +kernel, rfl, by decide +kernel, by decide +kernel⟩
abbrev N_branch : List Str := ["villages", "v", "w", "x"]
theorem sc_branch : FnScope N_branch ["villages", "v", "w"] (defScope s_branch) := ⟨rfl, rfl, rfl, by decide +kernel, rfl, by decide +kernel, by decide +kernel⟩
abbrev N_all_roads : List Str := ["villages", "village"]
theorem sc_all_roads : FnScope N_all_roads ["villages"] (defScope s_all_roads) := ⟨rfl, rfl, rfl, by decide +kernel, rfl, by decide +kernel, by decide +kernel⟩
abbrev N_children_in : List Str := ["villages", "places", "x"]
theorem sc_children_in : FnScope N_children_in ["villages", "places"] (defScope s_children_in) := ⟨rfl, rfl, rfl, by decide +kernel, rfl, by decide +kernel, by decide +kernel⟩
abbrev N_all_children : List Str := ["villages", "village"]
theorem sc_all_children : FnScope N_all_children ["villages"] (defScope s_all_children) := ⟨rfl, rfl, rfl, by decide +kernel, rfl, by decide +kernel, by decide +kernel⟩
abbrev N_branch_children : List Str := ["villages", "v", "w"]
theorem sc_branch_children : FnScope N_branch_children ["villages", "v", "w"] (defScope s_branch_children) := ⟨rfl, rfl, rfl, by decide +kernel, rfl, by decide +kernel, by decide +kernel⟩
abbrev N_heaviest : List Str := ["villages", "v", "w"]
theorem sc_heaviest : FnScope N_heaviest ["villages", "v"] (defScope s_heaviest) := ⟨rfl, rfl, rfl, by decide +kernel, rfl, by decide +kernel, by decide +kernel⟩
abbrev N_over_half : List Str := ["villages", "v", "w"]
theorem sc_over_half : FnScope N_over_half ["villages", "v"] (defScope s_over_half) := ⟨rfl, rfl, rfl, by decide +kernel, rfl, by decide +kernel, by decide +kernel⟩
abbrev N_step_to_half : List Str := ["villages", "v"]
theorem sc_step_to_half : FnScope N_step_to_half ["villages", "v"] (defScope s_step_to_half) := ⟨rfl, rfl, rfl, by decide +kernel, rfl, by decide +kernel, by decide +kernel⟩
abbrev N_way_to_half : List Str := ["villages", "v", "passed", "step"]
theorem sc_way_to_half : FnScope N_way_to_half ["villages", "v"] (defScope s_way_to_half) := ⟨rfl, rfl, rfl, by decide +kernel, rfl, by decide +kernel, by decide +kernel⟩
abbrev N_is_road : List Str := ["far"]
theorem sc_is_road : FnScope N_is_road ["far"] (defScope s_is_road) := ⟨rfl, rfl, rfl, by decide +kernel, rfl, by decide +kernel, by decide +kernel⟩
abbrev N_bits : List Str := ["places", "told", "v"]
theorem sc_bits : FnScope N_bits ["places"] (defScope s_bits) := ⟨rfl, rfl, rfl, by decide +kernel, rfl, by decide +kernel, by decide +kernel⟩
abbrev N_padded : List Str := ["numbers"]
theorem sc_padded : FnScope N_padded ["numbers"] (defScope s_padded) := ⟨rfl, rfl, rfl, by decide +kernel, rfl, by decide +kernel, by decide +kernel⟩
abbrev N_row : List Str := ["places", "v"]
theorem sc_row : FnScope N_row ["places"] (defScope s_row) := ⟨rfl, rfl, rfl, by decide +kernel, rfl, by decide +kernel, by decide +kernel⟩
abbrev N_va_start : List Str := ["valley", "numbers", "many"]
theorem sc_va_start : FnScope N_va_start ["valley", "numbers"] (defScope s_va_start) := ⟨rfl, rfl, rfl, by decide +kernel, rfl, by decide +kernel, by decide +kernel⟩
abbrev N_va_village : List Str := ["valley", "numbers", "up", "far", "many"]
theorem sc_va_village : FnScope N_va_village ["valley", "numbers"] (defScope s_va_village) := ⟨rfl, rfl, rfl, by decide +kernel, rfl, by decide +kernel, by decide +kernel⟩
abbrev N_va_many : List Str := ["valley", "numbers", "v", "many", "had"]
theorem sc_va_many : FnScope N_va_many ["valley", "numbers"] (defScope s_va_many) := ⟨rfl, rfl, rfl, by decide +kernel, rfl, by decide +kernel, by decide +kernel⟩
abbrev N_va_road : List Str := ["valley", "numbers", "v", "far", "had"]
theorem sc_va_road : FnScope N_va_road ["valley", "numbers"] (defScope s_va_road) := ⟨rfl, rfl, rfl, by decide +kernel, rfl, by decide +kernel, by decide +kernel⟩
abbrev N_va_drop : List Str := ["valley", "numbers"]
theorem sc_va_drop : FnScope N_va_drop ["valley", "numbers"] (defScope s_va_drop) := ⟨rfl, rfl, rfl, by decide +kernel, rfl, by decide +kernel, by decide +kernel⟩
abbrev N_va_far : List Str := ["valley", "numbers", "v", "w"]
theorem sc_va_far : FnScope N_va_far ["valley", "numbers"] (defScope s_va_far) := ⟨rfl, rfl, rfl, by decide +kernel, rfl, by decide +kernel, by decide +kernel⟩
abbrev N_va_ways : List Str := ["valley", "numbers"]
theorem sc_va_ways : FnScope N_va_ways ["valley", "numbers"] (defScope s_va_ways) := ⟨rfl, rfl, rfl, by decide +kernel, rfl, by decide +kernel, by decide +kernel⟩
abbrev N_va_best : List Str := ["valley", "numbers", "places"]
theorem sc_va_best : FnScope N_va_best ["valley", "numbers"] (defScope s_va_best) := ⟨rfl, rfl, rfl, by decide +kernel, rfl, by decide +kernel, by decide +kernel⟩
abbrev N_va_all : List Str := ["valley", "numbers", "many", "v"]
theorem sc_va_all : FnScope N_va_all ["valley", "numbers"] (defScope s_va_all) := ⟨rfl, rfl, rfl, by decide +kernel, rfl, by decide +kernel, by decide +kernel⟩
abbrev N_va_heavy : List Str := ["valley", "numbers", "v", "w"]
theorem sc_va_heavy : FnScope N_va_heavy ["valley", "numbers"] (defScope s_va_heavy) := ⟨rfl, rfl, rfl, by decide +kernel, rfl, by decide +kernel, by decide +kernel⟩
abbrev N_va_branch : List Str := ["valley", "numbers", "v", "w", "places"]
theorem sc_va_branch : FnScope N_va_branch ["valley", "numbers"] (defScope s_va_branch) := ⟨rfl, rfl, rfl, by decide +kernel, rfl, by decide +kernel, by decide +kernel⟩
abbrev N_va_toward : List Str := ["valley", "numbers", "passed"]
theorem sc_va_toward : FnScope N_va_toward ["valley", "numbers"] (defScope s_va_toward) := ⟨rfl, rfl, rfl, by decide +kernel, rfl, by decide +kernel, by decide +kernel⟩
abbrev N_va_gain : List Str := ["valley", "numbers"]
theorem sc_va_gain : FnScope N_va_gain ["valley", "numbers"] (defScope s_va_gain) := ⟨rfl, rfl, rfl, by decide +kernel, rfl, by decide +kernel, by decide +kernel⟩
abbrev N_va_two : List Str := ["valley", "numbers", "pair"]
theorem sc_va_two : FnScope N_va_two ["valley", "numbers"] (defScope s_va_two) := ⟨rfl, rfl, rfl, by decide +kernel, rfl, by decide +kernel, by decide +kernel⟩
abbrev N_va_both : List Str := ["valley", "numbers"]
theorem sc_va_both : FnScope N_va_both ["valley", "numbers"] (defScope s_va_both) := ⟨rfl, rfl, rfl, by decide +kernel, rfl, by decide +kernel, by decide +kernel⟩
abbrev N_va_farthest : List Str := ["valley", "numbers", "v", "w"]
theorem sc_va_farthest : FnScope N_va_farthest ["valley", "numbers"] (defScope s_va_farthest) := ⟨rfl, rfl, rfl, by decide +kernel, rfl, by decide +kernel, by decide +kernel⟩
abbrev N_va_nearer : List Str := ["valley", "numbers", "far"]
theorem sc_va_nearer : FnScope N_va_nearer ["valley", "numbers"] (defScope s_va_nearer) := ⟨rfl, rfl, rfl, by decide +kernel, rfl, by decide +kernel, by decide +kernel⟩
abbrev N_va_line : List Str := ["valley", "numbers", "places"]
theorem sc_va_line : FnScope N_va_line ["valley", "numbers"] (defScope s_va_line) := ⟨rfl, rfl, rfl, by decide +kernel, rfl, by decide +kernel, by decide +kernel⟩
abbrev N_va_beside : List Str := ["valley", "numbers", "places"]
theorem sc_va_beside : FnScope N_va_beside ["valley", "numbers"] (defScope s_va_beside) := ⟨rfl, rfl, rfl, by decide +kernel, rfl, by decide +kernel, by decide +kernel⟩
abbrev N_va_till : List Str := ["valley", "numbers"]
theorem sc_va_till : FnScope N_va_till ["valley", "numbers"] (defScope s_va_till) := ⟨rfl, rfl, rfl, by decide +kernel, rfl, by decide +kernel, by decide +kernel⟩
abbrev N_va_without : List Str := ["valley", "numbers", "villages", "places"]
theorem sc_va_without : FnScope N_va_without ["valley", "numbers"] (defScope s_va_without) := ⟨rfl, rfl, rfl, by decide +kernel, rfl, by decide +kernel, by decide +kernel⟩
abbrev N_va_look : List Str := ["valley", "numbers", "village"]
theorem sc_va_look : FnScope N_va_look ["valley", "numbers"] (defScope s_va_look) := ⟨rfl, rfl, rfl, by decide +kernel, rfl, by decide +kernel, by decide +kernel⟩
abbrev N_va_sums : List Str := ["valley", "numbers"]
theorem sc_va_sums : FnScope N_va_sums ["valley", "numbers"] (defScope s_va_sums) := ⟨rfl, rfl, rfl, by decide +kernel, rfl, by decide +kernel, by decide +kernel⟩
abbrev N_va_back : List Str := ["valley", "numbers"]
theorem sc_va_back : FnScope N_va_back ["valley", "numbers"] (defScope s_va_back) := ⟨rfl, rfl, rfl, by decide +kernel, rfl, by decide +kernel, by decide +kernel⟩
abbrev N_va_again : List Str := ["valley", "numbers"]
theorem sc_va_again : FnScope N_va_again ["valley", "numbers"] (defScope s_va_again) := ⟨rfl, rfl, rfl, by decide +kernel, rfl, by decide +kernel, by decide +kernel⟩
abbrev N_va_state : List Str := ["valley", "numbers"]
theorem sc_va_state : FnScope N_va_state ["valley", "numbers"] (defScope s_va_state) := ⟨rfl, rfl, rfl, by decide +kernel, rfl, by decide +kernel, by decide +kernel⟩
abbrev N_answer : List Str := ["valley", "call", "numbers", "v", "run"]
theorem sc_answer : FnScope N_answer ["valley", "call", "numbers"] (defScope s_answer) := ⟨rfl, rfl, rfl, by decide +kernel, rfl, by decide +kernel, by decide +kernel⟩
abbrev N_answers : List Str := ["calls", "valley", "told", "at", "behind", "numbers"]
theorem sc_answers : FnScope N_answers ["calls"] (defScope s_answers) := ⟨rfl, rfl, rfl, by decide +kernel, rfl, by decide +kernel, by decide +kernel⟩
end Sp

end
section
set_option Elab.async false
set_option linter.all false
set_option maxRecDepth 100000
set_option maxHeartbeats 2000000
namespace Sp
open PySem PySem.Spec PyProof.Rows L2 Mt
theorem takeS {α : Type} : ∀ {l : List α} {i : Nat} {x : α}, l[i]? = some x → l.take (i + 1) = l.take i ++ [x]
  | [], i, x, h => by simp at h
  | a :: l, 0, x, h => by
    have e : a = x := Option.some.inj h
    subst e; rfl
  | a :: l, i + 1, x, h => by
    have ih := takeS (l := l) (i := i) (x := x) h
    show a :: l.take (i + 1) = a :: l.take i ++ [x]
    rw [ih]; rfl
theorem nts_at {L : List Nat} {i : Nat} {x : V} (h : (nts L)[i]? = some x) : ∃ n, L[i]? = some n ∧ x = .int (n : Int) := by
  rw [List.getElem?_map] at h
  cases e : L[i]? with
  | none => rw [e] at h; cases h
  | some n => rw [e] at h; exact ⟨n, rfl, (Option.some.inj h).symm⟩
theorem nts_map (l : List Nat) (f : Nat → Nat) : nts (l.map f) = l.map fun x => V.int (f x : Nat) := by simp
/-- an expression that makes nothing but new things, and is worth v -/
def Ev (ts : List TabI) (te : TE) (σ : L2.St) (H : Hp) (v : V) : Prop := ∀ Q : VK, (∀ H', Ext ts H H' → Q v H') → te σ H Q
def Et (ts : List TabI) (tt : TT) (σ : L2.St) (H : Hp) (b : Bool) : Prop := ∀ Q : Bool → Hp → Prop, (∀ H', Ext ts H H' → Q b H') → tt σ H Q
section
variable {ts : List TabI} {K : PySem.W.Frag} {a D : Addr} {L : List Nat} {i : Nat} {tt : TT} {te : TE} {vs : List Nat} {σ : L2.St} {H1 : Hp} {Qd : Hp → Prop}
/-- [f(n) for n in L if p(n)], L a list of numbers -/
theorem lcL (p : Nat → Bool) (f : Nat → V) (hL : SqL K H1 a (nts L)) (hD : H1 D = none) (hlen : L.length ≤ 1000)
    (hw : ∀ n ∈ L, wipe ((wipe σ vs).set i (some (.int (n : Int)))) vs = wipe σ vs)
    (ht : ∀ n ∈ L, ∀ H', Ext ts H1 H' → Et ts tt ((wipe σ vs).set i (some (.int (n : Int)))) H' (p n))
    (he : ∀ n ∈ L, p n = true → ∀ H', Ext ts H1 H' → Ev ts te ((wipe σ vs).set i (some (.int (n : Int)))) H' (f n))
    (hd : ∀ H', Ext ts H1 H' → H' D = some (.lst ((L.filter p).map f)) → Qd H') :
    ∃ W : Nat → Nat → Hp → Prop, (∃ m, W 0 m (upd H1 D (.lst []))) ∧ ∀ j m H, W j m H →
      ((Itl K a).stop j H ∧ Qd H) ∨ ((Itl K a).go j H ∧ ∃ Nx : Hp → Prop, (∀ H', Nx H' → ∃ m', m' < m ∧ W (j + 1) m' H') ∧ ∀ x H', (Itl K a).yld j H x H' → gName i x (wipe σ vs) H' fun σ2 H2 => wipe σ2 vs = wipe σ vs ∧ tt σ2 H2 fun b H3 =>
        if b = true then te σ2 H3 fun y H4 => ∃ acc, H4 D = some (.lst acc) ∧ acc.length < sizeLine ∧ Nx (upd H4 D (.lst (acc ++ [y]))) else Nx H3) := by
  refine lc_list (xs := nts L) (fun j H => Ext ts H1 H ∧ H D = some (.lst (((L.take j).filter p).map f))) ⟨Ext.new hD, by rw [upd_same]; simp⟩ (fun j H _ ⟨e, _⟩ => e.seq hL) ?_ ?_
  · rintro j x H hj ⟨e, hH⟩
    obtain ⟨n, hn, rfl⟩ := nts_at hj
    have m : n ∈ L := List.mem_of_getElem? hn
    refine ⟨hw n m, ht n m H e _ fun H3 e3 => ?_⟩
    have eT := takeS hn
    cases hp : p n with
    | true =>
      rw [if_pos rfl]
      refine he n m hp H3 (e.trans e3) _ fun H4 e4 => ⟨_, (e3.trans e4).lst hH, ?_, ?_, ?_⟩
      · rw [List.length_map]
        exact slt (Nat.le_trans (Nat.le_trans (List.length_filter_le _ _) (by rw [List.length_take]; omega)) (by omega : L.length ≤ 100000))
      · exact (e.trans (e3.trans e4)).put hD ((e3.trans e4).lst hH) rfl (fun _ => by intro q; cases q)
      · rw [upd_same, eT, List.filter_append, List.map_append, List.filter_cons_of_pos hp]
        simp
    | false =>
      rw [if_neg Bool.false_ne_true]
      refine ⟨e.trans e3, ?_⟩
      rw [e3.lst hH, eT, List.filter_append, List.filter_cons_of_neg (by simp [hp])]
      simp
  · rintro H ⟨e, hH⟩
    rw [List.length_map, List.take_length] at hH
    exact hd H e hH
/-- [f(n) for n in range(N) if p(n)] -/
theorem lcR {N : Nat} (p : Nat → Bool) (f : Nat → V) (hD : H1 D = none) (hlen : N ≤ 1000)
    (hw : ∀ n, n < N → wipe ((wipe σ vs).set i (some (.int (n : Int)))) vs = wipe σ vs)
    (ht : ∀ n, n < N → ∀ H', Ext ts H1 H' → Et ts tt ((wipe σ vs).set i (some (.int (n : Int)))) H' (p n))
    (he : ∀ n, n < N → p n = true → ∀ H', Ext ts H1 H' → Ev ts te ((wipe σ vs).set i (some (.int (n : Int)))) H' (f n))
    (hd : ∀ H', Ext ts H1 H' → H' D = some (.lst (((List.range N).filter p).map f)) → Qd H') :
    ∃ W : Nat → Nat → Hp → Prop, (∃ m, W 0 m (upd H1 D (.lst []))) ∧ ∀ j m H, W j m H →
      ((Itr 0 (N : Int).toNat).stop j H ∧ Qd H) ∨ ((Itr 0 (N : Int).toNat).go j H ∧ ∃ Nx : Hp → Prop, (∀ H', Nx H' → ∃ m', m' < m ∧ W (j + 1) m' H') ∧ ∀ x H', (Itr 0 (N : Int).toNat).yld j H x H' → gName i x (wipe σ vs) H' fun σ2 H2 => wipe σ2 vs = wipe σ vs ∧ tt σ2 H2 fun b H3 =>
        if b = true then te σ2 H3 fun y H4 => ∃ acc, H4 D = some (.lst acc) ∧ acc.length < sizeLine ∧ Nx (upd H4 D (.lst (acc ++ [y]))) else Nx H3) := by
  rw [Int.toNat_natCast]
  refine lc_range (fun j H => Ext ts H1 H ∧ H D = some (.lst (((List.range j).filter p).map f))) ⟨Ext.new hD, by rw [upd_same]; simp⟩ ?_ ?_
  · rintro n H hj ⟨e, hH⟩
    rw [Int.zero_add]
    refine ⟨hw n hj, ht n hj H e _ fun H3 e3 => ?_⟩
    cases hp : p n with
    | true =>
      rw [if_pos rfl]
      refine he n hj hp H3 (e.trans e3) _ fun H4 e4 => ⟨_, (e3.trans e4).lst hH, ?_, ?_, ?_⟩
      · rw [List.length_map]
        exact slt (Nat.le_trans (Nat.le_trans (List.length_filter_le _ _) (by rw [List.length_range]; omega)) (by omega : N ≤ 100000))
      · exact (e.trans (e3.trans e4)).put hD ((e3.trans e4).lst hH) rfl (fun _ => by intro q; cases q)
      · rw [upd_same, List.range_succ, List.filter_append, List.map_append, List.filter_cons_of_pos hp]
        simp
    | false =>
      rw [if_neg Bool.false_ne_true]
      refine ⟨e.trans e3, ?_⟩
      rw [e3.lst hH, List.range_succ, List.filter_append, List.filter_cons_of_neg (by simp [hp])]
      simp
  · rintro H ⟨e, hH⟩
    exact hd H e hH
end
/-- without a test -/
theorem et_yes {ts : List TabI} {σ : L2.St} {H : Hp} : Et ts tYes σ H true := fun Q q => q H (Ext.refl H)
theorem filter_yes {α : Type} (l : List α) : l.filter (fun _ => true) = l := List.filter_eq_self.mpr fun _ _ => rfl
theorem inV_nts (x : Nat) : ∀ L : List Nat, inV (.int (x : Int)) (nts L) = L.contains x
  | [] => rfl
  | n :: L => by
    have ih := inV_nts x L
    unfold inV at ih ⊢
    rw [show nts (n :: L) = V.int (n : Int) :: nts L from rfl, List.any_cons, ih, List.contains_cons]
    refine congrArg (· || _) ?_
    show ((n : Int) == (x : Int)) = (x == n)
    by_cases e : x = n
    · subst e; simp
    · rw [beq_eq_false_iff_ne.mpr e, beq_eq_false_iff_ne.mpr (by omega)]
theorem flat_nts : ∀ L : List Nat, (nts L).all flatV = true
  | [] => rfl
  | n :: L => by rw [show nts (n :: L) = V.int (n : Int) :: nts L from rfl, List.all_cons, flat_nts L]; rfl
/-! ### the layer's rules with the written part named, for blocks -/
section
variable {X : Cx} {K : PySem.W.Frag}
theorem pe_fldk {e : Expr} {f : Str} {pos : Pos} {ta : TE} (hK : X.K = K) (he : PE X e ta) (hb : attributeBase e f X.env (eval e X.env) = eval e X.env) : PE X (.Attribute e f pos) (tFld K ta f) := by
  subst hK; exact pe_fld he hb
theorem ix_listk (hK : X.K = K) : IxR X (rIxL K) := by subst hK; exact ix_list
theorem ix_tupk (hK : X.K = K) : IxR X (rIxT K) := by subst hK; exact ix_tup
theorem op_ink (hK : X.K = K) : OpR X (compareOp .In) (rIn K false) := by subst hK; exact op_in_seq
theorem op_notInk (hK : X.K = K) : OpR X (compareOp .NotIn) (rIn K true) := by subst hK; exact op_notIn_seq
end
end Sp

end
section
set_option Elab.async false
set_option linter.all false
set_option maxRecDepth 100000
set_option maxHeartbeats 2000000
namespace Sp
open PySem PySem.Spec PyProof.Rows L2 Mt
variable {P : Program} {w : World} {K : PySem.W.Frag} {mg : Str → Option Value} {base : Heap} {t : Ad} {ts : List TabI}

theorem nts_snoc (l : List Nat) (n : Nat) : nts (l ++ [n]) = nts l ++ [.int (n : Int)] := by simp
/-! ### line -/
def sp_line (t : Ad) (ts : List TabI) : L2.Sp := fun vs H Q _ => ∃ (a : Addr) (s : Km457.Valley) (v : Nat), vs = [.ref a, .int (v : Int)] ∧ VsAt t.c_Village H a s ∧ WF s ∧ v < s.length ∧
  ∀ (H' : Hp) (p : Addr), Ext ts H H' → H p = none → H' p = some (.lst (nts (Km457.line s v))) → Q (.ref p) H'
theorem ok_line (T : Tx K mg t) : FnOk P w K mg base CX0 1 t.f_line t.g_line ["villages", "v"] (sp_line t ts) := by
  refine T.d_line.F.ok sc_line (fun vs H Q E h => ?_) (fun cdv A outer s H vs Q E hr h => ?_)
  · obtain ⟨a, s, v, rfl, _⟩ := h
    rfl
  · obtain ⟨a, s, v, rfl, hV, W, hv, k⟩ := h
    refine ⟨_, pss_cons (ps_set (i := 2) sc_line.nd rfl (Or.inl rfl) (pe_lst (pa_cons (pv 1) pa_nil)))
      (pss_cons (ps_while PassesOwn.never (pt_cmpR op_ne (pv 1) pe_int (nomark _))
        (pss_cons (ps_set (i := 1) sc_line.nd rfl (Or.inl rfl) (pe_fld (pe_ix ix_list (pv 0) (pv 1) (fun _ _ => rfl)) rfl))
          (pss_one (ps_expr (pe_bm PySem.F.plainAttrs_list PySem.F.slot_list_append PySem.F.type_list_append mt_append (pv 2) (pa_cons (pv 1) pa_nil))))))
      (pss_one (ps_ret (pv 2)))), ?_⟩
    refine ⟨_, rfl, (by show 1 ≤ sizeLine; decide), fun p hp => ?_⟩
    refine while_by (fun σ' H' => ∃ (u : Nat) (pre : List Nat), σ' = [some (.ref a), some (.int (u : Int)), some (.ref p)] ∧ Ext ts H H' ∧ H' p = some (.lst (nts (pre ++ [u]))) ∧ u < s.length ∧ Km457.line s v = pre ++ Km457.line s u)
      (fun σ' _ => match σ' with | [_, some (.int u), _] => u.toNat | _ => 0) ⟨v, [], rfl, Ext.new hp, upd_same, hv, rfl⟩ ?_ ?_
    · rintro σ' H' ⟨u, pre, rfl, e, hl, hu, hline⟩
      refine ⟨_, rfl, rfl, _, rfl, ?_⟩
      by_cases h0 : u = 0
      · subst h0
        refine iteNS rfl ?_
        refine ⟨_, rfl, ?_⟩
        rw [line_zero W] at hline
        exact k H' p e hp (by rw [hl, hline])
      · have hn : ¬ (V.int (u : Int) = V.int 0) := fun q => by injection q with q; omega
        rw [decide_eq_false hn]
        obtain ⟨xs, b, dx, h1, h2, h3, h4⟩ := (hV.ext e).at hu
        have hup := W.up u (by omega) hu
        refine ⟨_, rfl, _, rfl, a, xs, _, _, rfl, rfl, SqL.of h1, atI_nat h3, b, _, dx, _, _, rfl, h4, T.cl_Village, T.no_Village_up, vf_up, ?_⟩
        refine ⟨_, rfl, .inl ⟨rfl, _, SqL.of hl⟩, _, rfl, p, _, _, rfl, rfl, hl, ?_, ?_⟩
        · have := line_len W v hv
          have h5 := congrArg List.length hline
          rw [List.length_append] at h5
          have := W.le
          simp only [List.length_map, List.length_append, List.length_singleton]
          exact slt (by omega)
        · have hline2 : Km457.line s v = (pre ++ [u]) ++ Km457.line s (Km457.at_ s u).up := by
            rw [hline, line_succ W (by omega) hu, List.append_assoc]
            rfl
          refine ⟨⟨(Km457.at_ s u).up, pre ++ [u], rfl, e.put hp hl rfl (fun _ => by intro q; cases q), ?_, by omega, hline2⟩, ?_⟩
          · rw [upd_same, nts_snoc (pre ++ [u])]
          · show ((Km457.at_ s u).up : Int).toNat < (u : Int).toNat
            omega
    · rintro σ' H' Q1 Q2 hq ⟨x, e1, e2, y, e3, q⟩
      exact ⟨x, e1, e2, y, e3, hq _ _ q⟩
end Sp

end
section
set_option Elab.async false
set_option linter.all false
set_option maxRecDepth 100000
set_option maxHeartbeats 2000000
namespace Sp
open PySem PySem.Spec PyProof.Rows L2 Mt
variable {P : Program} {w : World} {K : PySem.W.Frag} {mg : Str → Option Value} {base : Heap} {t : Ad} {ts : List TabI}

/-! ### meeting -/
def sp_meeting (t : Ad) (ts : List TabI) : L2.Sp := fun vs H Q _ => ∃ (a : Addr) (s : Km457.Valley) (v u : Nat), vs = [.ref a, .int (v : Int), .int (u : Int)] ∧ VsAt t.c_Village H a s ∧ WF s ∧ v < s.length ∧ u < s.length ∧
  ∀ (H' : Hp), Ext ts H H' → Q (.int (Km457.meet s v u : Nat)) H'
theorem find_filter {α : Type} (p : α → Bool) : ∀ l : List α, (l.filter p)[0]? = l.find? p
  | [] => rfl
  | x :: l => by
    rw [List.find?_cons]
    cases h : p x with
    | true => rw [List.filter_cons_of_pos h]; rfl
    | false => rw [List.filter_cons_of_neg (by simp [h])]; exact find_filter p l
theorem ok_meeting (T : Tx K mg t) : FnOk P w K mg base CX0 2 t.f_meeting t.g_meeting ["villages", "v", "w"] (sp_meeting t ts) := by
  refine T.d_meeting.F.ok sc_meeting (fun vs H Q E h => ?_) (fun cdv A outer s H vs Q E hr h => ?_)
  · obtain ⟨a, s, v, u, rfl, _⟩ := h
    rfl
  · obtain ⟨a, s, v, u, rfl, hV, W, hv, hu, k⟩ := h
    refine ⟨_, pss_cons (ps_set (i := 3) sc_meeting.nd rfl (Or.inr rfl) (pe_call (ok_line (ts := ts) T) hr rfl T.d_line.m T.d_line.F.kp T.d_line.b .nil pass0 (pa_cons (pv 0) (pa_cons (pv 2) pa_nil))))
      (pss_one (ps_ret (pe_ix ix_list (pe_lc (own := [("x", 4)]) rfl sc_meeting.nd (pi_list (pe_call (ok_line (ts := ts) T) hr rfl T.d_line.m T.d_line.F.kp T.d_line.b .nil pass0 (pa_cons (pv 0) (pa_cons (pv 1) pa_nil))))
        (blkOk_by (N := N_meeting) (sc := defScope s_meeting) (by decide +kernel)) (fun _ _ _ _ _ => pg_name (i := 4) sc_meeting.nd rfl (Or.inl rfl)) (fun _ _ _ _ _ => pts_one (pt_cmpR (op_ink (K := K) rfl) (pv 4) (pv 3) rfl)) (fun _ _ _ _ _ => pv 4)) pe_int (fun _ _ => rfl)))), ?_⟩
    refine ⟨_, rfl, _, rfl, a, s, u, rfl, hV, W, hu, fun H1 p e1 hp h1 => ?_⟩
    refine ⟨_, rfl, _, rfl, a, s, v, rfl, hV.ext e1, W, hv, fun H2 q e2 hq h2 => ⟨q, rfl, ⟨_, SqL.of h2⟩, fun D hD => ?_⟩⟩
    have hm := meet_mem W hv hu
    refine lcL (ts := ts) (K := K) (L := Km457.line s v) (i := 4) (fun n => (Km457.line s u).contains n) (fun n => .int (n : Int)) (SqL.of h2) hD (by have := line_len W v hv; have := W.le; omega) (fun _ _ => rfl) ?_ ?_ ?_
    · intro n hn H3 e3 Q' q'
      refine ⟨_, rfl, _, rfl, p, _, rfl, .inl (SqL.of ((e2.trans e3).lst h1)), rfl, flat_nts _, _, rfl, ?_⟩
      show Q' (inV (.int (n : Int)) (nts (Km457.line s u))) H3
      rw [inV_nts]
      exact q' H3 (Ext.refl _)
    · intro n hn _ H3 e3 Q' q'
      exact ⟨_, rfl, q' H3 (Ext.refl _)⟩
    · intro H3 e3 h3
      have e0 : ((Km457.line s v).filter fun n => (Km457.line s u).contains n)[0]? = some (Km457.meet s v u) := by
        rw [find_filter]
        unfold Km457.meet
        cases q : (Km457.line s v).find? fun x => (Km457.line s u).contains x with
        | none =>
          have := List.find?_eq_none.mp q _ hm.1
          simp [hm.2] at this
        | some x => rfl
      refine ⟨D, _, _, _, rfl, rfl, SqL.of h3, atI_nat (j := 0) (v := .int (Km457.meet s v u : Nat)) ?_, k H3 ((e1.trans e2).trans e3)⟩
      rw [List.getElem?_map, e0]
      rfl

/-! ### distances -/
theorem line_next {s : Km457.Valley} (W : WF s) : ∀ v, v < s.length → ∀ (i x : Nat), (Km457.line s v)[i]? = some x → i + 1 < (Km457.line s v).length → 0 < x ∧ (Km457.line s v)[i + 1]? = some (Km457.at_ s x).up := by
  refine down W ?_ fun v h0 hv ih i x hi hl => ?_
  · intro i x hi hl; rw [line_zero W] at hl; simp at hl
  · have hu := W.up v h0 hv
    rw [line_succ W h0 hv] at hi hl ⊢
    cases i with
    | zero =>
      have e : v = x := Option.some.inj hi
      subst e
      refine ⟨h0, ?_⟩
      rw [List.getElem?_cons_succ]
      by_cases e : (Km457.at_ s v).up = 0
      · rw [e, line_zero W]; rfl
      · rw [line_succ W (by omega) (by omega)]; rfl
    | succ i =>
      rw [List.getElem?_cons_succ] at hi
      rw [List.length_cons] at hl
      obtain ⟨a, b⟩ := ih i x hi (by omega)
      exact ⟨a, by rw [List.getElem?_cons_succ]; exact b⟩
theorem cut_last {xs : List V} {i : Nat} {y : V} (h : (cutV xs none (some (-1)))[i]? = some y) : xs[i]? = some y ∧ i + 1 < xs.length := by
  unfold cutV at h
  rw [HT.sIx_none, List.drop_zero, Nat.sub_zero] at h
  have e : HT.sIx xs.length xs.length (some (-1)) = xs.length - 1 := by
    show (if (-1 : Int) < 0 then ((-1 : Int) + (xs.length : Int)).toNat else min (-1 : Int).toNat xs.length) = _
    rw [if_pos (by decide)]
    omega
  rw [e] at h
  have hi : i < xs.length - 1 := by
    cases Nat.lt_or_ge i (xs.length - 1) with
    | inl l => exact l
    | inr g => rw [List.getElem?_eq_none (by rw [List.length_take]; omega)] at h; cases h
  rw [List.getElem?_take_of_lt hi] at h
  exact ⟨h, by omega⟩
theorem cut_last_len {xs : List V} : (cutV xs none (some (-1))).length = xs.length - 1 := by
  unfold cutV
  rw [HT.sIx_none, List.drop_zero, Nat.sub_zero]
  have e : HT.sIx xs.length xs.length (some (-1)) = xs.length - 1 := by
    show (if (-1 : Int) < 0 then ((-1 : Int) + (xs.length : Int)).toNat else min (-1 : Int).toNat xs.length) = _
    rw [if_pos (by decide)]
    omega
  rw [e, List.length_take]
  omega
/-- the dict tells right -/
def Tells (s : Km457.Valley) (v : Nat) (kvs : List (Key × V)) : Prop := ∀ (x : Nat) (u : V), valV kvs (.inl (x : Int)) = some u → u = .int (Km457.far s v x : Nat)
theorem Tells.put {s : Km457.Valley} {v : Nat} {kvs : List (Key × V)} (h : Tells s v kvs) {x : Nat} {z : Int} (e : z = (Km457.far s v x : Nat)) : Tells s v (putK kvs (.inl (x : Int)) (.int z)) := by
  intro y u q
  rw [valV_put] at q
  by_cases c : (Sum.inl (y : Int) : Key) = Sum.inl (x : Int)
  · rw [if_pos c] at q
    injection c with c
    have c : y = x := by omega
    subst c
    rw [e] at q
    exact (Option.some.inj q).symm
  · rw [if_neg c] at q
    exact h y u q
theorem has_put {kvs : List (Key × V)} {x y : Nat} {u : V} (h : y = x ∨ (valV kvs (.inl (y : Int))).isSome = true) : (valV (putK kvs (.inl (x : Int)) u) (.inl (y : Int))).isSome = true := by
  rw [valV_put]
  by_cases c : (Sum.inl (y : Int) : Key) = Sum.inl (x : Int)
  · rw [if_pos c]; rfl
  · rw [if_neg c]
    rcases h with h | h
    · exact absurd (by rw [h]) c
    · exact h
theorem Tells.get {s : Km457.Valley} {v : Nat} {kvs : List (Key × V)} (h : Tells s v kvs) {x : Nat} (hs : (valV kvs (.inl (x : Int))).isSome = true) : valV kvs (.inl (x : Int)) = some (.int (Km457.far s v x : Nat)) := by
  cases e : valV kvs (.inl (x : Int)) with
  | none => rw [e] at hs; cases hs
  | some u => rw [h x u e]
theorem dgetN {H : Hp} {d : Addr} {kvs : List (Key × V)} {i : Int} {v : V} (h : H d = some (.dK kvs)) (e : valV kvs (.inl i) = some v) : DGet H d (.int i) (some v) := by
  have q := DGet.k (k := .inl i) h
  rw [e] at q
  exact q
def sp_distances (t : Ad) (ts : List TabI) : L2.Sp := fun vs H Q _ => ∃ (a : Addr) (s : Km457.Valley) (v : Nat), vs = [.ref a, .int (v : Int)] ∧ VsAt t.c_Village H a s ∧ WF s ∧ v < s.length ∧
  ∀ (H' : Hp) (p : Addr), Ext ts H H' → H p = none → H' p = some (.lst (nts ((Km457.all s).map fun x => Km457.far s v x))) → Q (.ref p) H'
theorem ok_distances (T : Tx K mg t) : FnOk P w K mg base CX0 2 t.f_distances t.g_distances ["villages", "v"] (sp_distances t ts) := by
  refine T.d_distances.F.ok sc_distances (fun vs H Q E h => ?_) (fun cdv A outer s H vs Q E hr h => ?_)
  · obtain ⟨a, s, v, rfl, _⟩ := h
    rfl
  · obtain ⟨a, s, v, rfl, hV, W, hv, k⟩ := h
    have hu := hu_of hr
    have nd := sc_distances.nd
    refine ⟨_, pss_cons (ps_set (i := 2) nd rfl (Or.inr rfl) (pe_disp (pps_cons (pv 1) pe_int pps_nil) rfl rfl (by simp) (by decide)))
      (pss_cons (ps_for PassesOwn.never rfl (pi_list (pe_slice sl_list (pe_call (ok_line (ts := ts) T) hr rfl T.d_line.m T.d_line.F.kp T.d_line.b .nil pass0 (pa_cons (pv 0) (pa_cons (pv 1) pa_nil))) po_none (po_some (pe_un un_neg pe_int)))) (pg_name (i := 3) nd rfl (Or.inl rfl))
        (pss_one (ps_dput hu (pv 2) (pe_fld (pe_ix ix_list (pv 0) (pv 3) (fun _ _ => rfl)) rfl) (pe_op op_add (pe_dget hu (pv 2) (pv 3) (fun _ _ => rfl)) (pe_fld (pe_ix ix_list (pv 0) (pv 3) (fun _ _ => rfl)) rfl)) rfl)))
      (pss_cons (ps_for PassesOwn.never rfl (pi_range1 rfl T.bl_range (pa_cons (pe_callB call_len_seq rfl T.bl_len PySem.boot_len (pa_cons (pv 0) pa_nil)) pa_nil)) (pg_name (i := 3) nd rfl (Or.inl rfl))
        (pss_one (ps_if (pt_cmp (pc_dnotin hu (pv 3) (pv 2)))
          (pss_one (ps_dput hu (pv 2) (pv 3) (pe_op op_add (pe_dget hu (pv 2) (pe_fld (pe_ix ix_list (pv 0) (pv 3) (fun _ _ => rfl)) rfl) (fun _ _ => rfl)) (pe_fld (pe_ix ix_list (pv 0) (pv 3) (fun _ _ => rfl)) rfl)) rfl)) pss_nil)))
      (pss_one (ps_ret (pe_lc (own := [("x", 3)]) rfl nd (pi_range1 rfl T.bl_range (pa_cons (pe_callB call_len_seq rfl T.bl_len PySem.boot_len (pa_cons (pv 0) pa_nil)) pa_nil))
        (blkOk_by (N := N_distances) (sc := defScope s_distances) (by decide +kernel)) (fun _ _ _ _ _ => pg_name (i := 3) nd rfl (Or.inl rfl)) (fun _ _ _ _ _ => pts_nil) (fun _ _ _ _ _ => pe_dget hu (pv 2) (pv 3) (fun _ _ => rfl))))))), ?_⟩
    -- far = {v: 0}
    intro d hd
    refine ⟨_, rfl, upd_same, [(.inl (v : Int), .int 0)], rfl, by simp, ?_⟩
    have hdn : H d = none := hd
    -- the line
    have e0 : Ext ts H (upd (upd H d (.dK [])) d (.dK (mergeK [] [(.inl (v : Int), .int 0)]))) := (Ext.new hd).put hd upd_same rfl (fun _ => by intro q; cases q)
    generalize hk0 : mergeK [] [(Sum.inl (v : Int), V.int 0)] = k0 at e0
    have t0 : Tells s v k0 ∧ (valV k0 (.inl (v : Int))).isSome = true ∧ k0.length ≤ 1 := by
      subst hk0
      refine ⟨?_, ?_, ?_⟩
      · exact Tells.put (kvs := []) (fun x u q => by cases q) (by rw [far_self W hv]; rfl)
      · exact has_put (kvs := []) (.inl rfl)
      · exact length_mergeK [(.inl (v : Int), .int 0)] []
    generalize hH0 : upd (upd H d (.dK [])) d (.dK k0) = H0 at e0
    have hd0 : H0 d = some (.dK k0) := by rw [← hH0]; exact upd_same
    refine ⟨_, rfl, _, rfl, a, s, v, rfl, hV.ext e0, W, hv, fun H1 p e1 hp h1 => ?_⟩
    refine ⟨1, rfl, _, rfl, p, _, rfl, SqL.of h1, fun c hc => ⟨c, rfl, ⟨_, SqL.of upd_same⟩, ?_⟩⟩
    have e2 : Ext ts H0 (upd H1 c (.lst (cutV (nts (Km457.line s v)) none (some (-1))))) := e1.trans (Ext.new hc)
    refine for_list (K := K) (a := c) (xs := cutV (nts (Km457.line s v)) none (some (-1))) (fun i σ' H' => ∃ (x3 : Option V) (kvs : List (Key × V)), σ' = [some (.ref a), some (.int (v : Int)), some (.ref d), x3] ∧ Ext ts H H' ∧ H' c = some (.lst (cutV (nts (Km457.line s v)) none (some (-1)))) ∧
      H' d = some (.dK kvs) ∧ Tells s v kvs ∧ kvs.length ≤ i + 1 ∧ ∀ y ∈ (Km457.line s v).take (i + 1), (valV kvs (.inl (y : Int))).isSome = true) ?_ ?_ ?_ ?_
    · refine ⟨none, k0, rfl, e0.trans e2, upd_same, e2.same _ _ rfl hd0, t0.1, t0.2.2, fun y hy => ?_⟩
      have : y = v := by
        by_cases c : v = 0
        · subst c; rw [line_zero W] at hy; simpa using hy
        · rw [line_succ W (by omega) hv] at hy; simpa using hy
      subst this
      exact t0.2.1
    · rintro i σ' H' _ ⟨_, _, _, _, hc', _⟩
      exact SqL.of hc'
    · rintro i x σ' H' hi ⟨x3, kvs, rfl, e, hc', hd', ht, hl, hh⟩
      obtain ⟨hx, hlt⟩ := cut_last hi
      obtain ⟨n, hn, rfl⟩ := nts_at hx
      rw [List.length_map] at hlt
      obtain ⟨hn0, hnext⟩ := line_next W v hv i n hn hlt
      have hnm : n ∈ Km457.line s v := List.mem_of_getElem? hn
      have hnl := line_lt W hv hnm
      obtain ⟨xs, b, dx, g1, g2, g3, g4⟩ := (hV.ext e).at hnl
      have hnh : (valV kvs (.inl (n : Int))).isSome = true := hh n (by rw [takeS hn]; simp)
      have hfar := far_next W hv hnm hn0
      have hsz : kvs.length ≤ 12 := by have := line_len W v hv; have := W.le; omega
      refine ⟨_, rfl, _, rfl, d, _, rfl, dgetN hd' (ht.get hnh), ?_⟩
      · refine ⟨_, rfl, _, rfl, a, xs, _, _, rfl, rfl, SqL.of g1, atI_nat g3, b, _, dx, _, _, rfl, g4, T.cl_Village, T.no_Village_road, vf_road, _, _, rfl, rfl, ?_⟩
        refine ⟨_, rfl, _, rfl, _, rfl, a, xs, _, _, rfl, rfl, SqL.of g1, atI_nat g3, b, _, dx, _, _, rfl, g4, T.cl_Village, T.no_Village_up, vf_up, d, _, rfl, DPut.k (k := .inl ((Km457.at_ s n).up : Int)) hd' (slt (by omega)), ?_⟩
        refine ⟨_, _, rfl, e.put hdn hd' rfl (fun _ => by intro q; cases q), ?_, upd_same, ht.put (by rw [hfar]; omega), ?_, fun y hy => ?_⟩
        · rw [upd_ne (ne_of hc' hd' (by intro q; cases q))]; exact hc'
        · exact Nat.le_trans (length_putK _ _ _) (by omega)
        · rw [takeS hnext] at hy
          refine has_put ?_
          rcases List.mem_append.mp hy with q | q
          · exact .inr (hh y q)
          · exact .inl (by simpa using q)
    · rintro σ' H' ⟨x3, kvs, rfl, e, hc', hd', ht, hl, hh⟩
      rw [cut_last_len, List.length_map] at hl hh
      have hll := line_len W v hv
      have hle := W.le
      have hlp : 0 < (Km457.line s v).length := List.length_pos_of_mem (line_head W hv)
      have hh' : ∀ y ∈ Km457.line s v, (valV kvs (.inl (y : Int))).isSome = true := fun y hy => hh y (by rw [List.take_of_length_le (by omega)]; exact hy)
      obtain ⟨xs0, g1, g2⟩ := (hV.ext e).lst
      refine ⟨_, rfl, a, _, rfl, .inl (SqL.of g1), ?_⟩
      refine ⟨_, rfl, by omega, by omega, ?_⟩
      rw [g2]
      rw [Int.toNat_natCast]
      refine for_range (fun i σ' H' => ∃ (x3 : Option V) (kvs : List (Key × V)), σ' = [some (.ref a), some (.int (v : Int)), some (.ref d), x3] ∧ Ext ts H H' ∧ H' d = some (.dK kvs) ∧ Tells s v kvs ∧ kvs.length ≤ 13 + i ∧
        (∀ y ∈ Km457.line s v, (valV kvs (.inl (y : Int))).isSome = true) ∧ ∀ y, y < i → (valV kvs (.inl (y : Int))).isSome = true) ⟨x3, kvs, rfl, e, hd', ht, by omega, hh', fun y hy => by omega⟩ ?_ ?_
      · rintro i σ2 H2 hi ⟨y3, kv2, rfl, e', hd2, ht2, hl2, hh2, hi2⟩
        rw [Int.zero_add]
        have g := DGet.k (k := .inl (i : Int)) hd2
        refine ⟨_, rfl, _, rfl, d, _, rfl, g, _, rfl, ?_⟩
        cases hv2 : valV kv2 (.inl (i : Int)) with
        | some u =>
          refine iteF ?_
          refine ⟨_, kv2, rfl, e', hd2, ht2, by omega, hh2, fun y hy => ?_⟩
          by_cases c : y = i
          · subst c; rw [hv2]; rfl
          · exact hi2 y (by omega)
        | none =>
          refine iteT ?_
          have hni : i ∉ Km457.line s v := fun m => by have := hh2 i m; rw [hv2] at this; cases this
          obtain ⟨h0, hf⟩ := far_up W hv hi hni
          have hup := W.up i h0 hi
          obtain ⟨xs, b, dx, q1, q2, q3, q4⟩ := (hV.ext e').at hi
          have hgot := ht2.get (hi2 (Km457.at_ s i).up (by omega))
          refine ⟨_, rfl, _, rfl, _, rfl, a, xs, _, _, rfl, rfl, SqL.of q1, atI_nat q3, b, _, dx, _, _, rfl, q4, T.cl_Village, T.no_Village_up, vf_up, d, _, rfl, dgetN hd2 hgot, ?_⟩
          refine ⟨_, rfl, _, rfl, a, xs, _, _, rfl, rfl, SqL.of q1, atI_nat q3, b, _, dx, _, _, rfl, q4, T.cl_Village, T.no_Village_road, vf_road, _, _, rfl, rfl, ?_⟩
          refine ⟨_, rfl, _, rfl, d, _, rfl, DPut.k (k := .inl (i : Int)) hd2 (slt (by omega)), ?_⟩
          refine ⟨_, _, rfl, e'.put hdn hd2 rfl (fun _ => by intro q; cases q), upd_same, ht2.put (by rw [hf]; omega), ?_, fun y hy => has_put (.inr (hh2 y hy)), fun y hy => has_put ?_⟩
          · exact Nat.le_trans (length_putK _ _ _) (by omega)
          · by_cases c : y = i
            · exact .inl c
            · exact .inr (hi2 y (by omega))
      · rintro σ2 H2 ⟨y3, kv2, rfl, e', hd2, ht2, hl2, hh2, hi2⟩
        obtain ⟨xs0, g1, g2⟩ := (hV.ext e').lst
        refine ⟨_, rfl, a, _, rfl, .inl (SqL.of g1), _, rfl, by omega, by omega, fun D hD => ?_⟩
        rw [g2]
        refine lcR (ts := ts) (i := 3) (fun _ => true) (fun n => .int (Km457.far s v n : Nat)) hD (by omega) (fun _ _ => rfl) (fun _ _ _ _ => et_yes) ?_ ?_
        · intro n hn _ H3 e3 Q' q'
          exact ⟨_, rfl, _, rfl, d, _, rfl, dgetN (e3.same _ _ rfl hd2) (ht2.get (hi2 n hn)), q' H3 (Ext.refl _)⟩
        · intro H3 e3 h3
          refine k H3 D (e'.trans e3) (e'.has _ hD) ?_
          rw [h3, filter_yes, nts_map]
          rfl
end Sp

end
section
set_option Elab.async false
set_option linter.all false
set_option maxRecDepth 100000
set_option maxHeartbeats 2000000
namespace Sp
open PySem PySem.Spec PyProof.Rows L2 Mt
variable {P : Program} {w : World} {K : PySem.W.Frag} {mg : Str → Option Value} {base : Heap} {t : Ad} {ts : List TabI}

theorem sum_nts (l : List Nat) : nts l = (l.map fun (n : Nat) => (n : Int)).map V.int := by simp
theorem nts_all {s : Km457.Valley} (g : Nat → Nat) {n : Nat} (hn : n < s.length) : (nts ((Km457.all s).map g))[n]? = some (.int (g n : Nat)) := by
  rw [List.getElem?_map, List.getElem?_map]
  unfold Km457.all
  rw [List.getElem?_range hn]
  rfl
/-! ### ways_over -/
def sp_ways_over (t : Ad) (ts : List TabI) : L2.Sp := fun vs H Q _ => ∃ (a p : Addr) (s : Km457.Valley) (g : Nat → Nat), vs = [.ref a, .ref p] ∧ VsAt t.c_Village H a s ∧ WF s ∧ H p = some (.lst (nts ((Km457.all s).map g))) ∧
  ∀ (H' : Hp), Ext ts H H' → Q (.int (Km457.sum ((Km457.all s).map fun x => (Km457.at_ s x).many * g x) : Nat)) H'
theorem ok_ways_over (T : Tx K mg t) : FnOk P w K mg base CX0 1 t.f_ways_over t.g_ways_over ["villages", "far"] (sp_ways_over t ts) := by
  refine T.d_ways_over.F.ok sc_ways_over (fun vs H Q E h => ?_) (fun cdv A outer s H vs Q E hr h => ?_)
  · obtain ⟨a, p, s, g, rfl, _⟩ := h
    rfl
  · obtain ⟨a, p, s, g, rfl, hV, W, h1, k⟩ := h
    have nd := sc_ways_over.nd
    refine ⟨_, pss_one (ps_ret (pe_callB (cr_sum rfl) rfl T.bl_sum boot_sum (pa_cons (pe_lc (own := [("x", 2)]) rfl nd (pi_range1 rfl T.bl_range (pa_cons (pe_callB call_len_seq rfl T.bl_len PySem.boot_len (pa_cons (pv 0) pa_nil)) pa_nil))
        (blkOk_by (N := N_ways_over) (sc := defScope s_ways_over) (by decide +kernel)) (fun _ _ _ _ _ => pg_name (i := 2) nd rfl (Or.inl rfl)) (fun _ _ _ _ _ => pts_nil)
        (fun _ _ _ _ _ => pe_op op_mul (pe_fldk (K := K) rfl (pe_ix (ix_listk (K := K) rfl) (pv 0) (pv 2) (fun _ _ => rfl)) rfl) (pe_ix (ix_listk (K := K) rfl) (pv 1) (pv 2) (fun _ _ => rfl)))) pa_nil))), ?_⟩
    obtain ⟨xs0, g1, g2⟩ := hV.lst
    have hle := W.le
    refine ⟨_, rfl, a, _, rfl, .inl (SqL.of g1), _, rfl, by omega, by omega, fun D hD => ?_⟩
    rw [g2]
    refine lcR (ts := ts) (i := 2) (fun _ => true) (fun n => .int (((Km457.at_ s n).many * g n : Nat) : Int)) hD (by omega) (fun _ _ => rfl) (fun _ _ _ _ => et_yes) ?_ ?_
    · intro n hn _ H3 e3 Q' q'
      obtain ⟨xs, b, dx, q1, q2, q3, q4⟩ := (hV.ext e3).at hn
      have hm := W.many n hn
      refine ⟨_, rfl, _, rfl, a, xs, _, _, rfl, rfl, SqL.of q1, atI_nat q3, b, _, dx, _, _, rfl, q4, T.cl_Village, T.no_Village_children, vf_children, ?_⟩
      refine ⟨_, rfl, _, rfl, p, _, _, _, rfl, rfl, SqL.of (e3.lst h1), atI_nat (nts_all g hn), _, _, rfl, rfl, .inl ⟨by omega, by omega⟩, ?_⟩
      have e : ((Km457.at_ s n).many : Int) * (g n : Int) = (((Km457.at_ s n).many * g n : Nat) : Int) := (Int.natCast_mul _ _).symm
      show Q' (V.int (((Km457.at_ s n).many : Int) * (g n : Int))) H3
      rw [e]
      exact q' H3 (Ext.refl _)
    · intro H3 e3 h3
      refine ⟨D, ((Km457.all s).map fun x => (Km457.at_ s x).many * g x).map (fun (n : Nat) => (n : Int)), rfl, SqL.of ?_, ?_⟩
      · rw [h3, filter_yes, ← sum_nts, nts_map]
        rfl
      · rw [← sum_ints]
        exact k H3 e3

/-! ### all_ways -/
def sp_all_ways (t : Ad) (ts : List TabI) : L2.Sp := fun vs H Q _ => ∃ (a : Addr) (s : Km457.Valley) (v : Nat), vs = [.ref a, .int (v : Int)] ∧ VsAt t.c_Village H a s ∧ WF s ∧ v < s.length ∧
  ∀ (H' : Hp), Ext ts H H' → Q (.int (Km457.ways s v : Nat)) H'
theorem ok_all_ways (T : Tx K mg t) : FnOk P w K mg base CX0 3 t.f_all_ways t.g_all_ways ["villages", "v"] (sp_all_ways t ts) := by
  refine T.d_all_ways.F.ok sc_all_ways (fun vs H Q E h => ?_) (fun cdv A outer s H vs Q E hr h => ?_)
  · obtain ⟨a, s, v, rfl, _⟩ := h
    rfl
  · obtain ⟨a, s, v, rfl, hV, W, hv, k⟩ := h
    refine ⟨_, pss_one (ps_ret (pe_call (ok_ways_over (ts := ts) T) (hr.mono (by decide)) rfl T.d_ways_over.m T.d_ways_over.F.kp T.d_ways_over.b .nil pass0 (pa_cons (pv 0) (pa_cons
      (pe_call (ok_distances (ts := ts) T) hr rfl T.d_distances.m T.d_distances.F.kp T.d_distances.b .nil pass0 (pa_cons (pv 0) (pa_cons (pv 1) pa_nil))) pa_nil)))), ?_⟩
    refine ⟨_, rfl, _, rfl, _, rfl, a, s, v, rfl, hV, W, hv, fun H1 p e1 hp h1 => ?_⟩
    exact ⟨a, p, s, Km457.far s v, rfl, hV.ext e1, W, h1, fun H2 e2 => k H2 (e1.trans e2)⟩

/-! ### farthest -/
def amax (g : Nat → Nat) (l : List Nat) (r : Nat) : Nat := l.foldl (fun r x => if g r < g x then x else r) r
theorem amax_stay (g : Nat → Nat) : ∀ (l : List Nat) (r : Nat), (∀ y ∈ l, g y ≤ g r) → amax g l r = r
  | [], _, _ => rfl
  | a :: l, r, h => by
    have := h a (List.mem_cons_self ..)
    unfold amax
    rw [List.foldl_cons, if_neg (by omega)]
    exact amax_stay g l r fun y hy => h y (List.mem_cons_of_mem _ hy)
theorem amax_mem (g : Nat → Nat) : ∀ (l : List Nat) (r : Nat), amax g l r = r ∨ amax g l r ∈ l
  | [], _ => .inl rfl
  | a :: l, r => by
    unfold amax
    rw [List.foldl_cons]
    by_cases c : g r < g a
    · rw [if_pos c]
      rcases amax_mem g l a with e | m
      · exact .inr (by unfold amax at e; rw [e]; exact List.mem_cons_self ..)
      · exact .inr (List.mem_cons_of_mem _ m)
    · rw [if_neg c]
      rcases amax_mem g l r with e | m
      · exact .inl e
      · exact .inr (List.mem_cons_of_mem _ m)
theorem amax_is (g : Nat → Nat) {n j : Nat} (hj : j < n) (h1 : ∀ m, m < n → g m ≤ g j) (h2 : ∀ m, m < j → g m < g j) : amax g (List.range n) 0 = j := by
  have e : List.range n = List.range j ++ j :: (List.range (n - j - 1)).map fun i => j + 1 + i := by
    have e1 : n = j + ((n - j - 1) + 1) := by omega
    conv => lhs; rw [e1, List.range_add, List.range_succ_eq_map, List.map_cons, List.map_map]
    congr 2
    apply List.map_congr_left
    intro a _
    show j + (a + 1) = j + 1 + a
    omega
  have e2 : amax g (List.range j) 0 = 0 ∨ amax g (List.range j) 0 ∈ List.range j := amax_mem g _ _
  have step : (if g (amax g (List.range j) 0) < g j then j else amax g (List.range j) 0) = j := by
    by_cases c : j = 0
    · subst c
      show (if g 0 < g 0 then 0 else 0) = 0
      rw [if_neg (by omega)]
    · rw [if_pos]
      rcases e2 with e2 | e2
      · rw [e2]; exact h2 0 (by omega)
      · exact h2 _ (List.mem_range.mp e2)
  rw [e]
  unfold amax at step ⊢
  rw [List.foldl_append, List.foldl_cons, step]
  exact amax_stay g _ j fun y hy => by
    obtain ⟨i, hi, rfl⟩ := List.mem_map.mp hy
    exact h1 _ (by have := List.mem_range.mp hi; omega)
def far1 (s : Km457.Valley) (v : Nat) : Nat := amax (Km457.far s v) (Km457.all s) 0
def sp_farthest (t : Ad) (ts : List TabI) : L2.Sp := fun vs H Q _ => ∃ (a : Addr) (s : Km457.Valley) (v : Nat), vs = [.ref a, .int (v : Int)] ∧ VsAt t.c_Village H a s ∧ WF s ∧ v < s.length ∧
  ∀ (H' : Hp), Ext ts H H' → far1 s v < s.length → Q (.int (far1 s v : Nat)) H'
theorem first_is (g : Nat → Nat) (m : Nat) : ∀ n, (∃ j, j < n ∧ g j = m) → ∃ j, j < n ∧ g j = m ∧ ∀ i, i < j → g i ≠ m
  | 0, ⟨j, h, _⟩ => absurd h (Nat.not_lt_zero _)
  | n + 1, ⟨j, h, e⟩ => by
    by_cases c : ∃ j, j < n ∧ g j = m
    · obtain ⟨j, h1, h2, h3⟩ := first_is g m n c
      exact ⟨j, by omega, h2, h3⟩
    · have : j = n := by
        by_cases q : j < n
        · exact absurd ⟨j, q, e⟩ c
        · omega
      subst this
      exact ⟨j, h, e, fun i hi q => c ⟨i, hi, q⟩⟩
theorem ok_farthest (T : Tx K mg t) : FnOk P w K mg base CX0 3 t.f_farthest t.g_farthest ["villages", "v"] (sp_farthest t ts) := by
  refine T.d_farthest.F.ok sc_farthest (fun vs H Q E h => ?_) (fun cdv A outer s H vs Q E hr h => ?_)
  · obtain ⟨a, s, v, rfl, _⟩ := h
    rfl
  · obtain ⟨a, s, v, rfl, hV, W, hv, k⟩ := h
    have nd := sc_farthest.nd
    refine ⟨_, pss_cons (ps_set (i := 2) nd rfl (Or.inl rfl) (pe_call (ok_distances (ts := ts) T) hr rfl T.d_distances.m T.d_distances.F.kp T.d_distances.b .nil pass0 (pa_cons (pv 0) (pa_cons (pv 1) pa_nil))))
      (pss_one (ps_ret (pe_bm PySem.F.plainAttrs_list PySem.F.slot_list_index PySem.F.type_list_index mt_index (pv 2) (pa_cons (pe_callB (cr_max rfl) rfl T.bl_max boot_max (pa_cons (pv 2) pa_nil)) pa_nil)))), ?_⟩
    refine ⟨_, rfl, _, rfl, a, s, v, rfl, hV, W, hv, fun H1 p e1 hp h1 => ?_⟩
    have h1' : H1 p = some (.lst ((((Km457.all s).map fun x => Km457.far s v x).map fun (n : Nat) => (n : Int)).map V.int)) := by rw [h1, ← sum_nts]
    refine ⟨_, rfl, .inl ⟨rfl, _, SqL.of h1⟩, _, rfl, p, _, rfl, SqL.of h1', by simp [Km457.all]; exact W.pos, fun m hm hmax => ?_⟩
    obtain ⟨m', hm', rfl⟩ := List.mem_map.mp hm
    obtain ⟨j0, hj0, ej0⟩ := List.mem_map.mp hm'
    have ej0 : Km457.far s v j0 = m' := ej0
    obtain ⟨j, hj, ej, hfst⟩ := first_is (Km457.far s v) m' s.length ⟨j0, all_mem.mp hj0, ej0⟩
    have hle : ∀ i, i < s.length → Km457.far s v i ≤ m' := fun i hi => by
      have := hmax ((Km457.far s v i : Nat) : Int) (List.mem_map.mpr ⟨_, List.mem_map.mpr ⟨i, all_mem.mpr hi, rfl⟩, rfl⟩)
      omega
    have ew : far1 s v = j := amax_is (Km457.far s v) hj (fun m hm => by have := hle m hm; omega) fun m hm => by
      have := hle m (by omega)
      have := hfst m hm
      omega
    refine ⟨p, _, _, j, _, rfl, rfl, SqL.of h1, rfl, flat_nts _, nts_all _ hj, ?_, fun i z hi hz => ?_, ?_⟩
    · show (((Km457.far s v j : Nat) : Int) == (m' : Int)) = true
      rw [ej]; exact beq_self_eq_true _
    · rw [nts_all _ (by omega)] at hz
      have ez := Option.some.inj hz
      subst ez
      show (((Km457.far s v i : Nat) : Int) == (m' : Int)) = false
      have := hfst i hi
      exact beq_eq_false_iff_ne.mpr (by omega)
    · have q := k H1 e1 (by omega)
      rw [ew] at q
      exact q

/-! ### nearer_ways, ways_to_either -/
def sp_nearer_ways (t : Ad) (ts : List TabI) : L2.Sp := fun vs H Q _ => ∃ (a p q : Addr) (s : Km457.Valley) (v u : Nat), vs = [.ref a, .ref p, .ref q] ∧ VsAt t.c_Village H a s ∧ WF s ∧ H p = some (.lst (nts ((Km457.all s).map fun x => Km457.far s v x))) ∧ H q = some (.lst (nts ((Km457.all s).map fun x => Km457.far s u x))) ∧
  ∀ (H' : Hp), Ext ts H H' → Q (.int (Km457.ways2 s v u : Nat)) H'
theorem ok_nearer_ways (T : Tx K mg t) : FnOk P w K mg base CX0 2 t.f_nearer_ways t.g_nearer_ways ["villages", "far", "other"] (sp_nearer_ways t ts) := by
  refine T.d_nearer_ways.F.ok sc_nearer_ways (fun vs H Q E h => ?_) (fun cdv A outer s H vs Q E hr h => ?_)
  · obtain ⟨a, p, q, s, v, u, rfl, _⟩ := h
    rfl
  · obtain ⟨a, p, q, s, v, u, rfl, hV, W, hp, hq, k⟩ := h
    have nd := sc_nearer_ways.nd
    have hle := W.le
    refine ⟨_, pss_one (ps_ret (pe_call (ok_ways_over (ts := ts) T) hr rfl T.d_ways_over.m T.d_ways_over.F.kp T.d_ways_over.b .nil pass0 (pa_cons (pv 0) (pa_cons
      (pe_lc (own := [("x", 3)]) rfl nd (pi_range1 rfl T.bl_range (pa_cons (pe_callB call_len_seq rfl T.bl_len PySem.boot_len (pa_cons (pv 0) pa_nil)) pa_nil))
        (blkOk_by (N := N_nearer_ways) (sc := defScope s_nearer_ways) (by decide +kernel)) (fun _ _ _ _ _ => pg_name (i := 3) nd rfl (Or.inl rfl)) (fun _ _ _ _ _ => pts_nil)
        (fun _ _ _ _ _ => pe_callB (call_min2 rfl) rfl T.bl_min boot_min (pa_cons (pe_ix (ix_listk (K := K) rfl) (pv 1) (pv 3) (fun _ _ => rfl)) (pa_cons (pe_ix (ix_listk (K := K) rfl) (pv 2) (pv 3) (fun _ _ => rfl)) pa_nil)))) pa_nil)))), ?_⟩
    obtain ⟨xs0, g1, g2⟩ := hV.lst
    refine ⟨_, rfl, _, rfl, a, _, rfl, .inl (SqL.of g1), _, rfl, by omega, by omega, fun D hD => ?_⟩
    rw [g2]
    refine lcR (ts := ts) (i := 3) (fun _ => true) (fun n => .int ((min (Km457.far s v n) (Km457.far s u n) : Nat) : Int)) hD (by omega) (fun _ _ => rfl) (fun _ _ _ _ => et_yes) ?_ ?_
    · intro n hn _ H3 e3 Q' q'
      refine ⟨_, rfl, _, rfl, p, _, _, _, rfl, rfl, SqL.of (e3.lst hp), atI_nat (nts_all _ hn), ?_⟩
      refine ⟨_, rfl, _, rfl, q, _, _, _, rfl, rfl, SqL.of (e3.lst hq), atI_nat (nts_all _ hn), _, _, rfl, ?_⟩
      have e : (if ((Km457.far s u n : Nat) : Int) < ((Km457.far s v n : Nat) : Int) then ((Km457.far s u n : Nat) : Int) else ((Km457.far s v n : Nat) : Int)) = ((min (Km457.far s v n) (Km457.far s u n) : Nat) : Int) := by
        by_cases c : Km457.far s u n < Km457.far s v n
        · rw [if_pos (by omega), Nat.min_eq_right (by omega)]
        · rw [if_neg (by omega), Nat.min_eq_left (by omega)]
      show Q' (V.int (if ((Km457.far s u n : Nat) : Int) < ((Km457.far s v n : Nat) : Int) then ((Km457.far s u n : Nat) : Int) else ((Km457.far s v n : Nat) : Int))) H3
      rw [e]
      exact q' H3 (Ext.refl _)
    · intro H3 e3 h3
      refine ⟨a, D, s, fun n => min (Km457.far s v n) (Km457.far s u n), rfl, hV.ext e3, W, ?_, fun H4 e4 => k H4 (e3.trans e4)⟩
      rw [h3, filter_yes, nts_map]
      rfl
def sp_ways_to_either (t : Ad) (ts : List TabI) : L2.Sp := fun vs H Q _ => ∃ (a : Addr) (s : Km457.Valley) (v u : Nat), vs = [.ref a, .int (v : Int), .int (u : Int)] ∧ VsAt t.c_Village H a s ∧ WF s ∧ v < s.length ∧ u < s.length ∧
  ∀ (H' : Hp), Ext ts H H' → Q (.int (Km457.ways2 s v u : Nat)) H'
theorem ok_ways_to_either (T : Tx K mg t) : FnOk P w K mg base CX0 3 t.f_ways_to_either t.g_ways_to_either ["villages", "v", "w"] (sp_ways_to_either t ts) := by
  refine T.d_ways_to_either.F.ok sc_ways_to_either (fun vs H Q E h => ?_) (fun cdv A outer s H vs Q E hr h => ?_)
  · obtain ⟨a, s, v, u, rfl, _⟩ := h
    rfl
  · obtain ⟨a, s, v, u, rfl, hV, W, hv, hu, k⟩ := h
    refine ⟨_, pss_one (ps_ret (pe_call (ok_nearer_ways (ts := ts) T) hr rfl T.d_nearer_ways.m T.d_nearer_ways.F.kp T.d_nearer_ways.b .nil pass0 (pa_cons (pv 0) (pa_cons
      (pe_call (ok_distances (ts := ts) T) hr rfl T.d_distances.m T.d_distances.F.kp T.d_distances.b .nil pass0 (pa_cons (pv 0) (pa_cons (pv 1) pa_nil))) (pa_cons
      (pe_call (ok_distances (ts := ts) T) hr rfl T.d_distances.m T.d_distances.F.kp T.d_distances.b .nil pass0 (pa_cons (pv 0) (pa_cons (pv 2) pa_nil))) pa_nil))))), ?_⟩
    refine ⟨_, rfl, _, rfl, _, rfl, a, s, v, rfl, hV, W, hv, fun H1 p e1 hp h1 => ?_⟩
    refine ⟨_, rfl, _, rfl, a, s, u, rfl, hV.ext e1, W, hu, fun H2 q e2 hq h2 => ?_⟩
    exact ⟨a, p, q, s, v, u, rfl, hV.ext (e1.trans e2), W, e2.lst h1, h2, fun H3 e3 => k H3 ((e1.trans e2).trans e3)⟩

/-! ### best_places -/
def sp_best_places (t : Ad) (ts : List TabI) : L2.Sp := fun vs H Q _ => ∃ (a : Addr) (s : Km457.Valley), vs = [.ref a] ∧ VsAt t.c_Village H a s ∧ WF s ∧
  ∀ (H' : Hp) (p : Addr), Ext ts H H' → H p = none → H' p = some (.lst (nts (Km457.best s))) → Q (.ref p) H'
theorem foldl_min : ∀ (l : List Nat) (a m : Nat), m ≤ a → (∀ y ∈ l, m ≤ y) → (m = a ∨ m ∈ l) → l.foldl min a = m
  | [], a, m, _, _, h => by
    rcases h with h | h
    · exact h.symm
    · simp at h
  | x :: l, a, m, h1, h2, h3 => by
    rw [List.foldl_cons]
    have hx := h2 x (List.mem_cons_self ..)
    refine foldl_min l (min a x) m (by omega) (fun y hy => h2 y (List.mem_cons_of_mem _ hy)) ?_
    rcases h3 with h | h
    · exact .inl (by omega)
    · rcases List.mem_cons.mp h with e | e
      · exact .inl (by omega)
      · exact .inr e
theorem least_of {s : Km457.Valley} (W : WF s) {m : Nat} (h1 : m ∈ (Km457.all s).map fun v => Km457.ways s v) (h2 : ∀ y ∈ (Km457.all s).map fun v => Km457.ways s v, m ≤ y) : Km457.least s = m := by
  unfold Km457.least
  exact foldl_min _ _ _ (h2 _ (List.mem_map.mpr ⟨0, all_mem.mpr W.pos, rfl⟩)) h2 (.inr h1)
theorem ok_best_places (T : Tx K mg t) : FnOk P w K mg base CX0 4 t.f_best_places t.g_best_places ["villages"] (sp_best_places t ts) := by
  refine T.d_best_places.F.ok sc_best_places (fun vs H Q E h => ?_) (fun cdv A outer s H vs Q E hr h => ?_)
  · obtain ⟨a, s, rfl, _⟩ := h
    rfl
  · obtain ⟨a, s, rfl, hV, W, k⟩ := h
    have nd := sc_best_places.nd
    have hle := W.le
    refine ⟨_, pss_cons (ps_set (i := 1) nd rfl (Or.inr rfl) (pe_lc (own := [("v", 2)]) rfl nd (pi_range1 rfl T.bl_range (pa_cons (pe_callB call_len_seq rfl T.bl_len PySem.boot_len (pa_cons (pv 0) pa_nil)) pa_nil))
        (blkOk_by (N := N_best_places) (sc := defScope s_best_places) (by decide +kernel)) (fun _ _ _ _ _ => pg_name (i := 2) nd rfl (Or.inl rfl)) (fun _ _ _ _ _ => pts_nil)
        (fun _ _ _ _ _ => pe_call (ok_all_ways (ts := ts) T) hr rfl T.d_all_ways.m T.d_all_ways.F.kp T.d_all_ways.b .nil pass0 (pa_cons (pv 0) (pa_cons (pv 2) pa_nil)))))
      (pss_cons (ps_set (i := 3) nd rfl (Or.inr rfl) (pe_callB (cr_min rfl) rfl T.bl_min boot_min (pa_cons (pv 1) pa_nil)))
      (pss_one (ps_ret (pe_lc (own := [("v", 2)]) rfl nd (pi_range1 rfl T.bl_range (pa_cons (pe_callB call_len_seq rfl T.bl_len PySem.boot_len (pa_cons (pv 0) pa_nil)) pa_nil))
        (blkOk_by (N := N_best_places) (sc := defScope s_best_places) (by decide +kernel)) (fun _ _ _ _ _ => pg_name (i := 2) nd rfl (Or.inl rfl))
        (fun _ _ _ _ _ => pts_one (pt_cmpR op_eq (pe_ix (ix_listk (K := K) rfl) (pv 1) (pv 2) (fun _ _ => rfl)) (pv 3) (nomark _))) (fun _ _ _ _ _ => pv 2))))), ?_⟩
    obtain ⟨xs0, g1, g2⟩ := hV.lst
    refine ⟨_, rfl, a, _, rfl, .inl (SqL.of g1), _, rfl, by omega, by omega, fun D hD => ?_⟩
    rw [g2]
    refine lcR (ts := ts) (i := 2) (fun _ => true) (fun n => .int (Km457.ways s n : Nat)) hD (by omega) (fun _ _ => rfl) (fun _ _ _ _ => et_yes) ?_ ?_
    · intro n hn _ H3 e3 Q' q'
      exact ⟨_, rfl, _, rfl, a, s, n, rfl, hV.ext e3, W, hn, q'⟩
    · intro H1 e1 h1
      have h1' : H1 D = some (.lst ((((Km457.all s).map fun v => Km457.ways s v).map fun (n : Nat) => (n : Int)).map V.int)) := by
        rw [h1, filter_yes, ← sum_nts, nts_map]
        rfl
      refine ⟨_, rfl, D, _, rfl, SqL.of h1', by simp [Km457.all]; exact W.pos, fun m hm hmin => ?_⟩
      obtain ⟨m', hm', rfl⟩ := List.mem_map.mp hm
      have hl : Km457.least s = m' := least_of W hm' fun y hy => by
        have := hmin (y : Int) (List.mem_map.mpr ⟨y, hy, rfl⟩)
        omega
      obtain ⟨xs1, g3, g4⟩ := (hV.ext e1).lst
      refine ⟨_, rfl, a, _, rfl, .inl (SqL.of g3), _, rfl, by omega, by omega, fun D2 hD2 => ?_⟩
      rw [g4]
      refine lcR (ts := ts) (i := 2) (fun v => Km457.ways s v == Km457.least s) (fun n => .int (n : Int)) hD2 (by omega) (fun _ _ => rfl) ?_ ?_ ?_
      · intro n hn H3 e3 Q' q'
        refine ⟨_, rfl, _, rfl, D, _, _, _, rfl, rfl, SqL.of (e3.lst h1'), atI_nat (v := .int (Km457.ways s n : Nat)) ?_, _, rfl, rfl, _, rfl, ?_⟩
        · rw [List.getElem?_map, List.getElem?_map, List.getElem?_map]
          unfold Km457.all
          rw [List.getElem?_range hn]
          rfl
        · have e : decide (V.int (Km457.ways s n : Nat) = V.int (m' : Int)) = (Km457.ways s n == Km457.least s) := by
            rw [dec_int, hl]
            by_cases c : Km457.ways s n = m'
            · rw [c]; simp
            · rw [beq_eq_false_iff_ne.mpr c, beq_eq_false_iff_ne.mpr (by omega)]
          rw [e]
          exact q' H3 (Ext.refl _)
      · intro n hn _ H3 e3 Q' q'
        exact ⟨_, rfl, q' H3 (Ext.refl _)⟩
      · intro H3 e3 h3
        exact k H3 D2 (e1.trans e3) (e1.has _ hD2) h3
end Sp

end
section
set_option Elab.async false
set_option linter.all false
set_option maxRecDepth 100000
set_option maxHeartbeats 2000000
namespace Sp
open PySem PySem.Spec PyProof.Rows L2 Mt
variable {P : Program} {w : World} {K : PySem.W.Frag} {mg : Str → Option Value} {base : Heap} {t : Ad} {ts : List TabI}

/-! ### are_beside -/
def sp_are_beside (t : Ad) : L2.Sp := fun vs H Q _ => ∃ (a : Addr) (s : Km457.Valley) (v u : Nat), vs = [.ref a, .int (v : Int), .int (u : Int)] ∧ VsAt t.c_Village H a s ∧ WF s ∧ v < s.length ∧ u < s.length ∧ Q (.bl (Km457.near s v u)) H
theorem dec_nat {a b : Nat} : decide (V.int (a : Int) = V.int (b : Int)) = decide (a = b) := by
  by_cases c : a = b
  · subst c; simp
  · have : ¬ V.int (a : Int) = V.int (b : Int) := fun q => by injection q with q; omega
    rw [decide_eq_false c, decide_eq_false this]
theorem ok_are_beside (T : Tx K mg t) : FnOk P w K mg base CX0 1 t.f_are_beside t.g_are_beside ["villages", "v", "w"] (sp_are_beside t) := by
  refine T.d_are_beside.F.ok sc_are_beside (fun vs H Q E h => ?_) (fun cdv A outer s H vs Q E hr h => ?_)
  · obtain ⟨a, s, v, u, rfl, _⟩ := h
    rfl
  · obtain ⟨a, s, v, u, rfl, hV, W, hv, hu, k⟩ := h
    refine ⟨_, pss_one (ps_ret (pe_and (pe_cmpR op_ne (pv 1) (pv 2) (nomark _)) (pe_one (pe_or (pe_cmpR op_eq (pe_fld (pe_ix ix_list (pv 0) (pv 1) (fun _ _ => rfl)) rfl) (pv 2) (nomark _))
      (pe_one (pe_cmpR op_eq (pe_fld (pe_ix ix_list (pv 0) (pv 2) (fun _ _ => rfl)) rfl) (pv 1) (nomark _))))))), ?_⟩
    refine ⟨_, rfl, _, rfl, rfl, _, rfl, ?_⟩
    rw [dec_nat]
    obtain ⟨xs, b, dx, q1, q2, q3, q4⟩ := hV.at hv
    obtain ⟨xs', b', dx', q1', q2', q3', q4'⟩ := hV.at hu
    have hn := near_child W hv hu
    have fin : ∀ c : Bool, (c = true ↔ v ≠ u ∧ ((Km457.at_ s v).up = u ∨ (Km457.at_ s u).up = v)) → Q (.bl c) H := fun c hc => by
      have : c = Km457.near s v u := by rw [Bool.eq_iff_iff, hn]; exact hc
      rw [this]; exact k
    by_cases c : v = u
    · rw [decide_eq_true c]
      refine iteF ?_
      exact fin false (by simp [c])
    · rw [decide_eq_false c]
      refine iteT ?_
      refine ⟨_, rfl, _, rfl, a, xs, _, _, rfl, rfl, SqL.of q1, atI_nat q3, b, _, dx, _, _, rfl, q4, T.cl_Village, T.no_Village_up, vf_up, _, rfl, rfl, _, rfl, ?_⟩
      rw [dec_nat]
      by_cases c1 : (Km457.at_ s v).up = u
      · rw [decide_eq_true c1]
        refine iteT ?_
        exact fin true (by simp [c, c1])
      · rw [decide_eq_false c1]
        refine iteF ?_
        refine ⟨_, rfl, _, rfl, a, xs', _, _, rfl, rfl, SqL.of q1', atI_nat q3', b', _, dx', _, _, rfl, q4', T.cl_Village, T.no_Village_up, vf_up, _, rfl, rfl, ?_⟩
        rw [dec_nat]
        exact fin _ (by simp [c, c1])

/-! ### beside -/
def sp_beside (t : Ad) (ts : List TabI) : L2.Sp := fun vs H Q _ => ∃ (a : Addr) (s : Km457.Valley) (v : Nat), vs = [.ref a, .int (v : Int)] ∧ VsAt t.c_Village H a s ∧ WF s ∧ v < s.length ∧
  ∀ (H' : Hp) (p : Addr), Ext ts H H' → H p = none → H' p = some (.lst (nts ((Km457.all s).filter fun u => Km457.near s v u))) → Q (.ref p) H'
theorem ok_beside (T : Tx K mg t) : FnOk P w K mg base CX0 2 t.f_beside t.g_beside ["villages", "v"] (sp_beside t ts) := by
  refine T.d_beside.F.ok sc_beside (fun vs H Q E h => ?_) (fun cdv A outer s H vs Q E hr h => ?_)
  · obtain ⟨a, s, v, rfl, _⟩ := h
    rfl
  · obtain ⟨a, s, v, rfl, hV, W, hv, k⟩ := h
    have nd := sc_beside.nd
    have hle := W.le
    refine ⟨_, pss_one (ps_ret (pe_lc (own := [("w", 2)]) rfl nd (pi_range1 rfl T.bl_range (pa_cons (pe_callB call_len_seq rfl T.bl_len PySem.boot_len (pa_cons (pv 0) pa_nil)) pa_nil))
        (blkOk_by (N := N_beside) (sc := defScope s_beside) (by decide +kernel)) (fun _ _ _ _ _ => pg_name (i := 2) nd rfl (Or.inl rfl))
        (fun _ _ _ _ _ => pts_one (pt_val (pe_call (ok_are_beside T) hr rfl T.d_are_beside.m T.d_are_beside.F.kp T.d_are_beside.b .nil pass0 (pa_cons (pv 0) (pa_cons (pv 1) (pa_cons (pv 2) pa_nil)))))) (fun _ _ _ _ _ => pv 2))), ?_⟩
    obtain ⟨xs0, g1, g2⟩ := hV.lst
    refine ⟨_, rfl, a, _, rfl, .inl (SqL.of g1), _, rfl, by omega, by omega, fun D hD => ?_⟩
    rw [g2]
    refine lcR (ts := ts) (i := 2) (fun u => Km457.near s v u) (fun n => .int (n : Int)) hD (by omega) (fun _ _ => rfl) ?_ ?_ ?_
    · intro n hn H3 e3 Q' q'
      exact ⟨_, rfl, _, rfl, _, rfl, a, s, v, n, rfl, hV.ext e3, W, hv, hn, _, rfl, q' H3 (Ext.refl _)⟩
    · intro n hn _ H3 e3 Q' q'
      exact ⟨_, rfl, q' H3 (Ext.refl _)⟩
    · intro H3 e3 h3
      exact k H3 D e3 hD h3

/-! ### branch -/
def sp_branch (t : Ad) (ts : List TabI) : L2.Sp := fun vs H Q _ => ∃ (a : Addr) (s : Km457.Valley) (v u : Nat), vs = [.ref a, .int (v : Int), .int (u : Int)] ∧ VsAt t.c_Village H a s ∧ WF s ∧ v < s.length ∧ u < s.length ∧ Km457.near s v u = true ∧
  ∀ (H' : Hp) (p : Addr), Ext ts H H' → H p = none → H' p = some (.lst (nts (Km457.beyond s v u))) → Q (.ref p) H'
theorem ok_branch (T : Tx K mg t) : FnOk P w K mg base CX0 2 t.f_branch t.g_branch ["villages", "v", "w"] (sp_branch t ts) := by
  refine T.d_branch.F.ok sc_branch (fun vs H Q E h => ?_) (fun cdv A outer s H vs Q E hr h => ?_)
  · obtain ⟨a, s, v, u, rfl, _⟩ := h
    rfl
  · obtain ⟨a, s, v, u, rfl, hV, W, hv, hu, hn, k⟩ := h
    have nd := sc_branch.nd
    have hle := W.le
    refine ⟨_, pss_cons (ps_if (pt_cmpR op_eq (pe_fld (pe_ix ix_list (pv 0) (pv 2) (fun _ _ => rfl)) rfl) (pv 1) (nomark _))
        (pss_one (ps_ret (pe_lc (own := [("x", 3)]) rfl nd (pi_range1 rfl T.bl_range (pa_cons (pe_callB call_len_seq rfl T.bl_len PySem.boot_len (pa_cons (pv 0) pa_nil)) pa_nil))
          (blkOk_by (N := N_branch) (sc := defScope s_branch) (by decide +kernel)) (fun _ _ _ _ _ => pg_name (i := 3) nd rfl (Or.inl rfl))
          (fun _ _ _ _ _ => pts_one (pt_cmpR (op_ink (K := K) rfl) (pv 2) (pe_call (ok_line (ts := ts) T) hr rfl T.d_line.m T.d_line.F.kp T.d_line.b .nil pass0 (pa_cons (pv 0) (pa_cons (pv 3) pa_nil))) rfl)) (fun _ _ _ _ _ => pv 3)))) pss_nil)
      (pss_one (ps_ret (pe_lc (own := [("x", 3)]) rfl nd (pi_range1 rfl T.bl_range (pa_cons (pe_callB call_len_seq rfl T.bl_len PySem.boot_len (pa_cons (pv 0) pa_nil)) pa_nil))
          (blkOk_by (N := N_branch) (sc := defScope s_branch) (by decide +kernel)) (fun _ _ _ _ _ => pg_name (i := 3) nd rfl (Or.inl rfl))
          (fun _ _ _ _ _ => pts_one (pt_cmpR (op_notInk (K := K) rfl) (pv 1) (pe_call (ok_line (ts := ts) T) hr rfl T.d_line.m T.d_line.F.kp T.d_line.b .nil pass0 (pa_cons (pv 0) (pa_cons (pv 3) pa_nil))) rfl)) (fun _ _ _ _ _ => pv 3)))), ?_⟩
    obtain ⟨xs', b', dx', q1', q2', q3', q4'⟩ := hV.at hu
    refine ⟨_, rfl, _, rfl, a, xs', _, _, rfl, rfl, SqL.of q1', atI_nat q3', b', _, dx', _, _, rfl, q4', T.cl_Village, T.no_Village_up, vf_up, _, rfl, rfl, _, rfl, ?_⟩
    rw [dec_nat]
    obtain ⟨xs0, g1, g2⟩ := hV.lst
    have hc := near_child W hv hu
    by_cases c : (Km457.at_ s u).up = v
    · rw [decide_eq_true c]
      refine iteT ?_
      have hu0 : u ≠ 0 := fun e => by
        subst e
        rw [W.up0] at c
        exact (hc.mp hn).1 c.symm
      refine ⟨_, rfl, a, _, rfl, .inl (SqL.of g1), _, rfl, by omega, by omega, fun D hD => ?_⟩
      rw [g2]
      refine lcR (ts := ts) (i := 3) (fun n => (Km457.line s n).contains u) (fun n => .int (n : Int)) hD (by omega) (fun _ _ => rfl) ?_ ?_ ?_
      · intro n hn H3 e3 Q' q'
        refine ⟨_, rfl, _, rfl, _, rfl, a, s, n, rfl, hV.ext e3, W, hn, fun H4 p e4 hp h4 => ⟨p, _, rfl, .inl (SqL.of h4), rfl, flat_nts _, _, rfl, ?_⟩⟩
        show Q' (inV (.int (u : Int)) (nts (Km457.line s n))) H4
        rw [inV_nts]
        exact q' H4 e4
      · intro n hn _ H3 e3 Q' q'
        exact ⟨_, rfl, q' H3 (Ext.refl _)⟩
      · intro H3 e3 h3
        refine k H3 D e3 hD ?_
        rw [h3]
        have : Km457.beyond s v u = (List.range s.length).filter fun n => (Km457.line s n).contains u := List.filter_congr fun x _ => by rw [if_pos ⟨c, hu0⟩]
        rw [this]
    · rw [decide_eq_false c]
      refine iteF ?_
      refine ⟨_, rfl, a, _, rfl, .inl (SqL.of g1), _, rfl, by omega, by omega, fun D hD => ?_⟩
      rw [g2]
      refine lcR (ts := ts) (i := 3) (fun n => !(Km457.line s n).contains v) (fun n => .int (n : Int)) hD (by omega) (fun _ _ => rfl) ?_ ?_ ?_
      · intro n hn H3 e3 Q' q'
        refine ⟨_, rfl, _, rfl, _, rfl, a, s, n, rfl, hV.ext e3, W, hn, fun H4 p e4 hp h4 => ⟨p, _, rfl, .inl (SqL.of h4), rfl, flat_nts _, _, rfl, ?_⟩⟩
        show Q' (!inV (.int (v : Int)) (nts (Km457.line s n))) H4
        rw [inV_nts]
        exact q' H4 e4
      · intro n hn _ H3 e3 Q' q'
        exact ⟨_, rfl, q' H3 (Ext.refl _)⟩
      · intro H3 e3 h3
        refine k H3 D e3 hD ?_
        rw [h3]
        have : Km457.beyond s v u = (List.range s.length).filter fun n => !(Km457.line s n).contains v := List.filter_congr fun x _ => by rw [if_neg fun q => c q.1]
        rw [this]

/-! ### children_in, all_children, branch_children -/
def sp_children_in (t : Ad) (ts : List TabI) : L2.Sp := fun vs H Q _ => ∃ (a l : Addr) (s : Km457.Valley) (L : List Nat), vs = [.ref a, .ref l] ∧ VsAt t.c_Village H a s ∧ WF s ∧ H l = some (.lst (nts L)) ∧ L.length ≤ 12 ∧ (∀ x ∈ L, x < s.length) ∧
  ∀ (H' : Hp), Ext ts H H' → Q (.int (Km457.sum (L.map fun x => (Km457.at_ s x).many) : Nat)) H'
theorem ok_children_in (T : Tx K mg t) : FnOk P w K mg base CX0 1 t.f_children_in t.g_children_in ["villages", "places"] (sp_children_in t ts) := by
  refine T.d_children_in.F.ok sc_children_in (fun vs H Q E h => ?_) (fun cdv A outer s H vs Q E hr h => ?_)
  · obtain ⟨a, l, s, L, rfl, _⟩ := h
    rfl
  · obtain ⟨a, l, s, L, rfl, hV, W, hl, hle, hL, k⟩ := h
    have nd := sc_children_in.nd
    refine ⟨_, pss_one (ps_ret (pe_callB (cr_sum rfl) rfl T.bl_sum boot_sum (pa_cons (pe_lc (own := [("x", 2)]) rfl nd (pi_list (pv 1))
        (blkOk_by (N := N_children_in) (sc := defScope s_children_in) (by decide +kernel)) (fun _ _ _ _ _ => pg_name (i := 2) nd rfl (Or.inl rfl)) (fun _ _ _ _ _ => pts_nil)
        (fun _ _ _ _ _ => pe_fldk (K := K) rfl (pe_ix (ix_listk (K := K) rfl) (pv 0) (pv 2) (fun _ _ => rfl)) rfl)) pa_nil))), ?_⟩
    refine ⟨_, rfl, l, rfl, ⟨_, SqL.of hl⟩, fun D hD => ?_⟩
    refine lcL (ts := ts) (K := K) (L := L) (i := 2) (fun _ => true) (fun n => .int (((Km457.at_ s n).many : Nat) : Int)) (SqL.of hl) hD (by omega) (fun _ _ => rfl) (fun _ _ _ _ => et_yes) ?_ ?_
    · intro n hn _ H3 e3 Q' q'
      obtain ⟨xs, b, dx, q1, q2, q3, q4⟩ := (hV.ext e3).at (hL n hn)
      exact ⟨_, rfl, _, rfl, a, xs, _, _, rfl, rfl, SqL.of q1, atI_nat q3, b, _, dx, _, _, rfl, q4, T.cl_Village, T.no_Village_children, vf_children, q' H3 (Ext.refl _)⟩
    · intro H3 e3 h3
      refine ⟨D, (L.map fun x => (Km457.at_ s x).many).map (fun (n : Nat) => (n : Int)), rfl, SqL.of ?_, ?_⟩
      · rw [h3, filter_yes, ← sum_nts, nts_map]
      · rw [← sum_ints]
        exact k H3 e3
def sp_all_children (t : Ad) (ts : List TabI) : L2.Sp := fun vs H Q _ => ∃ (a : Addr) (s : Km457.Valley), vs = [.ref a] ∧ VsAt t.c_Village H a s ∧ WF s ∧ ∀ (H' : Hp), Ext ts H H' → Q (.int (Km457.total s : Nat)) H'
theorem ok_all_children (T : Tx K mg t) : FnOk P w K mg base CX0 1 t.f_all_children t.g_all_children ["villages"] (sp_all_children t ts) := by
  refine T.d_all_children.F.ok sc_all_children (fun vs H Q E h => ?_) (fun cdv A outer s H vs Q E hr h => ?_)
  · obtain ⟨a, s, rfl, _⟩ := h
    rfl
  · obtain ⟨a, s, rfl, hV, W, k⟩ := h
    have nd := sc_all_children.nd
    have hle := W.le
    refine ⟨_, pss_one (ps_ret (pe_callB (cr_sum rfl) rfl T.bl_sum boot_sum (pa_cons (pe_lc (own := [("village", 1)]) rfl nd (pi_list (pv 0))
        (blkOk_by (N := N_all_children) (sc := defScope s_all_children) (by decide +kernel)) (fun _ _ _ _ _ => pg_name (i := 1) nd rfl (Or.inl rfl)) (fun _ _ _ _ _ => pts_nil)
        (fun _ _ _ _ _ => pe_fldk (K := K) rfl (pv 1) rfl)) pa_nil))), ?_⟩
    obtain ⟨as, h1, h2, h3⟩ := hV
    refine ⟨_, rfl, a, rfl, ⟨_, SqL.of h1⟩, fun D hD => ?_⟩
    refine lc_list (K := K) (xs := as.map V.ref) (fun j H' => Ext ts H H' ∧ H' D = some (.lst (((s.take j).map fun x => x.many).map fun (n : Nat) => V.int (n : Int)))) ⟨Ext.new hD, by rw [upd_same]; simp⟩ (fun j H' _ ⟨e, _⟩ => e.seq (SqL.of h1)) ?_ ?_
    · rintro j x H' hj ⟨e, hH⟩
      have hjl : j < s.length := by
        have := (List.getElem?_eq_some_iff.mp hj).1
        rw [List.length_map] at this; omega
      obtain ⟨b, hb, dx, hins⟩ := h3 j s[j] (List.getElem?_eq_getElem hjl)
      have ex : x = .ref b := by
        rw [List.getElem?_map, hb] at hj
        exact (Option.some.inj hj).symm
      subst ex
      refine ⟨rfl, ?_⟩
      unfold tYes
      dsimp only
      rw [if_pos rfl]
      refine ⟨_, rfl, b, _, dx, _, _, rfl, e.ins hins, T.cl_Village, T.no_Village_children, vf_children, _, hH, ?_, e.put hD hH rfl (fun _ => by intro q; cases q), ?_⟩
      · rw [List.length_map, List.length_map, List.length_take]
        exact slt (by omega)
      · rw [upd_same, takeS (List.getElem?_eq_getElem hjl), List.map_append, List.map_append]
        rfl
    · rintro H3 ⟨e, hH⟩
      rw [List.length_map, h2, List.take_length] at hH
      refine ⟨D, (s.map fun x => x.many).map (fun (n : Nat) => (n : Int)), rfl, SqL.of ?_, ?_⟩
      · rw [hH, ← sum_nts]
      · rw [← sum_ints]
        exact k H3 e
def sp_branch_children (t : Ad) (ts : List TabI) : L2.Sp := fun vs H Q _ => ∃ (a : Addr) (s : Km457.Valley) (v u : Nat), vs = [.ref a, .int (v : Int), .int (u : Int)] ∧ VsAt t.c_Village H a s ∧ WF s ∧ v < s.length ∧ u < s.length ∧ Km457.near s v u = true ∧
  ∀ (H' : Hp), Ext ts H H' → Q (.int (Km457.branch s v u : Nat)) H'
theorem beyond_len (s : Km457.Valley) (v u : Nat) : (Km457.beyond s v u).length ≤ s.length := by
  unfold Km457.beyond Km457.all
  exact Nat.le_trans (List.length_filter_le _ _) (by rw [List.length_range]; omega)
theorem ok_branch_children (T : Tx K mg t) : FnOk P w K mg base CX0 3 t.f_branch_children t.g_branch_children ["villages", "v", "w"] (sp_branch_children t ts) := by
  refine T.d_branch_children.F.ok sc_branch_children (fun vs H Q E h => ?_) (fun cdv A outer s H vs Q E hr h => ?_)
  · obtain ⟨a, s, v, u, rfl, _⟩ := h
    rfl
  · obtain ⟨a, s, v, u, rfl, hV, W, hv, hu, hn, k⟩ := h
    have hle := W.le
    refine ⟨_, pss_one (ps_ret (pe_call (ok_children_in (ts := ts) T) (hr.mono (by decide)) rfl T.d_children_in.m T.d_children_in.F.kp T.d_children_in.b .nil pass0 (pa_cons (pv 0) (pa_cons
      (pe_call (ok_branch (ts := ts) T) hr rfl T.d_branch.m T.d_branch.F.kp T.d_branch.b .nil pass0 (pa_cons (pv 0) (pa_cons (pv 1) (pa_cons (pv 2) pa_nil)))) pa_nil)))), ?_⟩
    refine ⟨_, rfl, _, rfl, _, rfl, _, rfl, a, s, v, u, rfl, hV, W, hv, hu, hn, fun H1 p e1 hp h1 => ?_⟩
    exact ⟨a, p, s, _, rfl, hV.ext e1, W, h1, by have := beyond_len s v u; omega, fun x hx => beyond_mem hx, fun H2 e2 => k H2 (e1.trans e2)⟩
end Sp

end
section
set_option Elab.async false
set_option linter.all false
set_option maxRecDepth 100000
set_option maxHeartbeats 2000000
namespace Sp
open PySem PySem.Spec PyProof.Rows L2
open PySem.W (envX kla_fn kla_obj CodeHd tabObj)

/-! ### a lambda of one parameter that captures names of the def around it: its body running -/
abbrev lamCx (X : Cx) (A : Around) (env : Env) (s : Shared) (H : Hp) : Cx :=
  { X with A := A.deeper env, s_0 := s, H_0 := H, env := env, outer := X.stack, stack := env :: X.stack, ex := [], fn := fun _ => false, calm := true, pn := [], xe := fun _ _ => False }
section
variable {X : Cx} {pins : List (Addr × Obj)} {σ : L2.St} {H : Hp} {s : Shared} {A : Around}
theorem lam_start {scope : Scope} {x : Str} {i : Nat} {v : V} {u : Value} {qual : Str} {f : Addr} {cd : Value} {h1 : Heap} {tk : Nat} (I : Inv X pins σ H s) (ok : BlkOk X.N X.env.scope scope [(x, i)]) (hN : X.N.Nodup) (hx : scope.names.lookup x = some .local)
    (nocell : ∀ y ∈ scope.names, y.2 ≠ .cell) (hA : A.frames = some X.stack) (hh : A.handled = none) (r : RelV v u)
    (hns : h1.Ns s.heap.objs.size (fun y => [(x, u)].reverse.lookup y)) (kp : ∀ b o, s.heap.get? b = some o → h1.get? b = some o) (hi : i < σ.length) :
    Inv (lamCx X A (envX qual scope s.heap.objs.size f cd (cloFrom X.env.cells scope.names [])) s H) [] ((wipe σ [i]).set i (some v)) H { s with heap := h1, toks := tk } := by
  have hfree : ∀ y ∈ scope.names, y.2 = .free → ∃ c, X.env.cells.lookup y.1 = some c := fun y hy e => by
    rcases ok.free y hy e with k | k
    · exact I.ok.has _ (.inl k)
    · exact I.ok.has _ (.inr k)
  generalize hclos : cloFrom X.env.cells scope.names [] = clos
  have cm : ∀ {y c}, (y, c) ∈ clos → X.env.cells.lookup y = some c ∧ c < s.heap.objs.size := fun {y c} hm => by
    rw [← hclos] at hm
    rcases cloFrom_mem hm with hm | ⟨h1, rfl⟩
    · cases hm
    · obtain ⟨c, hc⟩ := hfree _ h1 rfl
      rw [hc]
      obtain ⟨w, z⟩ := I.cell _ _ hc
      exact ⟨rfl, z.lt⟩
  have mem : ∀ {y c}, clos.lookup y = some c → X.env.cells.lookup y = some c ∧ c < s.heap.objs.size := fun {y c} e => cm (PySem.mem_of_lookup e)
  have look : ∀ {y}, scope.names.lookup y = some .free → ∃ c, clos.lookup y = some c ∧ X.env.cells.lookup y = some c := fun {y} hl => by
    have hy : (y, NameKind.free) ∈ scope.names := PySem.mem_of_lookup hl
    have hm := cloFrom_has (cells := X.env.cells) (acc := []) hy
    rw [hclos] at hm
    obtain ⟨c', e'⟩ := mem_lookup hm
    exact ⟨c', e', (mem e').1⟩
  have noA : ∀ b : Addr, b ∉ ([] : List Addr) := fun b => by simp
  refine ⟨⟨I.ok.mod, ok.kind, rfl, rfl, Nat.le_refl _, fun y z c e1 e2 => I.ok.inj y z c (mem e1).1 (mem e2).1, fun y hy => ?_, fun y c z _ => (nomatch z), fun _ => hh, Around.frames_deeper hA, .inr ⟨rfl, rfl⟩, fun b z => absurd z (noA b), I.bs, Nat.le_trans I.ok.bsz I.sz, fun b _ _ => noA b,
    fun b z => absurd z (noA b), I.stack, I.stkFree⟩, rfl, I.bare, Un.kept kp, ⟨_, hns, fun j y av e1 e2 e3 => ?_⟩, fun y c e => ?_, I.hok.fresh (Nat.le_refl _), fun y c e => I.freeC y c (mem e).1, fun p hp => absurd (show p ∈ ([] : List (Addr × Obj)) ++ [] from hp) (by simp), I.hok.kept kp, ?_⟩
  · have hy : scope.names.lookup y = some .cell ∨ scope.names.lookup y = some .free := hy
    rcases hy with hy | hy
    · exact absurd rfl (nocell _ (PySem.mem_of_lookup hy))
    · obtain ⟨c, h1, _⟩ := look hy
      exact ⟨c, h1⟩
  · have e1 : X.N[j]? = some y := e1
    have e3 : Vis scope y := e3
    have own : scope.names.lookup y = some .local → y = x := fun k => by
      rcases ok.own _ (PySem.mem_of_lookup k) (.inl rfl) with e' | e'
      · simpa using e'
      · exact absurd (List.mem_of_getElem? e1) e'
    have hix := ok.ix (x, i) (by simp)
    by_cases hj : i = j
    · subst hj
      have hxy : y = x := Option.some.inj (e1.symm.trans hix)
      subst hxy
      rw [List.getElem?_set_self (by rw [wipe_length]; exact hi)] at e2
      have ev : v = av := Option.some.inj (Option.some.inj e2)
      subst ev
      refine ⟨u, r, .inl ⟨hx, ?_⟩⟩
      show ([(y, u)].reverse.lookup y) = some u
      simp [List.lookup]
    · rw [List.getElem?_set_ne hj] at e2
      obtain ⟨e2, _⟩ := wipe_some e2
      have hfr : scope.names.lookup y = some .free := by
        rcases e3 with k | k | k
        · have := own k
          subst this
          exact absurd (nodup_ix hN hix e1) hj
        · exact absurd rfl (nocell _ (PySem.mem_of_lookup k))
        · exact k
      obtain ⟨m, hn, hl⟩ := I.loc
      have hvis : Vis X.env.scope y := (ok.free _ (PySem.mem_of_lookup hfr) rfl).elim (fun k => .inr (.inl k)) (fun k => .inr (.inr k))
      obtain ⟨w, rw_, q⟩ := hl j y av e1 e2 hvis
      obtain ⟨c, h1', h2'⟩ := look hfr
      refine ⟨w, rw_, .inr ⟨.inr hfr, c, h1', ?_⟩⟩
      rcases q with ⟨k, _⟩ | ⟨_, c', e', z⟩
      · have k : X.env.scope.names.lookup y = some .local := k
        rcases ok.free _ (PySem.mem_of_lookup hfr) rfl with k' | k' <;> rw [show X.env.scope.names.lookup y = _ from k'] at k <;> cases k
      · rw [h2'] at e'; cases e'
        exact z.keeps kp
  · obtain ⟨w, z⟩ := I.cell y c (mem e).1
    exact ⟨w, z.keeps kp⟩
  · rw [List.length_set, wipe_length]
    exact I.len
/-- the call of such a lambda -/
theorem lam_call {scope : Scope} {x : Str} {i : Nat} {v : V} {u : Value} {qual : Str} {f c' : Addr} {params : Arguments} {body : Expr} {pm ctv : Value} {oc : Obj} {te : TE} {Q : VK} (I : Inv X pins σ H s) (ok : BlkOk X.N X.env.scope scope [(x, i)]) (hN : X.N.Nodup) (hx : scope.names.lookup x = some .local)
    (nocell : ∀ y ∈ scope.names, y.2 ≠ .cell) (hA : A.frames = some X.stack) (hr : Room 1 A) (r : RelV v u) (hi : i < σ.length) (hco : scope.isCoroutine = false) (hgen : scope.isGenerator = false)
    (hf : H f = some (.frz (kla_obj "<lambda>" qual params body scope (cloFrom X.env.cells scope.names []) pm c' ctv) (.own 0))) (hc : H c' = some (.frz oc (.own 0))) (hcl : codeLike oc qual)
    (hbind : ∀ w : Value, bindArgs (kla_fn "<lambda>" qual params body scope (cloFrom X.env.cells scope.names []) pm (.ref c') ctv) ⟨[w], []⟩ = pure [(x, w)])
    (hb : PE (lamCx X A (envX qual scope s.heap.objs.size f (.ref c') (cloFrom X.env.cells scope.names [])) s H) body te)
    (h : te ((wipe σ [i]).set i (some v)) H Q) :
    codeAny (model X.prog X.w) A (.call (.ref f) ⟨[u], []⟩) (fun r s' => match r with | .ok (.ret z) => CE X.stack X.prog X.w H s Q z s' | .ok _ => False | .error _ => False) s := by
  have ho : s.heap.get? f = some (kla_obj "<lambda>" qual params body scope (cloFrom X.env.cells scope.names []) pm c' ctv) := (I.hok f _ hf).1
  have hoc : s.heap.get? c' = some oc := (I.hok c' _ hc).1
  obtain ⟨vs, tq, hd, hv⟩ := hcl
  refine PySem.W.kla_callFunE hr.depth ho rfl hco hgen rfl ⟨c', oc, vs, tq, rfl, hoc, hd, hv⟩ ?_
  rw [hbind]
  refine wpAny_pure (wpAny_newFunctionEnv nocell (fun y hy => ?_) (fun h1 hns hsb => ⟨(I.nolimit).fresh _ hsb, ?_⟩) ok.kind)
  · have : y = (x, u) := by simpa using hy
    subst this
    exact hx
  · show codeAny _ _ (.expr body (envX qual scope s.heap.objs.size f (.ref c') (cloFrom X.env.cells scope.names []))) _ _
    have kp : ∀ b o, s.heap.get? b = some o → h1.get? b = some o := fun b o e => hsb.extBut b o (Nat.ne_of_lt (Heap.lt_size e)) (Heap.get?_push_of_some _ e)
    have J := lam_start (tk := s.toks + [(x, u)].length) (qual := qual) (f := f) (cd := .ref c') I ok hN hx nocell hA hr.hd r hns kp hi
    refine PySem.W.kla_codeExpr (wpAny_mono (hb [] _ _ H Q J h) (fun z s' hz => ?_) fun _ _ q => False.elim q)
    obtain ⟨av, H', J', rv, q⟩ := hz
    exact ⟨av, H', J'.os, J'.bare, J'.base, J'.hok, rv, q⟩
end
end Sp

end
section
set_option Elab.async false
set_option linter.all false
set_option maxRecDepth 100000
set_option maxHeartbeats 2000000
namespace Sp
open PySem PySem.Spec PyProof.Rows L2
open PySem.W (envX kla_fn kla_obj CodeHd tabObj)
/-- the module's own __builtins__ -/
def BMain (mg : Str → Option Value) (h : Heap) : Prop := ∃ bm ob, mg "__builtins__" = some (.ref bm) ∧ bm ≠ builtinsNs ∧ h.get? bm = some ob ∧ ob.cls = .type "module" ∧ ob.dict = some builtinsNs ∧ ob.data = .plain
section
variable {X : Cx} {pins : List (Addr × Obj)} {σ : L2.St} {H : Hp} {s : Shared}
/-- a table grows by a code's place: what stands then -/
theorem tab_grown {P c' : Addr} {ps more : Array Value} {oc fo : Obj} {h' : Heap} {t' : Nat} (I : Inv X pins σ H s) (hP : H P = some (.tbl ps)) (hx : Heap.ExtBut P s.heap h') (hge : s.heap.objs.size ≤ c') (hlt : c' < h'.objs.size) (hoc : h'.get? c' = some oc) (htb : h'.get? P = some (tabObj (ps ++ more))) (hfo : fo.isFreed = false) :
    Inv X pins σ (upd (upd (upd H P (.tbl (ps ++ more))) c' (.frz oc (.own 0))) h'.objs.size (.frz fo (.own 0))) { s with heap := h'.push fo, toks := t' } := by
  have nc : H c' = none := I.hok.fresh hge
  have hsz : s.heap.objs.size ≤ h'.objs.size := Nat.le_trans hge (Nat.le_of_lt hlt)
  have nf : H h'.objs.size = none := I.hok.fresh hsz
  have cP : c' ≠ P := fun e => by rw [e, hP] at nc; cases nc
  have fP : h'.objs.size ≠ P := fun e => by rw [e, hP] at nf; cases nf
  have cf : c' ≠ h'.objs.size := Nat.ne_of_lt hlt
  have kp : ∀ b o, b ≠ P → s.heap.get? b = some o → (h'.push fo).get? b = some o := fun b o n e => Heap.get?_push_of_some _ (hx b o n e)
  have gP : (h'.push fo).get? P = some (tabObj (ps ++ more)) := Heap.get?_push_of_some _ htb
  have lk : ∀ b u, H b = some u → b ≠ P → upd (upd (upd H P (.tbl (ps ++ more))) c' (.frz oc (.own 0))) h'.objs.size (.frz fo (.own 0)) b = some u := fun b u e n => by
    rw [upd_ne (fun z => by rw [z, nf] at e; cases e), upd_ne (fun z => by rw [z, nc] at e; cases e), upd_ne n]
    exact e
  have lP : upd (upd (upd H P (.tbl (ps ++ more))) c' (.frz oc (.own 0))) h'.objs.size (.frz fo (.own 0)) P = some (.tbl (ps ++ more)) := by
    rw [upd_ne (Ne.symm fP), upd_ne (Ne.symm cP), upd_same]
  have nP : ∀ b, H b = none → b ≠ P := fun b n e => by rw [e, hP] at n; cases n
  refine I.un ⟨fun b o e n _ _ => kp b o (nP b n) e, fun b o e n _ _ => ⟨o.slots, kp b o (nP b n) e⟩, fun b o e n _ => ?_, fun b o e _ => ?_, fun b xs e => lk b _ e fun z => (by rw [z, hP] at e; cases e), fun b o u e => lk b _ e fun z => (by rw [z, hP] at e; cases e), fun b qs e => ?_⟩ ?_
  · have hb := Heap.lt_size e
    rw [upd_ne (Nat.ne_of_lt (Nat.lt_of_lt_of_le hb hsz)), upd_ne (Nat.ne_of_lt (Nat.lt_of_lt_of_le hb hge)), upd_ne (nP b n)]
    exact n
  · by_cases z : b = P
    · exact ⟨_, z ▸ gP⟩
    · exact ⟨o, kp b o z e⟩
  · by_cases z : b = P
    · subst z
      rw [hP] at e
      have e := HO.tbl.inj (Option.some.inj e)
      subst e
      exact ⟨more, lP⟩
    · exact ⟨#[], by rw [lk b _ e z]; simp⟩
  · intro b u e
    by_cases z1 : b = h'.objs.size
    · subst z1
      rw [upd_same] at e
      cases e
      exact ⟨Heap.get?_push_size _ hfo, fo, Heap.get?_push_size _ hfo⟩
    · rw [upd_ne z1] at e
      by_cases z2 : b = c'
      · subst z2
        rw [upd_same] at e
        cases e
        exact ⟨Heap.get?_push_of_some _ hoc, oc, Heap.get?_push_of_some _ hoc⟩
      · rw [upd_ne z2] at e
        by_cases z3 : b = P
        · subst z3
          rw [upd_same] at e
          cases e
          exact gP
        · rw [upd_ne z3] at e
          refine (I.hok b u e).stay (fun d v hd q => kp d v (fun z => ?_) q) (fun d q => lk d _ q fun z => by rw [z, hP] at q; cases q) fun d xs q => lk d _ q fun z => by rw [z, hP] at q; cases q
          rcases hd with hd | hd
          · exact z3 (hd ▸ z)
          · rw [z, hP] at hd; cases hd
theorem lam_eval {ts : List TabI} {ti : TabI} {c : Addr} {params : Arguments} {body : Expr} {scope : Scope} {pos : Pos} {Q : Value → Shared → Prop} {E : Value → Shared → Prop} (I : Inv X pins σ H s) (hti : ti ∈ ts) (huq : ∀ j ∈ ts, j.P = ti.P → j = ti)
    (hl : ti.line = pos.line) (hc : ti.col = pos.col) (hq : ti.qual = X.env.qual ++ "<lambda>") (hcode : X.env.code = .ref c) (C : CodeHd X.base c ti.P) (B : BMain X.mg X.base) (hdef : defaultsOf params X.env = ([], []))
    (hT : TabOk ti H) (hfree : ∀ y ∈ scope.names, y.2 = .free → ∃ c, X.env.cells.lookup y.1 = some c)
    (h : ∀ f c' oc pm ctv H' s', Inv X pins σ H' s' → Ext ts H H' → TabOk ti H' → H' f = some (.frz (kla_obj "<lambda>" ti.qual params body scope (cloFrom X.env.cells scope.names []) pm c' ctv) (.own 0)) → H' c' = some (.frz oc (.own 0)) → codeLike oc ti.qual → Q (.ref f) s') :
    wpAny (model X.prog X.w) X.A (eval (.Lambda params body scope pos) X.env) Q E s := by
  refine PySem.W.kla_eval hdef ?_
  rw [← hq]
  have hgs := I.mod.glob.keeps I.bk
  have hcl := closure_ok hfree
  have CS := C.keeps I.bk
  obtain ⟨bm, ob, b1, b2, b3, b4, b5, b6⟩ := B
  have bb := I.bs _ _ b3
  have tracked : ∃ ps, H ti.P = some (.tbl ps) := by
    rcases hT with e | ⟨_, _, e, _⟩
    · exact ⟨_, e⟩
    · exact ⟨_, e⟩
  have hbG : bm ≠ mainGlobals := fun q => by
    obtain ⟨o, es, ep, e, hd, _⟩ := I.mod.glob
    rw [q, e] at b3; cases b3; rw [hd] at b6; cases b6
  have hbP : bm ≠ ti.P := fun q => by
    obtain ⟨ps, e⟩ := tracked
    rw [← q, bb.2] at e; cases e
  have hgP : mainGlobals ≠ ti.P := fun q => by
    obtain ⟨ps, e⟩ := tracked
    obtain ⟨o, es, ep, e2, hd, _⟩ := I.mod.glob
    rw [← q, (I.bs _ _ e2).2] at e; cases e
  have hB : s.heap.BuiltinsAt X.mg ti.P := ⟨bm, ob, b1, b2, hbG, hbP, bb.1, b4, b5, b6⟩
  rcases hT with e | ⟨c', oc, e1, e2, e3⟩
  · refine PySem.W.kla_makeFunction (mg := X.mg) hcl I.ok.glob hgs hcode CS (I.hok _ _ e) trivial rfl hgP hB fun c' ctv h' tk hx hge hlt hrec htb => ?_
    obtain ⟨c2, oc, vs, tq, q2, hoc, hd, hv⟩ := hrec
    cases q2
    have J := tab_grown (t' := tk) (fo := kla_obj "<lambda>" ti.qual params body scope (cloFrom X.env.cells scope.names []) ((X.mg "__name__").getD .none) c' ctv) I e hx hge hlt hoc htb rfl
    have nc : H c' = none := I.hok.fresh hge
    have nf : H h'.objs.size = none := I.hok.fresh (Nat.le_trans hge (Nat.le_of_lt hlt))
    have cP : c' ≠ ti.P := fun z => by rw [z, e] at nc; cases nc
    have fP : h'.objs.size ≠ ti.P := fun z => by rw [z, e] at nf; cases nf
    have cf : c' ≠ h'.objs.size := Nat.ne_of_lt hlt
    have eqs : (#[] ++ #[rawInt pos.line, rawInt pos.col, .ref c'] : Array Value) = #[rawInt ti.line, rawInt ti.col, .ref c'] := by rw [hl, hc]; simp
    rw [eqs] at J
    have hcode' : upd (upd (upd H ti.P (.tbl #[rawInt ti.line, rawInt ti.col, .ref c'])) c' (.frz oc (.own 0))) h'.objs.size (.frz (kla_obj "<lambda>" ti.qual params body scope (cloFrom X.env.cells scope.names []) ((X.mg "__name__").getD .none) c' ctv) (.own 0)) c' = some (.frz oc (.own 0)) := by
      rw [upd_ne cf, upd_same]
    have hP' : upd (upd (upd H ti.P (.tbl #[rawInt ti.line, rawInt ti.col, .ref c'])) c' (.frz oc (.own 0))) h'.objs.size (.frz (kla_obj "<lambda>" ti.qual params body scope (cloFrom X.env.cells scope.names []) ((X.mg "__name__").getD .none) c' ctv) (.own 0)) ti.P = some (.tbl #[rawInt ti.line, rawInt ti.col, .ref c']) := by
      rw [upd_ne (Ne.symm fP), upd_ne (Ne.symm cP), upd_same]
    have tk1 : TabOk ti (upd (upd (upd H ti.P (.tbl #[rawInt ti.line, rawInt ti.col, .ref c'])) c' (.frz oc (.own 0))) h'.objs.size (.frz (kla_obj "<lambda>" ti.qual params body scope (cloFrom X.env.cells scope.names []) ((X.mg "__name__").getD .none) c' ctv) (.own 0))) := .inr ⟨c', oc, hP', hcode', vs, tq, hd, hv⟩
    have lk : ∀ b u, H b = some u → b ≠ ti.P → upd (upd (upd H ti.P (.tbl #[rawInt ti.line, rawInt ti.col, .ref c'])) c' (.frz oc (.own 0))) h'.objs.size (.frz (kla_obj "<lambda>" ti.qual params body scope (cloFrom X.env.cells scope.names []) ((X.mg "__name__").getD .none) c' ctv) (.own 0)) b = some u := fun b u e n => by
      rw [upd_ne (fun z => by rw [z, nf] at e; cases e), upd_ne (fun z => by rw [z, nc] at e; cases e), upd_ne n]
      exact e
    refine h _ c' oc _ ctv _ _ J ⟨fun b u t q => lk b u q fun z => ?_, fun b q => ?_, fun j hj q => ?_⟩ tk1 upd_same hcode' ⟨vs, tq, hd, hv⟩
    · rw [z, e] at q
      have q := Option.some.inj q
      rw [← q] at t; cases t
    · cases z : H b with
      | none => rfl
      | some u =>
        by_cases zP : b = ti.P
        · rw [zP, hP'] at q; cases q
        · rw [lk b u z zP] at q; cases q
    · by_cases zj : j.P = ti.P
      · rw [huq j hj zj]
        exact tk1
      · rcases q with q | ⟨d, od, q1, q2, q3⟩
        · exact .inl (lk _ _ q zj)
        · exact .inr ⟨d, od, lk _ _ q1 zj, lk _ _ q2 (fun z => by rw [z, e] at q2; cases q2), q3⟩
  · have ht : TriplesOk (#[rawInt ti.line, rawInt ti.col, .ref c'] : Array Value).toList := trivial
    have hf : codeAmong pos (#[rawInt ti.line, rawInt ti.col, .ref c'] : Array Value).toList = some (.ref c') := by
      rw [hl, hc]
      exact codeAmong_snoc (c := .ref c') [] trivial rfl
    refine PySem.W.kla_makeFunctionHit (mg := X.mg) hcl I.ok.glob hgs hcode CS (I.hok _ _ e1) ht hf hB fun ctv h' tk hk hsz => ?_
    have nf : H h'.objs.size = none := I.hok.fresh hsz
    have J := I.laid (a := h'.objs.size) (o := .frz (kla_obj "<lambda>" ti.qual params body scope (cloFrom X.env.cells scope.names []) ((X.mg "__name__").getD .none) c' ctv) (.own 0)) (h' := h'.push (kla_obj "<lambda>" ti.qual params body scope (cloFrom X.env.cells scope.names []) ((X.mg "__name__").getD .none) c' ctv)) (t' := tk)
      (fun b u q => Heap.get?_push_of_some _ (hk b u q)) hsz ⟨Heap.get?_push_size _ rfl, _, Heap.get?_push_size _ rfl⟩
    exact h _ c' oc _ ctv _ _ J (Ext.new nf) (TabOk.upd (.inr ⟨c', oc, e1, e2, e3⟩) fun u q => by rw [nf] at q; cases q) upd_same (by rw [upd_ne (ne_of_none e2 nf)]; exact e2) e3
end
end Sp

end
section
set_option Elab.async false
set_option linter.all false
set_option maxRecDepth 100000
set_option maxHeartbeats 2000000
namespace Sp
open PySem PySem.Spec PyProof.Rows L2
/-- x stands in xs, and is the first of those whose key is greatest -/
def FirstMax (kf : V → Int) (xs : List V) (x : V) : Prop := ∃ pre post, xs = pre ++ x :: post ∧ (∀ y ∈ pre, kf y < kf x) ∧ ∀ y ∈ post, kf y ≤ kf x
section
variable {X : Cx} {pins : List (Addr × Obj)} {σ : L2.St} {A : Around} {R : Result → Shared → Prop}
theorem fp_after {H H' : Hp} {s s' : Shared} {b : Addr} {o : Obj} (I : Inv X pins σ H s) (f : FpOk X pins H b) (un : Un (frs X.stack) [] H H' s.heap s'.heap) (e : s.heap.get? b = some o) : FpOk X pins H' b ∧ s'.heap.get? b = some o := by
  obtain ⟨f0, f1, f2, f3, f4, f5⟩ := f
  refine ⟨⟨un.free b o e f0 (by simp), f1, f2, f3, f4, f5⟩, un.keep b o e f0 (fun z => ?_) (by simp)⟩
  rcases List.mem_cons.mp (I.stkSub b z) with z | z
  · exact f1 z
  · exact f2 z
theorem Inv.turn {H : Hp} {s : Shared} {h' : Heap} {t' : Nat} {b : Addr} (I : Inv X pins σ H s) (f : FpOk X pins H b) (k : ∀ c o, c ≠ b → s.heap.get? c = some o → h'.get? c = some o) : Inv X pins σ H { s with heap := h', toks := t' } :=
  let ⟨f0, f1, _, f3, f4, f5⟩ := f
  I.turned k f0 f1 f3 f4 f5
theorem max_loop {Pv : Hp → Prop} {xs : List V} {kf : V → Int} {l q it S : Addr} {kw : List (Str × Value)} (hh : A.handled = none) (hl : ∀ H, Pv H → SqL X.K H l xs) (hlI : l ≠ it) (hSI : S ≠ it)
    (turn : ∀ x, x ∈ xs → ∀ (H : Hp) (s : Shared) (u : Value), Inv X pins σ H s → Pv H → RelV x u → wpAny (model X.prog X.w) A.in1 (call (.ref q) [u]) (CE X.stack X.prog X.w H s (fun y H' => y = .int (kf x) ∧ Pv H')) (fun _ _ => False) s)
    (hR : ∀ (x : V) (H : Hp) (s : Shared) (u : Value), Inv X pins σ H s → Pv H → RelV x u → FirstMax kf xs x → R (.ok (.ret u)) s) :
    ∀ (r : Nat) (pre mid post : List V) (x : V) (H : Hp) (s : Shared) (vb : Value) (tb : Tok) (c : Nat), xs = pre ++ x :: (mid ++ post) → post.length = r → (∀ y ∈ pre, kf y < kf x) → (∀ y ∈ mid, kf y ≤ kf x) → Inv X pins σ H s → Pv H → FpOk X pins H it → FpOk X pins H S →
      s.heap.get? S = some (seqObj "list" #[vb, .int (kf x) tb] c) → RelV x vb → s.heap.IsListIter it l (pre.length + 1 + mid.length) →
      codeAny (model X.prog X.w) A (.builtin "max.loop" ⟨[.ref it, .ref q, .ref S], kw⟩) R s := by
  have hname : (toString "max" ++ toString ".loop" : String) = "max.loop" := by decide
  intro r
  induction r with
  | zero =>
    intro pre mid post x H s vb tb c hxs hr hpre hmid I p fI fS gS rb hit
    obtain ⟨its, rv, hL, _⟩ := I.list (hl H p)
    have hpost : post = [] := List.length_eq_zero_iff.mp hr
    subst hpost
    have hlen : its.toArray.size = pre.length + 1 + mid.length := by
      have := rv.length
      rw [List.size_toArray, ← this, hxs]
      simp only [List.length_append, List.length_cons, List.length_nil]
      omega
    have W := Walks.list (prog := X.prog) (w := X.w) (A := A.in1) hh it l hlI its.toArray
    refine codeAny_builtin PySem.F.entry_max_loop ?_
    rw [Around.under_plainId PySem.F.plain_max_loop _]
    show wpAny _ A.in1 (seqItems? (.ref S) >>= _) _ _ _
    refine wpAny_bind (wpAny_seqItems gS rfl ?_)
    show wpAny _ A.in1 (tryCatch (pyNext (.ref it)) _ >>= _) _ _ _
    refine wpAny_bind (wpAny_tryCatch (W.done _ _ _ ⟨by rw [hlen]; exact hit, hL.isList⟩ fun h' tk' hk' => ?_))
    have I1 := Inv.turn (t' := tk') I fI fun b o hb e => hk' b o (by simpa using hb) e
    have hS' := hk' S _ (by simpa using hSI) gS
    have s1 := Heap.SameBut.update h' S (Obj.mapSeq fun _ => (#[] : Array Value))
    show wpAny _ A.in1 (updateSeq S (fun _ => #[]) >>= _) _ _ _
    refine wpAny_bind ?_
    refine wpAny_updateSeq hS' rfl (wpAny_bind (wpAny_letGo (wpAny_pure ?_)))
    have I2 := Inv.turn (t' := tk') I1 fS fun b o hb e => (s1.2 b hb).trans e
    exact hR x H _ vb I2 p rb ⟨pre, mid, by rw [hxs, List.append_nil], hpre, hmid⟩
  | succ r ih =>
    intro pre mid post x H s vb tb c hxs hr hpre hmid I p fI fS gS rb hit
    obtain ⟨its, rv, hL, _⟩ := I.list (hl H p)
    obtain ⟨y, post', rfl⟩ : ∃ y post', post = y :: post' := by
      cases post with
      | nil => cases hr
      | cons y post' => exact ⟨y, post', rfl⟩
    have hy : xs[pre.length + 1 + mid.length]? = some y := by
      rw [hxs, List.getElem?_append_right (by omega), show pre.length + 1 + mid.length - pre.length = mid.length + 1 by omega, List.getElem?_cons_succ, List.getElem?_append_right (Nat.le_refl _), Nat.sub_self]
      rfl
    obtain ⟨u, hu, ru⟩ := rv.get hy
    have hmem : y ∈ xs := List.mem_of_getElem? hy
    have hlt : pre.length + 1 + mid.length < its.toArray.size := by
      rw [List.size_toArray]
      exact (List.getElem?_eq_some_iff.mp hu).1
    have W := Walks.list (prog := X.prog) (w := X.w) (A := A.in1) hh it l hlI its.toArray
    refine codeAny_builtin PySem.F.entry_max_loop ?_
    rw [Around.under_plainId PySem.F.plain_max_loop _]
    show wpAny _ A.in1 (seqItems? (.ref S) >>= _) _ _ _
    refine wpAny_bind (wpAny_seqItems gS rfl ?_)
    show wpAny _ A.in1 (tryCatch (pyNext (.ref it)) _ >>= _) _ _ _
    refine wpAny_bind (wpAny_tryCatch (W.item (pre.length + 1 + mid.length) _ _ _ hlt ⟨hit, hL.isList⟩ fun v h' tk' hP hst' hk' => ?_))
    have hv : v = u := by
      have : its[pre.length + 1 + mid.length]? = some v := by simpa using hP
      exact Option.some.inj (this.symm.trans hu)
    subst hv
    obtain ⟨oI, hoI, hoc, hod⟩ := id hst'.1
    have I1 := Inv.turn (t' := tk') I fI fun b o hb e => hk' b o (by simpa using hb) e
    have hS1 := hk' S _ (by simpa using hSI) gS
    show wpAny _ A.in1 (tryCatch (holding [v] (call (.ref q) [v])) _ >>= _) _ _ _
    refine wpAny_bind (wpAny_tryCatch (wpAny_holding (wpAny_mono (turn y hmem H _ v I1 p ru) (fun z s2 he => ?_) fun _ _ hF => hF.elim)))
    obtain ⟨av, H2, os, bare, un, hok, rz, ez, p2⟩ := id he
    subst ez
    obtain ⟨t2, rfl⟩ := rz
    obtain ⟨fI2, hI2⟩ := fp_after I1 fI un hoI
    obtain ⟨fS2, hS2⟩ := fp_after I1 fS un hS1
    have I2 : Inv X pins σ H2 s2 := I1.call' (ch := []) os un hok bare (fun b z => absurd z (by simp))
    have hit2 : s2.heap.IsListIter it l (pre.length + 1 + mid.length + 1) := ⟨oI, hI2, hoc, hod⟩
    show wpAny _ A.in1 (tryCatch (holding [v, .int (kf y) t2] (richCompare .Gt (.int (kf y) t2) (.int (kf x) tb) >>= _)) _ >>= _) _ _ _
    refine wpAny_bind (wpAny_tryCatch (wpAny_holding (wpAny_bind (CmpOf.ints_gt (prog := X.prog) (w := X.w) (A := A.in1) (P := fun (i : Nat) v => ∃ t, v = .int (if i = 0 then kf y else kf x) t) (fun i => if i = 0 then kf y else kf x) (fun i v h => h) 0 1 _ _ _ _ _ ⟨t2, rfl⟩ ⟨tb, rfl⟩ ?_))))
    refine wpAny_bind (wpAny_holding (wpAny_truthy_bool ?_))
    refine wpAny_bind (wpAny_letGo (wpAny_pure ?_))
    by_cases hb' : kf x < kf y
    · have s1 := Heap.SameBut.update s2.heap S (Obj.mapSeq fun _ => #[v, .int (kf y) t2])
      obtain ⟨c2, hc2⟩ : ∃ c2, (s2.heap.update S (Obj.mapSeq fun _ => #[v, .int (kf y) t2])).get? S = some (seqObj "list" #[v, .int (kf y) t2] c2) := ⟨_, get?_update_seq hS2 fun _ => #[v, .int (kf y) t2]⟩
      rw [if_pos (show (fun (i j : Nat) => decide ((if i = 0 then kf y else kf x) > if j = 0 then kf y else kf x)) 0 1 = true from decide_eq_true hb')]
      refine wpAny_bind ?_
      refine wpAny_updateSeq hS2 rfl (wpAny_bind (wpAny_letGo ?_))
      rw [hname]
      have I3 := Inv.turn (t' := s2.toks) I2 fS2 fun b o hb e => (s1.2 b hb).trans e
      refine wpAny_pure ⟨plainId_quiet PySem.F.plain_max_loop _, ih (pre ++ x :: mid) [] post' y H2 _ v t2 c2 (by rw [hxs]; simp) (by simpa using hr) (fun z hz => ?_) (fun z hz => by simp at hz) I3 p2 fI2 fS2 hc2 ru ?_⟩
      · rcases List.mem_append.mp hz with m | m
        · have := hpre z m; omega
        · rcases List.mem_cons.mp m with e | m
          · subst e; omega
          · have := hmid z m; omega
      · obtain ⟨o2, e1, e2, e3⟩ := hit2
        have e4 : (pre ++ x :: mid).length + 1 + ([] : List V).length = pre.length + 1 + mid.length + 1 := by simp only [List.length_append, List.length_cons, List.length_nil]; omega
        rw [e4]
        exact ⟨o2, (s1.2 it hSI.symm).trans e1, e2, e3⟩
    · rw [if_neg (show ¬ (fun (i j : Nat) => decide ((if i = 0 then kf y else kf x) > if j = 0 then kf y else kf x)) 0 1 = true from fun z => hb' (of_decide_eq_true z))]
      refine wpAny_bind (wpAny_letGo ?_)
      rw [hname]
      refine wpAny_pure ⟨plainId_quiet PySem.F.plain_max_loop _, ih pre (mid ++ [y]) post' x H2 s2 vb tb c (by rw [hxs]; simp) (by simpa using hr) hpre (fun z hz => ?_) I2 p2 fI2 fS2 hS2 rb ?_⟩
      · rcases List.mem_append.mp hz with m | m
        · exact hmid z m
        · have : z = y := by simpa using m
          subst this; omega
      · have : pre.length + 1 + (mid ++ [y]).length = pre.length + 1 + mid.length + 1 := by simp; omega
        rw [this]
        exact hit2
end
end Sp

end
section
set_option Elab.async false
set_option linter.all false
set_option maxRecDepth 100000
set_option maxHeartbeats 2000000
namespace Sp
open PySem PySem.Spec PyProof.Rows L2
open PySem.W (envX kla_fn kla_obj CodeHd tabObj)
theorem max_key_default (a v d : Value) : argsOk "max" ⟨[a], [(Str.ofString "key", v), (Str.ofString "default", d)]⟩ := by unfold argsOk; kernel_rfl
section
variable {X : Cx} {pins : List (Addr × Obj)} {σ : L2.St} {H : Hp} {s : Shared} {A : Around} {Q : Value → Shared → Prop} {E : Value → Shared → Prop}
theorem call_maxkey {Pv : Hp → Prop} {xs : List V} {kf : V → Int} {l q : Addr} {dv : Value} (hh : A.handled = none) (I : Inv X pins σ H s) (p : Pv H) (hl : ∀ H, Pv H → SqL X.K H l xs)
    (turn : ∀ x, x ∈ xs → ∀ (H : Hp) (s : Shared) (u : Value), Inv X pins σ H s → Pv H → RelV x u → wpAny (model X.prog X.w) A.in1 (call (.ref q) [u]) (CE X.stack X.prog X.w H s (fun y H' => y = .int (kf x) ∧ Pv H')) (fun _ _ => False) s)
    (h0 : xs = [] → ∀ (s : Shared), Inv X pins σ H s → Q dv s)
    (h1 : ∀ (x : V) (H : Hp) (s : Shared) (u : Value), Inv X pins σ H s → Pv H → RelV x u → FirstMax kf xs x → Q u s) :
    wpAny (model X.prog X.w) A (call (.builtin "max") [.ref l] [(Str.ofString "key", .ref q), (Str.ofString "default", dv)]) Q E s := by
  have hname : (toString "max" ++ toString ".loop" : String) = "max.loop" := by decide
  obtain ⟨its, rv, hL, _⟩ := I.list (hl H p)
  have hls := hL.isList
  obtain ⟨ol, hol, _⟩ := id hls
  have hll : l < s.heap.objs.size := Heap.lt_size hol
  refine kmk_tree PySem.F.kind_max PySem.F.plain_max PySem.F.entry_max (max_key_default _ _ _) ?_
  show wpAny _ A.in1 (Builtin.Builtins.bindParams "max" ["key", "default"] 0 ⟨[], [(Str.ofString "key", .ref q), (Str.ofString "default", dv)]⟩ >>= _) _ _ s
  refine wpAny_bind (wpAny_of_eq (show Builtin.Builtins.bindParams "max" ["key", "default"] 0 ⟨[], [(Str.ofString "key", .ref q), (Str.ofString "default", dv)]⟩ = pure [some (.ref q), some dv] from rfl) ?_)
  refine wpAny_bind (wpAny_pure ?_)
  refine wpAny_bind (wpAny_pyIter_list hls ?_)
  refine wpAny_bind (wpAny_newList ?_ (Nat.zero_le _))
  rw [hname]
  generalize hh1 : (s.heap.push { cls := .type "list_iterator", data := .fields #[.ref l, .int 0 0] }) = hA
  have hS : hA.objs.size = s.heap.objs.size + 1 := by rw [← hh1]; exact size_push' ..
  have gI : (hA.push (seqObj "list" #[] 0)).get? s.heap.objs.size = some { cls := .type "list_iterator", data := .fields #[.ref l, .int 0 0] } := by
    rw [← hh1]
    exact Heap.get?_push_of_some _ (Heap.get?_push_size _ rfl)
  have gS : (hA.push (seqObj "list" #[] 0)).get? hA.objs.size = some (seqObj "list" #[] 0) := Heap.get?_push_size _ rfl
  have hlI : l ≠ s.heap.objs.size := Nat.ne_of_lt hll
  have hSI : hA.objs.size ≠ s.heap.objs.size := by rw [hS]; exact Nat.ne_of_gt (Nat.lt_succ_self _)
  have kp : ∀ b o, s.heap.get? b = some o → (hA.push (seqObj "list" #[] 0)).get? b = some o := fun b o e => by
    rw [← hh1]
    exact Heap.get?_push_of_some _ (Heap.get?_push_of_some _ e)
  have I1 := I.kept (t' := s.toks) kp
  have fI : FpOk X pins H s.heap.objs.size := I.fpOk (Nat.le_refl _) (I.hok.fresh (Nat.le_refl _))
  have fS : FpOk X pins H hA.objs.size := I.fpOk (by rw [hS]; exact Nat.le_succ _) (I.hok.fresh (by rw [hS]; exact Nat.le_succ _))
  have hls1 : (hA.push (seqObj "list" #[] 0)).IsList l its.toArray := by
    obtain ⟨o, e, r⟩ := hls
    exact ⟨o, kp _ _ e, r⟩
  refine wpAny_pure ⟨plainId_quiet PySem.F.plain_max_loop _, ?_⟩
  have W := Walks.list (prog := X.prog) (w := X.w) (A := A.in1) hh s.heap.objs.size l hlI its.toArray
  refine codeAny_builtin PySem.F.entry_max_loop ?_
  rw [Around.under_plainId PySem.F.plain_max_loop _]
  show wpAny _ A.in1 (seqItems? (.ref _) >>= _) _ _ _
  refine wpAny_bind (wpAny_seqItems gS rfl ?_)
  show wpAny _ A.in1 (tryCatch (pyNext (.ref s.heap.objs.size)) _ >>= _) _ _ _
  cases xs with
  | nil =>
    have hz : its = [] := by
      have := rv.length
      exact List.length_eq_zero_iff.mp this.symm
    subst hz
    refine wpAny_bind (wpAny_tryCatch (W.done _ _ _ ⟨⟨_, gI, rfl, rfl⟩, hls1⟩ fun h' tk' hk' => ?_))
    have I2 := Inv.turn (t' := tk') I1 fI fun b o hb e => hk' b o (by simpa using hb) e
    exact wpAny_bind (wpAny_rule (wpAny_pure (h0 rfl _ I2)))
  | cons x rest =>
    obtain ⟨u, us, rfl, ru, rus⟩ : ∃ u us, its = u :: us ∧ RelV x u ∧ Vals rest us := by
      cases rv with
      | cons a b => exact ⟨_, _, rfl, a, b⟩
    refine wpAny_bind (wpAny_tryCatch (W.item 0 _ _ _ (by simp) ⟨⟨_, gI, rfl, rfl⟩, hls1⟩ fun v h' tk' hP hst' hk' => ?_))
    have hv : u = v := by simpa using hP
    subst hv
    obtain ⟨oI, hoI, hoc, hod⟩ := id hst'.1
    have I2 := Inv.turn (t' := tk') I1 fI fun b o hb e => hk' b o (by simpa using hb) e
    have hS1 := hk' _ _ (by simpa using hSI) gS
    show wpAny _ A.in1 (tryCatch (holding [u] (call (.ref q) [u])) _ >>= _) _ _ _
    refine wpAny_bind (wpAny_tryCatch (wpAny_holding (wpAny_mono (turn x (List.mem_cons_self ..) H _ u I2 p ru) (fun z s2 he => ?_) fun _ _ hF => hF.elim)))
    obtain ⟨av, H2, os, bare, un, hok, rz, ez, p2⟩ := id he
    subst ez
    obtain ⟨t2, rfl⟩ := rz
    obtain ⟨fI2, hI2⟩ := fp_after I2 fI un hoI
    obtain ⟨fS2, hS2⟩ := fp_after I2 fS un hS1
    have I3 : Inv X pins σ H2 s2 := I2.call' (ch := []) os un hok bare (fun b z => absurd z (by simp))
    have s1 := Heap.SameBut.update s2.heap hA.objs.size (Obj.mapSeq fun _ => #[u, .int (kf x) t2])
    obtain ⟨c2, hc2⟩ : ∃ c2, (s2.heap.update hA.objs.size (Obj.mapSeq fun _ => #[u, .int (kf x) t2])).get? hA.objs.size = some (seqObj "list" #[u, .int (kf x) t2] c2) := ⟨_, get?_update_seq hS2 fun _ => #[u, .int (kf x) t2]⟩
    show wpAny _ A.in1 (updateSeq hA.objs.size (fun _ => #[u, .int (kf x) t2]) >>= _) _ _ _
    refine wpAny_bind ?_
    refine wpAny_updateSeq hS2 rfl ?_
    rw [hname]
    have I4 := Inv.turn (t' := s2.toks) I3 fS2 fun b o hb e => (s1.2 b hb).trans e
    refine wpAny_pure ⟨plainId_quiet PySem.F.plain_max_loop _, max_loop (xs := x :: rest) (kf := kf) (Pv := Pv) hh hl hlI hSI turn (fun x H s u a b c d => h1 x H s u a b c d) rest.length [] [] rest x H2 _ u t2 c2 rfl rfl (fun y hy => by simp at hy) (fun y hy => by simp at hy) I4 p2 fI2 fS2 hc2 ru ⟨oI, (s1.2 _ hSI.symm).trans hI2, hoc, hod⟩⟩

/-- the table of a def's code, where its lambda's code is kept -/
structure Lam (la : Addr → TabI) (g : FuncData) (ts : List TabI) (base : Heap) (mg : Str → Option Value) (c P : Addr) : Prop where
  mem : la P ∈ ts
  uq : ∀ j ∈ ts, j.P = P → j = la P
  code : g.code = .ref c
  hd : CodeHd base c P
  bm : BMain mg base
/-- max(e, key = lambda x: body, default = None) -/
def tMaxKey (K : PySem.W.Frag) (ts : List TabI) (ti : TabI) (te tb : TE) (i : Nat) : TE := fun σ H Q => te σ H fun v H1 => ∃ (l : Addr) (xs : List V) (kf : V → Int), v = .ref l ∧ TabOk ti H1 ∧ SqL K H1 l xs ∧
  (∀ x ∈ xs, ∀ H', Ext ts H1 H' → ∀ Q' : VK, (∀ H'', Ext ts H' H'' → Q' (.int (kf x)) H'') → tb ((wipe σ [i]).set i (some x)) H' Q') ∧
  (xs = [] → ∀ H', Ext ts H1 H' → Q .non H') ∧ (∀ x H', Ext ts H1 H' → FirstMax kf xs x → Q x H')
theorem pe_maxkey {ts : List TabI} {ti : TabI} {c : Addr} {k i : Nat} {x : Str} {params : Arguments} {body e : Expr} {scope : Scope} {p pos lpos kp1 kp2 cpos : Pos} {j : Nat} {te tb : TE} (hc : X.calm = true) (hr : Room (k + 2) X.A) (hg : Gl X "max") (hm : X.mg "max" = none) (hN : X.N.Nodup)
    (ok : BlkOk X.N X.env.scope scope [(x, i)]) (hx : scope.names.lookup x = some .local) (nocell : ∀ y ∈ scope.names, y.2 ≠ .cell) (hco : scope.isCoroutine = false) (hgen : scope.isGenerator = false)
    (hti : ti ∈ ts) (huq : ∀ j ∈ ts, j.P = ti.P → j = ti) (hl : ti.line = lpos.line) (hcl : ti.col = lpos.col) (hq : ti.qual = X.env.qual ++ "<lambda>") (hcode : X.env.code = .ref c) (C : CodeHd X.base c ti.P) (B : BMain X.mg X.base) (hdef : defaultsOf params X.env = ([], []))
    (hbind : ∀ (cl : List (Str × Addr)) (pm ctv cd w : Value), bindArgs (kla_fn "<lambda>" ti.qual params body scope cl pm cd ctv) ⟨[w], []⟩ = pure [(x, w)])
    (he : PE X e te) (hb : ∀ (A : Around) (s : Shared) (H : Hp) (L f : Addr) (cd : Value) (cl : List (Str × Addr)), Room (k + 1) A → PE (lamCx X A (envX ti.qual scope L f cd cl) s H) body tb)
    (hes : starEach [e] X.env = (false, eval e X.env) :: starEach [] X.env := by rfl) (hpl : (backTo pos (starEach [e] X.env)).any (·.1) = false := by rfl) :
    PE X (.Call (.Name "max" p) [e] [⟨some "key", .Lambda params body scope lpos, kp1⟩, ⟨some "default", .Constant .none j cpos, kp2⟩] pos) (tMaxKey X.K ts ti te tb i) := by
  intro pins s σ H Q I h
  refine wpAny_Call_Name_kw (ld_blt I hg hm boot_max ?_ (by decide) (by decide))
  have hi : i < σ.length := by
    rw [I.len]
    exact (List.getElem?_eq_some_iff.mp (ok.ix (x, i) (by simp))).1
  refine PyProof.Rows.callWith_kw ?_ (by rw [hes]; rfl) hpl
  rw [hes]
  show wpAny _ _ (spliced ((false, eval e X.env) :: backTo pos (starEach [] X.env))) _ _ s
  refine Calls.spliced_cons (thn (he pins s σ H _ I h) fun u s1 ⟨v, H1, I1, r1, q1⟩ => Calls.spliced_nil ?_)
  obtain ⟨l, xs, kf, rfl, hT, hL, htb, q0, qx⟩ := q1
  obtain rfl : u = .ref l := r1
  show wpAny _ _ (evalAll ((do let v ← eval (.Lambda params body scope lpos) X.env; standAt pos; pure v) :: (do let v ← eval (.Constant .none j cpos) X.env; standAt pos; pure v) :: [])) _ _ s1
  have hfree : ∀ y ∈ scope.names, y.2 = .free → ∃ c, X.env.cells.lookup y.1 = some c := fun y hy e => by
    rcases ok.free y hy e with k | k
    · exact I1.ok.has _ (.inl k)
    · exact I1.ok.has _ (.inr k)
  refine wpAny_evalAll_cons (wpAny_bind (lam_eval I1 hti huq hl hcl hq hcode C B hdef hT hfree fun f c' oc pm ctv H2 s2 I2 e2 hT2 hf hc' hlike => wpAny_bind (wpAny_standAt (wpAny_pure ?_))))
  refine wpAny_evalAll_cons (wpAny_bind (Constant_none (wpAny_bind (wpAny_standAt (wpAny_pure (wpAny_evalAll_nil ?_))))))
  show wpAny _ _ (call (.builtin "max") [.ref l] [(Str.ofString "key", .ref f), (Str.ofString "default", .none)]) _ _ s2
  refine call_maxkey (Pv := fun H' => Ext ts H2 H') (xs := xs) (kf := kf) (I.ok.hd hc) I2 (Ext.refl _) (fun H' e' => (e2.trans e').seq hL) ?_ ?_ ?_
  · intro y hy H' s' w I' e' rw_
    refine wpAny_call (codeAny_mono (lam_call (A := X.A.in1) (te := tb) (Q := fun z H'' => z = .int (kf y) ∧ Ext ts H2 H'') I' ok hN hx nocell I.ok.frames (hr.in1.mono (by omega)) rw_ hi hco hgen (e'.same _ _ rfl hf) (e'.same _ _ rfl hc') hlike (fun w => hbind _ _ _ _ w) (hb _ _ _ _ _ _ _ hr.in1) ?_) fun r s'' hq => ?_)
    · exact htb y hy H' (e2.trans e') _ fun H'' e'' => ⟨rfl, e'.trans e''⟩
    · cases r with
      | error e => exact hq.elim
      | ok fl =>
        cases fl with
        | ret u => exact hq
        | next => exact hq.elim
        | brk => exact hq.elim
        | cont => exact hq.elim
  · intro hxs s' I'
    exact ⟨.non, H2, I', rfl, q0 hxs H2 e2⟩
  · intro y H' s' w I' e' rw_ hfm
    exact ⟨y, H', I', rw_, qx y H' (e2.trans e') hfm⟩
end
end Sp

end
section
set_option Elab.async false
set_option linter.all false
set_option maxRecDepth 100000
set_option maxHeartbeats 2000000
namespace Sp
open PySem PySem.Spec PyProof.Rows L2
/-- x stands in xs, and is the first of those whose key is least -/
def FirstMin (kf : V → Int) (xs : List V) (x : V) : Prop := ∃ pre post, xs = pre ++ x :: post ∧ (∀ y ∈ pre, kf x < kf y) ∧ ∀ y ∈ post, kf x ≤ kf y
section
variable {X : Cx} {pins : List (Addr × Obj)} {σ : L2.St} {A : Around} {R : Result → Shared → Prop}
theorem min_loop {Pv : Hp → Prop} {xs : List V} {kf : V → Int} {l q it S : Addr} {kw : List (Str × Value)} (hh : A.handled = none) (hl : ∀ H, Pv H → SqL X.K H l xs) (hlI : l ≠ it) (hSI : S ≠ it)
    (turn : ∀ x, x ∈ xs → ∀ (H : Hp) (s : Shared) (u : Value), Inv X pins σ H s → Pv H → RelV x u → wpAny (model X.prog X.w) A.in1 (call (.ref q) [u]) (CE X.stack X.prog X.w H s (fun y H' => y = .int (kf x) ∧ Pv H')) (fun _ _ => False) s)
    (hR : ∀ (x : V) (H : Hp) (s : Shared) (u : Value), Inv X pins σ H s → Pv H → RelV x u → FirstMin kf xs x → R (.ok (.ret u)) s) :
    ∀ (r : Nat) (pre mid post : List V) (x : V) (H : Hp) (s : Shared) (vb : Value) (tb : Tok) (c : Nat), xs = pre ++ x :: (mid ++ post) → post.length = r → (∀ y ∈ pre, kf x < kf y) → (∀ y ∈ mid, kf x ≤ kf y) → Inv X pins σ H s → Pv H → FpOk X pins H it → FpOk X pins H S →
      s.heap.get? S = some (seqObj "list" #[vb, .int (kf x) tb] c) → RelV x vb → s.heap.IsListIter it l (pre.length + 1 + mid.length) →
      codeAny (model X.prog X.w) A (.builtin "min.loop" ⟨[.ref it, .ref q, .ref S], kw⟩) R s := by
  have hname : (toString "min" ++ toString ".loop" : String) = "min.loop" := by decide
  intro r
  induction r with
  | zero =>
    intro pre mid post x H s vb tb c hxs hr hpre hmid I p fI fS gS rb hit
    obtain ⟨its, rv, hL, _⟩ := I.list (hl H p)
    have hpost : post = [] := List.length_eq_zero_iff.mp hr
    subst hpost
    have hlen : its.toArray.size = pre.length + 1 + mid.length := by
      have := rv.length
      rw [List.size_toArray, ← this, hxs]
      simp only [List.length_append, List.length_cons, List.length_nil]
      omega
    have W := Walks.list (prog := X.prog) (w := X.w) (A := A.in1) hh it l hlI its.toArray
    refine codeAny_builtin PySem.F.entry_min_loop ?_
    rw [Around.under_plainId PySem.F.plain_min_loop _]
    show wpAny _ A.in1 (seqItems? (.ref S) >>= _) _ _ _
    refine wpAny_bind (wpAny_seqItems gS rfl ?_)
    show wpAny _ A.in1 (tryCatch (pyNext (.ref it)) _ >>= _) _ _ _
    refine wpAny_bind (wpAny_tryCatch (W.done _ _ _ ⟨by rw [hlen]; exact hit, hL.isList⟩ fun h' tk' hk' => ?_))
    have I1 := Inv.turn (t' := tk') I fI fun b o hb e => hk' b o (by simpa using hb) e
    have hS' := hk' S _ (by simpa using hSI) gS
    have s1 := Heap.SameBut.update h' S (Obj.mapSeq fun _ => (#[] : Array Value))
    show wpAny _ A.in1 (updateSeq S (fun _ => #[]) >>= _) _ _ _
    refine wpAny_bind ?_
    refine wpAny_updateSeq hS' rfl (wpAny_bind (wpAny_letGo (wpAny_pure ?_)))
    have I2 := Inv.turn (t' := tk') I1 fS fun b o hb e => (s1.2 b hb).trans e
    exact hR x H _ vb I2 p rb ⟨pre, mid, by rw [hxs, List.append_nil], hpre, hmid⟩
  | succ r ih =>
    intro pre mid post x H s vb tb c hxs hr hpre hmid I p fI fS gS rb hit
    obtain ⟨its, rv, hL, _⟩ := I.list (hl H p)
    obtain ⟨y, post', rfl⟩ : ∃ y post', post = y :: post' := by
      cases post with
      | nil => cases hr
      | cons y post' => exact ⟨y, post', rfl⟩
    have hy : xs[pre.length + 1 + mid.length]? = some y := by
      rw [hxs, List.getElem?_append_right (by omega), show pre.length + 1 + mid.length - pre.length = mid.length + 1 by omega, List.getElem?_cons_succ, List.getElem?_append_right (Nat.le_refl _), Nat.sub_self]
      rfl
    obtain ⟨u, hu, ru⟩ := rv.get hy
    have hmem : y ∈ xs := List.mem_of_getElem? hy
    have hlt : pre.length + 1 + mid.length < its.toArray.size := by
      rw [List.size_toArray]
      exact (List.getElem?_eq_some_iff.mp hu).1
    have W := Walks.list (prog := X.prog) (w := X.w) (A := A.in1) hh it l hlI its.toArray
    refine codeAny_builtin PySem.F.entry_min_loop ?_
    rw [Around.under_plainId PySem.F.plain_min_loop _]
    show wpAny _ A.in1 (seqItems? (.ref S) >>= _) _ _ _
    refine wpAny_bind (wpAny_seqItems gS rfl ?_)
    show wpAny _ A.in1 (tryCatch (pyNext (.ref it)) _ >>= _) _ _ _
    refine wpAny_bind (wpAny_tryCatch (W.item (pre.length + 1 + mid.length) _ _ _ hlt ⟨hit, hL.isList⟩ fun v h' tk' hP hst' hk' => ?_))
    have hv : v = u := by
      have : its[pre.length + 1 + mid.length]? = some v := by simpa using hP
      exact Option.some.inj (this.symm.trans hu)
    subst hv
    obtain ⟨oI, hoI, hoc, hod⟩ := id hst'.1
    have I1 := Inv.turn (t' := tk') I fI fun b o hb e => hk' b o (by simpa using hb) e
    have hS1 := hk' S _ (by simpa using hSI) gS
    show wpAny _ A.in1 (tryCatch (holding [v] (call (.ref q) [v])) _ >>= _) _ _ _
    refine wpAny_bind (wpAny_tryCatch (wpAny_holding (wpAny_mono (turn y hmem H _ v I1 p ru) (fun z s2 he => ?_) fun _ _ hF => hF.elim)))
    obtain ⟨av, H2, os, bare, un, hok, rz, ez, p2⟩ := id he
    subst ez
    obtain ⟨t2, rfl⟩ := rz
    obtain ⟨fI2, hI2⟩ := fp_after I1 fI un hoI
    obtain ⟨fS2, hS2⟩ := fp_after I1 fS un hS1
    have I2 : Inv X pins σ H2 s2 := I1.call' (ch := []) os un hok bare (fun b z => absurd z (by simp))
    have hit2 : s2.heap.IsListIter it l (pre.length + 1 + mid.length + 1) := ⟨oI, hI2, hoc, hod⟩
    show wpAny _ A.in1 (tryCatch (holding [v, .int (kf y) t2] (richCompare .Lt (.int (kf y) t2) (.int (kf x) tb) >>= _)) _ >>= _) _ _ _
    refine wpAny_bind (wpAny_tryCatch (wpAny_holding (wpAny_bind (CmpOf.ints_lt (prog := X.prog) (w := X.w) (A := A.in1) (P := fun (i : Nat) v => ∃ t, v = .int (if i = 0 then kf y else kf x) t) (fun i => if i = 0 then kf y else kf x) (fun i v h => h) 0 1 _ _ _ _ _ ⟨t2, rfl⟩ ⟨tb, rfl⟩ ?_))))
    refine wpAny_bind (wpAny_holding (wpAny_truthy_bool ?_))
    refine wpAny_bind (wpAny_letGo (wpAny_pure ?_))
    by_cases hb' : kf y < kf x
    · have s1 := Heap.SameBut.update s2.heap S (Obj.mapSeq fun _ => #[v, .int (kf y) t2])
      obtain ⟨c2, hc2⟩ : ∃ c2, (s2.heap.update S (Obj.mapSeq fun _ => #[v, .int (kf y) t2])).get? S = some (seqObj "list" #[v, .int (kf y) t2] c2) := ⟨_, get?_update_seq hS2 fun _ => #[v, .int (kf y) t2]⟩
      rw [if_pos (show (fun (i j : Nat) => decide ((if i = 0 then kf y else kf x) < if j = 0 then kf y else kf x)) 0 1 = true from decide_eq_true hb')]
      refine wpAny_bind ?_
      refine wpAny_updateSeq hS2 rfl (wpAny_bind (wpAny_letGo ?_))
      rw [hname]
      have I3 := Inv.turn (t' := s2.toks) I2 fS2 fun b o hb e => (s1.2 b hb).trans e
      refine wpAny_pure ⟨plainId_quiet PySem.F.plain_min_loop _, ih (pre ++ x :: mid) [] post' y H2 _ v t2 c2 (by rw [hxs]; simp) (by simpa using hr) (fun z hz => ?_) (fun z hz => by simp at hz) I3 p2 fI2 fS2 hc2 ru ?_⟩
      · rcases List.mem_append.mp hz with m | m
        · have := hpre z m; omega
        · rcases List.mem_cons.mp m with e | m
          · subst e; omega
          · have := hmid z m; omega
      · obtain ⟨o2, e1, e2, e3⟩ := hit2
        have e4 : (pre ++ x :: mid).length + 1 + ([] : List V).length = pre.length + 1 + mid.length + 1 := by simp only [List.length_append, List.length_cons, List.length_nil]; omega
        rw [e4]
        exact ⟨o2, (s1.2 it hSI.symm).trans e1, e2, e3⟩
    · rw [if_neg (show ¬ (fun (i j : Nat) => decide ((if i = 0 then kf y else kf x) < if j = 0 then kf y else kf x)) 0 1 = true from fun z => hb' (of_decide_eq_true z))]
      refine wpAny_bind (wpAny_letGo ?_)
      rw [hname]
      refine wpAny_pure ⟨plainId_quiet PySem.F.plain_min_loop _, ih pre (mid ++ [y]) post' x H2 s2 vb tb c (by rw [hxs]; simp) (by simpa using hr) hpre (fun z hz => ?_) I2 p2 fI2 fS2 hS2 rb ?_⟩
      · rcases List.mem_append.mp hz with m | m
        · exact hmid z m
        · have : z = y := by simpa using m
          subst this; omega
      · have : pre.length + 1 + (mid ++ [y]).length = pre.length + 1 + mid.length + 1 := by simp; omega
        rw [this]
        exact hit2
end
end Sp

end
section
set_option Elab.async false
set_option linter.all false
set_option maxRecDepth 100000
set_option maxHeartbeats 2000000
namespace Sp
open PySem PySem.Spec PyProof.Rows L2
open PySem.W (envX kla_fn kla_obj CodeHd tabObj)
theorem min_key_default (a v d : Value) : argsOk "min" ⟨[a], [(Str.ofString "key", v), (Str.ofString "default", d)]⟩ := by unfold argsOk; kernel_rfl
section
variable {X : Cx} {pins : List (Addr × Obj)} {σ : L2.St} {H : Hp} {s : Shared} {A : Around} {Q : Value → Shared → Prop} {E : Value → Shared → Prop}
theorem call_minkey {Pv : Hp → Prop} {xs : List V} {kf : V → Int} {l q : Addr} {dv : Value} (hh : A.handled = none) (I : Inv X pins σ H s) (p : Pv H) (hl : ∀ H, Pv H → SqL X.K H l xs)
    (turn : ∀ x, x ∈ xs → ∀ (H : Hp) (s : Shared) (u : Value), Inv X pins σ H s → Pv H → RelV x u → wpAny (model X.prog X.w) A.in1 (call (.ref q) [u]) (CE X.stack X.prog X.w H s (fun y H' => y = .int (kf x) ∧ Pv H')) (fun _ _ => False) s)
    (h0 : xs = [] → ∀ (s : Shared), Inv X pins σ H s → Q dv s)
    (h1 : ∀ (x : V) (H : Hp) (s : Shared) (u : Value), Inv X pins σ H s → Pv H → RelV x u → FirstMin kf xs x → Q u s) :
    wpAny (model X.prog X.w) A (call (.builtin "min") [.ref l] [(Str.ofString "key", .ref q), (Str.ofString "default", dv)]) Q E s := by
  have hname : (toString "min" ++ toString ".loop" : String) = "min.loop" := by decide
  obtain ⟨its, rv, hL, _⟩ := I.list (hl H p)
  have hls := hL.isList
  obtain ⟨ol, hol, _⟩ := id hls
  have hll : l < s.heap.objs.size := Heap.lt_size hol
  refine kmk_tree PySem.F.kind_min PySem.F.plain_min PySem.F.entry_min (min_key_default _ _ _) ?_
  show wpAny _ A.in1 (Builtin.Builtins.bindParams "min" ["key", "default"] 0 ⟨[], [(Str.ofString "key", .ref q), (Str.ofString "default", dv)]⟩ >>= _) _ _ s
  refine wpAny_bind (wpAny_of_eq (show Builtin.Builtins.bindParams "min" ["key", "default"] 0 ⟨[], [(Str.ofString "key", .ref q), (Str.ofString "default", dv)]⟩ = pure [some (.ref q), some dv] from rfl) ?_)
  refine wpAny_bind (wpAny_pure ?_)
  refine wpAny_bind (wpAny_pyIter_list hls ?_)
  refine wpAny_bind (wpAny_newList ?_ (Nat.zero_le _))
  rw [hname]
  generalize hh1 : (s.heap.push { cls := .type "list_iterator", data := .fields #[.ref l, .int 0 0] }) = hA
  have hS : hA.objs.size = s.heap.objs.size + 1 := by rw [← hh1]; exact size_push' ..
  have gI : (hA.push (seqObj "list" #[] 0)).get? s.heap.objs.size = some { cls := .type "list_iterator", data := .fields #[.ref l, .int 0 0] } := by
    rw [← hh1]
    exact Heap.get?_push_of_some _ (Heap.get?_push_size _ rfl)
  have gS : (hA.push (seqObj "list" #[] 0)).get? hA.objs.size = some (seqObj "list" #[] 0) := Heap.get?_push_size _ rfl
  have hlI : l ≠ s.heap.objs.size := Nat.ne_of_lt hll
  have hSI : hA.objs.size ≠ s.heap.objs.size := by rw [hS]; exact Nat.ne_of_gt (Nat.lt_succ_self _)
  have kp : ∀ b o, s.heap.get? b = some o → (hA.push (seqObj "list" #[] 0)).get? b = some o := fun b o e => by
    rw [← hh1]
    exact Heap.get?_push_of_some _ (Heap.get?_push_of_some _ e)
  have I1 := I.kept (t' := s.toks) kp
  have fI : FpOk X pins H s.heap.objs.size := I.fpOk (Nat.le_refl _) (I.hok.fresh (Nat.le_refl _))
  have fS : FpOk X pins H hA.objs.size := I.fpOk (by rw [hS]; exact Nat.le_succ _) (I.hok.fresh (by rw [hS]; exact Nat.le_succ _))
  have hls1 : (hA.push (seqObj "list" #[] 0)).IsList l its.toArray := by
    obtain ⟨o, e, r⟩ := hls
    exact ⟨o, kp _ _ e, r⟩
  refine wpAny_pure ⟨plainId_quiet PySem.F.plain_min_loop _, ?_⟩
  have W := Walks.list (prog := X.prog) (w := X.w) (A := A.in1) hh s.heap.objs.size l hlI its.toArray
  refine codeAny_builtin PySem.F.entry_min_loop ?_
  rw [Around.under_plainId PySem.F.plain_min_loop _]
  show wpAny _ A.in1 (seqItems? (.ref _) >>= _) _ _ _
  refine wpAny_bind (wpAny_seqItems gS rfl ?_)
  show wpAny _ A.in1 (tryCatch (pyNext (.ref s.heap.objs.size)) _ >>= _) _ _ _
  cases xs with
  | nil =>
    have hz : its = [] := by
      have := rv.length
      exact List.length_eq_zero_iff.mp this.symm
    subst hz
    refine wpAny_bind (wpAny_tryCatch (W.done _ _ _ ⟨⟨_, gI, rfl, rfl⟩, hls1⟩ fun h' tk' hk' => ?_))
    have I2 := Inv.turn (t' := tk') I1 fI fun b o hb e => hk' b o (by simpa using hb) e
    exact wpAny_bind (wpAny_rule (wpAny_pure (h0 rfl _ I2)))
  | cons x rest =>
    obtain ⟨u, us, rfl, ru, rus⟩ : ∃ u us, its = u :: us ∧ RelV x u ∧ Vals rest us := by
      cases rv with
      | cons a b => exact ⟨_, _, rfl, a, b⟩
    refine wpAny_bind (wpAny_tryCatch (W.item 0 _ _ _ (by simp) ⟨⟨_, gI, rfl, rfl⟩, hls1⟩ fun v h' tk' hP hst' hk' => ?_))
    have hv : u = v := by simpa using hP
    subst hv
    obtain ⟨oI, hoI, hoc, hod⟩ := id hst'.1
    have I2 := Inv.turn (t' := tk') I1 fI fun b o hb e => hk' b o (by simpa using hb) e
    have hS1 := hk' _ _ (by simpa using hSI) gS
    show wpAny _ A.in1 (tryCatch (holding [u] (call (.ref q) [u])) _ >>= _) _ _ _
    refine wpAny_bind (wpAny_tryCatch (wpAny_holding (wpAny_mono (turn x (List.mem_cons_self ..) H _ u I2 p ru) (fun z s2 he => ?_) fun _ _ hF => hF.elim)))
    obtain ⟨av, H2, os, bare, un, hok, rz, ez, p2⟩ := id he
    subst ez
    obtain ⟨t2, rfl⟩ := rz
    obtain ⟨fI2, hI2⟩ := fp_after I2 fI un hoI
    obtain ⟨fS2, hS2⟩ := fp_after I2 fS un hS1
    have I3 : Inv X pins σ H2 s2 := I2.call' (ch := []) os un hok bare (fun b z => absurd z (by simp))
    have s1 := Heap.SameBut.update s2.heap hA.objs.size (Obj.mapSeq fun _ => #[u, .int (kf x) t2])
    obtain ⟨c2, hc2⟩ : ∃ c2, (s2.heap.update hA.objs.size (Obj.mapSeq fun _ => #[u, .int (kf x) t2])).get? hA.objs.size = some (seqObj "list" #[u, .int (kf x) t2] c2) := ⟨_, get?_update_seq hS2 fun _ => #[u, .int (kf x) t2]⟩
    show wpAny _ A.in1 (updateSeq hA.objs.size (fun _ => #[u, .int (kf x) t2]) >>= _) _ _ _
    refine wpAny_bind ?_
    refine wpAny_updateSeq hS2 rfl ?_
    rw [hname]
    have I4 := Inv.turn (t' := s2.toks) I3 fS2 fun b o hb e => (s1.2 b hb).trans e
    refine wpAny_pure ⟨plainId_quiet PySem.F.plain_min_loop _, min_loop (xs := x :: rest) (kf := kf) (Pv := Pv) hh hl hlI hSI turn (fun x H s u a b c d => h1 x H s u a b c d) rest.length [] [] rest x H2 _ u t2 c2 rfl rfl (fun y hy => by simp at hy) (fun y hy => by simp at hy) I4 p2 fI2 fS2 hc2 ru ⟨oI, (s1.2 _ hSI.symm).trans hI2, hoc, hod⟩⟩

/-- min(e, key = lambda x: body, default = None) -/
def tMinKey (K : PySem.W.Frag) (ts : List TabI) (ti : TabI) (te tb : TE) (i : Nat) : TE := fun σ H Q => te σ H fun v H1 => ∃ (l : Addr) (xs : List V) (kf : V → Int), v = .ref l ∧ TabOk ti H1 ∧ SqL K H1 l xs ∧
  (∀ x ∈ xs, ∀ H', Ext ts H1 H' → ∀ Q' : VK, (∀ H'', Ext ts H' H'' → Q' (.int (kf x)) H'') → tb ((wipe σ [i]).set i (some x)) H' Q') ∧
  (xs = [] → ∀ H', Ext ts H1 H' → Q .non H') ∧ (∀ x H', Ext ts H1 H' → FirstMin kf xs x → Q x H')
theorem pe_minkey {ts : List TabI} {ti : TabI} {c : Addr} {k i : Nat} {x : Str} {params : Arguments} {body e : Expr} {scope : Scope} {p pos lpos kp1 kp2 cpos : Pos} {j : Nat} {te tb : TE} (hc : X.calm = true) (hr : Room (k + 2) X.A) (hg : Gl X "min") (hm : X.mg "min" = none) (hN : X.N.Nodup)
    (ok : BlkOk X.N X.env.scope scope [(x, i)]) (hx : scope.names.lookup x = some .local) (nocell : ∀ y ∈ scope.names, y.2 ≠ .cell) (hco : scope.isCoroutine = false) (hgen : scope.isGenerator = false)
    (hti : ti ∈ ts) (huq : ∀ j ∈ ts, j.P = ti.P → j = ti) (hl : ti.line = lpos.line) (hcl : ti.col = lpos.col) (hq : ti.qual = X.env.qual ++ "<lambda>") (hcode : X.env.code = .ref c) (C : CodeHd X.base c ti.P) (B : BMain X.mg X.base) (hdef : defaultsOf params X.env = ([], []))
    (hbind : ∀ (cl : List (Str × Addr)) (pm ctv cd w : Value), bindArgs (kla_fn "<lambda>" ti.qual params body scope cl pm cd ctv) ⟨[w], []⟩ = pure [(x, w)])
    (he : PE X e te) (hb : ∀ (A : Around) (s : Shared) (H : Hp) (L f : Addr) (cd : Value) (cl : List (Str × Addr)), Room (k + 1) A → PE (lamCx X A (envX ti.qual scope L f cd cl) s H) body tb)
    (hes : starEach [e] X.env = (false, eval e X.env) :: starEach [] X.env := by rfl) (hpl : (backTo pos (starEach [e] X.env)).any (·.1) = false := by rfl) :
    PE X (.Call (.Name "min" p) [e] [⟨some "key", .Lambda params body scope lpos, kp1⟩, ⟨some "default", .Constant .none j cpos, kp2⟩] pos) (tMinKey X.K ts ti te tb i) := by
  intro pins s σ H Q I h
  refine wpAny_Call_Name_kw (ld_blt I hg hm boot_min ?_ (by decide) (by decide))
  have hi : i < σ.length := by
    rw [I.len]
    exact (List.getElem?_eq_some_iff.mp (ok.ix (x, i) (by simp))).1
  refine PyProof.Rows.callWith_kw ?_ (by rw [hes]; rfl) hpl
  rw [hes]
  show wpAny _ _ (spliced ((false, eval e X.env) :: backTo pos (starEach [] X.env))) _ _ s
  refine Calls.spliced_cons (thn (he pins s σ H _ I h) fun u s1 ⟨v, H1, I1, r1, q1⟩ => Calls.spliced_nil ?_)
  obtain ⟨l, xs, kf, rfl, hT, hL, htb, q0, qx⟩ := q1
  obtain rfl : u = .ref l := r1
  show wpAny _ _ (evalAll ((do let v ← eval (.Lambda params body scope lpos) X.env; standAt pos; pure v) :: (do let v ← eval (.Constant .none j cpos) X.env; standAt pos; pure v) :: [])) _ _ s1
  have hfree : ∀ y ∈ scope.names, y.2 = .free → ∃ c, X.env.cells.lookup y.1 = some c := fun y hy e => by
    rcases ok.free y hy e with k | k
    · exact I1.ok.has _ (.inl k)
    · exact I1.ok.has _ (.inr k)
  refine wpAny_evalAll_cons (wpAny_bind (lam_eval I1 hti huq hl hcl hq hcode C B hdef hT hfree fun f c' oc pm ctv H2 s2 I2 e2 hT2 hf hc' hlike => wpAny_bind (wpAny_standAt (wpAny_pure ?_))))
  refine wpAny_evalAll_cons (wpAny_bind (Constant_none (wpAny_bind (wpAny_standAt (wpAny_pure (wpAny_evalAll_nil ?_))))))
  show wpAny _ _ (call (.builtin "min") [.ref l] [(Str.ofString "key", .ref f), (Str.ofString "default", .none)]) _ _ s2
  refine call_minkey (Pv := fun H' => Ext ts H2 H') (xs := xs) (kf := kf) (I.ok.hd hc) I2 (Ext.refl _) (fun H' e' => (e2.trans e').seq hL) ?_ ?_ ?_
  · intro y hy H' s' w I' e' rw_
    refine wpAny_call (codeAny_mono (lam_call (A := X.A.in1) (te := tb) (Q := fun z H'' => z = .int (kf y) ∧ Ext ts H2 H'') I' ok hN hx nocell I.ok.frames (hr.in1.mono (by omega)) rw_ hi hco hgen (e'.same _ _ rfl hf) (e'.same _ _ rfl hc') hlike (fun w => hbind _ _ _ _ w) (hb _ _ _ _ _ _ _ hr.in1) ?_) fun r s'' hq => ?_)
    · exact htb y hy H' (e2.trans e') _ fun H'' e'' => ⟨rfl, e'.trans e''⟩
    · cases r with
      | error e => exact hq.elim
      | ok fl =>
        cases fl with
        | ret u => exact hq
        | next => exact hq.elim
        | brk => exact hq.elim
        | cont => exact hq.elim
  · intro hxs s' I'
    exact ⟨.non, H2, I', rfl, q0 hxs H2 e2⟩
  · intro y H' s' w I' e' rw_ hfm
    exact ⟨y, H', I', rw_, qx y H' (e2.trans e') hfm⟩
end
end Sp

end
section
set_option Elab.async false
set_option linter.all false
set_option maxRecDepth 100000
set_option maxHeartbeats 2000000
namespace Sp
open PySem PySem.Spec PyProof.Rows L2 Mt
open PySem.W (CodeHd)
variable {P : Program} {w : World} {K : PySem.W.Frag} {mg : Str → Option Value} {base : Heap} {t : Ad} {ts : List TabI}

/-- a def's rule, its code known -/
theorem okC {x qual : Str} {st : Stmt} {f : Addr} {fd : FuncData} {N ps : List Str} {k : Nat} {sp : L2.Sp} (F : Fun K x qual st f fd) (S : FnScope N ps (defScope st)) (len : ∀ vs H Q E, sp vs H Q E → vs.length = ps.length)
    (hbody : ∀ (cdv : Value) (A : Around) (outer : List Env) (s : Shared) (H : Hp) (vs : List V) (Q : VK) (E : XK), cdv = fd.code → Room k (A.deeper (envOfC qual (defScope st) s.heap.objs.size f cdv)) → sp vs H Q E →
      ∃ t, PSs (cxOf CX0 P w K mg base N qual (defScope st) f cdv A outer s H E).nox (defBody st) t ∧ t { nx := fun _ H' => Q .non H', rt := Q } (L2.start N vs) H) : FnOk P w K mg base CX0 (k + 1) f fd ps sp := by
  obtain ⟨oc, od, kV, doc, pm, an, cdv, ct, osl, rfl, lk, hcd⟩ := F.ex
  refine fn_of lk hcd S len fun A outer s H vs Q E hr hsp => ?_
  obtain ⟨t, h, q⟩ := hbody cdv A outer s H vs Q E rfl hr hsp
  exact ⟨t, h.nox, q⟩
theorem pick_stay (g : Nat → Nat) : ∀ (l : List Nat) (x : Nat), (∀ y ∈ l, g y ≤ g x) → l.foldl (pick g) (some x) = some x
  | [], _, _ => rfl
  | a :: l, x, h => by
    rw [List.foldl_cons]
    show l.foldl (pick g) (if g x < g a then some a else some x) = some x
    have := h a (List.mem_cons_self ..)
    rw [if_neg (by omega)]
    exact pick_stay g l x fun y hy => h y (List.mem_cons_of_mem _ hy)
theorem pick_first (g : Nat → Nat) {pre post : List Nat} {n : Nat} (h1 : ∀ y ∈ pre, g y < g n) (h2 : ∀ y ∈ post, g y ≤ g n) : (pre ++ n :: post).foldl (pick g) none = some n := by
  rw [List.foldl_append, List.foldl_cons]
  have : pick g (pre.foldl (pick g) none) n = some n := by
    cases e : pre.foldl (pick g) none with
    | none => rfl
    | some y =>
      have := h1 y (pick_mem g e)
      show (if g y < g n then some n else some y) = some n
      rw [if_pos this]
  rw [this]
  exact pick_stay g post n h2
/-- the key of a village's branch, over the program's values -/
def keyOf (g : Nat → Nat) : V → Int
  | .int i => (g i.toNat : Nat)
  | _ => 0
theorem first_nts {g : Nat → Nat} {L : List Nat} {x : V} (h : FirstMax (keyOf g) (nts L) x) : ∃ n : Nat, x = .int (n : Int) ∧ L.foldl (pick g) none = some n := by
  obtain ⟨pre, post, e, h1, h2⟩ := h
  obtain ⟨pre', r, e1, e2, e3⟩ := List.map_eq_append_iff.mp e
  obtain ⟨n, post', e4, e5, e6⟩ := List.map_eq_cons_iff.mp e3
  subst e5 e1 e4
  refine ⟨n, rfl, pick_first g (fun y hy => ?_) fun y hy => ?_⟩
  · have := h1 (.int (y : Int)) (by rw [← e2]; exact List.mem_map.mpr ⟨y, hy, rfl⟩)
    simp only [keyOf, Int.toNat_natCast] at this
    omega
  · have := h2 (.int (y : Int)) (by rw [← e6]; exact List.mem_map.mpr ⟨y, hy, rfl⟩)
    simp only [keyOf, Int.toNat_natCast] at this
    omega

/-! ### heaviest -/
def ov : Option Nat → V
  | none => .non
  | some n => .int (n : Int)
def sp_heaviest (t : Ad) (ts : List TabI) : L2.Sp := fun vs H Q _ => ∃ (a : Addr) (s : Km457.Valley) (v : Nat), vs = [.ref a, .int (v : Int)] ∧ VsAt t.c_Village H a s ∧ WF s ∧ v < s.length ∧ (∀ i ∈ ts, TabOk i H) ∧
  ∀ (H' : Hp), Ext ts H H' → Q (ov (Km457.heavy s v)) H'
/-- the table of heaviest's code -/
abbrev LamH (t : Ad) (ts : List TabI) (base : Heap) (mg : Str → Option Value) (c P : Addr) : Prop := Lam la_heaviest t.g_heaviest ts base mg c P
theorem ok_heaviest (T : Tx K mg t) {c Pt : Addr} (M : LamH t ts base mg c Pt) : FnOk P w K mg base CX0 6 t.f_heaviest t.g_heaviest ["villages", "v"] (sp_heaviest t ts) := by
  refine okC T.d_heaviest.F sc_heaviest (fun vs H Q E h => ?_) (fun cdv A outer s H vs Q E hcd hr h => ?_)
  · obtain ⟨a, s, v, rfl, _⟩ := h
    rfl
  · obtain ⟨a, s, v, rfl, hV, W, hv, hT, k⟩ := h
    have nd := sc_heaviest.nd
    have hle := W.le
    refine ⟨_, pss_one (ps_ret (pe_maxkey (ts := ts) (ti := la_heaviest Pt) (c := c) (k := 3) (i := 2) (x := "w") rfl hr rfl T.bl_max nd (blkOk_by (N := N_heaviest) (sc := defScope s_heaviest) (by decide +kernel)) rfl (by decide +kernel) rfl rfl M.mem M.uq rfl rfl rfl (hcd.trans M.code) M.hd M.bm rfl (fun _ _ _ _ _ => rfl)
      (pe_call (ok_beside (ts := ts) T) (hr.mono (by decide)) rfl T.d_beside.m T.d_beside.F.kp T.d_beside.b .nil pass0 (pa_cons (pv 0) (pa_cons (pv 1) pa_nil)))
      (fun A s H L f cd cl hrA => pe_call (ok_branch_children (ts := ts) T) (hrA.deeper _) rfl T.d_branch_children.m T.d_branch_children.F.kp T.d_branch_children.b .nil pass0 (pa_cons (pv 0) (pa_cons (pv 1) (pa_cons (pv 2) pa_nil)))))), ?_⟩
    refine ⟨_, rfl, _, rfl, a, s, v, rfl, hV, W, hv, fun H1 l e1 hl h1 => ?_⟩
    refine ⟨l, _, keyOf (Km457.branch s v), rfl, e1.tab _ M.mem (hT _ M.mem), SqL.of h1, ?_, ?_, ?_⟩
    · intro x hx H' e' Q' q'
      obtain ⟨n, hn, rfl⟩ := List.mem_map.mp hx
      have hn' := List.mem_filter.mp hn
      refine ⟨_, rfl, _, rfl, _, rfl, a, s, v, n, rfl, hV.ext (e1.trans e'), W, hv, all_mem.mp hn'.1, hn'.2, fun H2 e2 => ?_⟩
      have := q' H2 e2
      simp only [keyOf, Int.toNat_natCast] at this
      exact this
    · intro hz H' e'
      have : Km457.heavy s v = none := by
        rw [heavy_eq, List.map_eq_nil_iff.mp hz]
        rfl
      have q := k H' (e1.trans e')
      rw [this] at q
      exact q
    · intro x H' e' hfm
      obtain ⟨n, rfl, hn⟩ := first_nts hfm
      have q := k H' (e1.trans e')
      rw [heavy_eq, hn] at q
      exact q

/-! ### over_half -/
def sp_over_half (t : Ad) (ts : List TabI) : L2.Sp := fun vs H Q _ => ∃ (a : Addr) (s : Km457.Valley) (v : Nat), vs = [.ref a, .int (v : Int)] ∧ VsAt t.c_Village H a s ∧ WF s ∧ v < s.length ∧ (∀ i ∈ ts, TabOk i H) ∧
  ∀ (H' : Hp), Ext ts H H' → Q (.int (Km457.till s v : Nat)) H'
theorem ok_over_half (T : Tx K mg t) {c Pt : Addr} (M : LamH t ts base mg c Pt) : FnOk P w K mg base CX0 7 t.f_over_half t.g_over_half ["villages", "v"] (sp_over_half t ts) := by
  refine T.d_over_half.F.ok sc_over_half (fun vs H Q E h => ?_) (fun cdv A outer s H vs Q E hr h => ?_)
  · obtain ⟨a, s, v, rfl, _⟩ := h
    rfl
  · obtain ⟨a, s, v, rfl, hV, W, hv, hT, k⟩ := h
    have nd := sc_over_half.nd
    refine ⟨_, pss_cons (ps_set (i := 2) nd rfl (Or.inl rfl) (pe_call (ok_heaviest (ts := ts) T M) hr rfl T.d_heaviest.m T.d_heaviest.F.kp T.d_heaviest.b .nil pass0 (pa_cons (pv 0) (pa_cons (pv 1) pa_nil))))
      (pss_cons (ps_if (pt_cmp (pc_isN (pv 2))) (pss_one (ps_ret pe_int)) pss_nil)
      (pss_one (ps_ret (pe_callB (call_max2 rfl) rfl T.bl_max boot_max (pa_cons pe_int (pa_cons
        (pe_op op_sub (pe_op op_mul pe_int (pe_call (ok_branch_children (ts := ts) T) (hr.mono (by decide)) rfl T.d_branch_children.m T.d_branch_children.F.kp T.d_branch_children.b .nil pass0 (pa_cons (pv 0) (pa_cons (pv 1) (pa_cons (pv 2) pa_nil)))))
          (pe_call (ok_all_children (ts := ts) T) (hr.mono (by decide)) rfl T.d_all_children.m T.d_all_children.F.kp T.d_all_children.b .nil pass0 (pa_cons (pv 0) pa_nil))) pa_nil)))))), ?_⟩
    refine ⟨_, rfl, _, rfl, a, s, v, rfl, hV, W, hv, hT, fun H1 e1 => ?_⟩
    cases hh : Km457.heavy s v with
    | none =>
      have hn : Km457.till s v = 0 := by unfold Km457.till; rw [hh]
      refine ⟨_, rfl, _, rfl, iteT ?_⟩
      have q := k H1 e1
      rw [hn] at q
      exact q
    | some u =>
      obtain ⟨hu, hnr⟩ := heavy_near hh
      have hn : Km457.till s v = 2 * Km457.branch s v u - Km457.total s := by unfold Km457.till; rw [hh]
      refine ⟨_, rfl, _, rfl, iteF ?_⟩
      refine ⟨_, rfl, _, rfl, _, rfl, a, s, v, u, rfl, hV.ext e1, W, hv, hu, hnr, fun H2 e2 => ⟨_, _, rfl, rfl, .inl ⟨by decide, by decide⟩, ?_⟩⟩
      refine ⟨_, rfl, a, s, rfl, hV.ext (e1.trans e2), W, fun H3 e3 => ⟨_, _, rfl, rfl, _, _, rfl, ?_⟩⟩
      have q := k H3 ((e1.trans e2).trans e3)
      rw [hn] at q
      have e : (if (2 * ((Km457.branch s v u : Nat) : Int) - ((Km457.total s : Nat) : Int)) > 0 then (2 * ((Km457.branch s v u : Nat) : Int) - ((Km457.total s : Nat) : Int)) else 0) = ((2 * Km457.branch s v u - Km457.total s : Nat) : Int) := by
        by_cases c : (2 * ((Km457.branch s v u : Nat) : Int) - ((Km457.total s : Nat) : Int)) > 0
        · rw [if_pos c]; omega
        · rw [if_neg c]; omega
      show Q (V.int (if (2 * ((Km457.branch s v u : Nat) : Int) - ((Km457.total s : Nat) : Int)) > 0 then (2 * ((Km457.branch s v u : Nat) : Int) - ((Km457.total s : Nat) : Int)) else 0)) H3
      rw [e]
      exact q

/-! ### step_to_half -/
theorem next_till (s : Km457.Valley) (v : Nat) : next s v = if 0 < Km457.till s v then Km457.heavy s v else none := by
  unfold next Km457.till
  cases Km457.heavy s v with
  | none => rfl
  | some u =>
    show (if Km457.total s < 2 * Km457.branch s v u then some u else none) = if 0 < 2 * Km457.branch s v u - Km457.total s then some u else none
    by_cases c : Km457.total s < 2 * Km457.branch s v u
    · rw [if_pos c, if_pos (by omega)]
    · rw [if_neg c, if_neg (by omega)]
def sp_step_to_half (t : Ad) (ts : List TabI) : L2.Sp := fun vs H Q _ => ∃ (a : Addr) (s : Km457.Valley) (v : Nat), vs = [.ref a, .int (v : Int)] ∧ VsAt t.c_Village H a s ∧ WF s ∧ v < s.length ∧ (∀ i ∈ ts, TabOk i H) ∧
  ∀ (H' : Hp), Ext ts H H' → Q (ov (next s v)) H'
theorem ok_step_to_half (T : Tx K mg t) {c Pt : Addr} (M : LamH t ts base mg c Pt) : FnOk P w K mg base CX0 8 t.f_step_to_half t.g_step_to_half ["villages", "v"] (sp_step_to_half t ts) := by
  refine T.d_step_to_half.F.ok sc_step_to_half (fun vs H Q E h => ?_) (fun cdv A outer s H vs Q E hr h => ?_)
  · obtain ⟨a, s, v, rfl, _⟩ := h
    rfl
  · obtain ⟨a, s, v, rfl, hV, W, hv, hT, k⟩ := h
    refine ⟨_, pss_one (ps_ret (pe_ifExp (pt_cmpR op_gt (pe_call (ok_over_half (ts := ts) T M) hr rfl T.d_over_half.m T.d_over_half.F.kp T.d_over_half.b .nil pass0 (pa_cons (pv 0) (pa_cons (pv 1) pa_nil))) pe_int (nomark _))
      (pe_call (ok_heaviest (ts := ts) T M) (hr.mono (by decide)) rfl T.d_heaviest.m T.d_heaviest.F.kp T.d_heaviest.b .nil pass0 (pa_cons (pv 0) (pa_cons (pv 1) pa_nil))) pe_non)), ?_⟩
    refine ⟨_, rfl, _, rfl, a, s, v, rfl, hV, W, hv, hT, fun H1 e1 => ⟨_, _, rfl, rfl, _, rfl, ?_⟩⟩
    by_cases c : 0 < Km457.till s v
    · rw [decide_eq_true (by omega)]
      refine iteT ⟨_, rfl, _, rfl, a, s, v, rfl, hV.ext e1, W, hv, fun i hi => e1.tab i hi (hT i hi), fun H2 e2 => ?_⟩
      have q := k H2 (e1.trans e2)
      rw [next_till, if_pos c] at q
      exact q
    · rw [decide_eq_false (by omega)]
      refine iteF ?_
      have q := k H1 e1
      rw [next_till, if_neg c] at q
      exact q

/-! ### way_to_half -/
def sp_way_to_half (t : Ad) (ts : List TabI) : L2.Sp := fun vs H Q _ => ∃ (a : Addr) (s : Km457.Valley) (v : Nat), vs = [.ref a, .int (v : Int)] ∧ VsAt t.c_Village H a s ∧ WF s ∧ v < s.length ∧ (∀ i ∈ ts, TabOk i H) ∧
  ∀ (H' : Hp) (p : Addr), Ext ts H H' → H p = none → H' p = some (.lst (nts (Km457.toward s v))) → Q (.ref p) H'
theorem ok_way_to_half (T : Tx K mg t) {c Pt : Addr} (M : LamH t ts base mg c Pt) : FnOk P w K mg base CX0 9 t.f_way_to_half t.g_way_to_half ["villages", "v"] (sp_way_to_half t ts) := by
  refine T.d_way_to_half.F.ok sc_way_to_half (fun vs H Q E h => ?_) (fun cdv A outer s H vs Q E hr h => ?_)
  · obtain ⟨a, s, v, rfl, _⟩ := h
    rfl
  · obtain ⟨a, s, v, rfl, hV, W, hv, hT, k⟩ := h
    have nd := sc_way_to_half.nd
    have hle := W.le
    refine ⟨_, pss_cons (ps_set (i := 2) nd rfl (Or.inl rfl) (pe_lst (pa_cons (pv 1) pa_nil)))
      (pss_cons (ps_set (i := 3) nd rfl (Or.inl rfl) (pe_call (ok_step_to_half (ts := ts) T M) hr rfl T.d_step_to_half.m T.d_step_to_half.F.kp T.d_step_to_half.b .nil pass0 (pa_cons (pv 0) (pa_cons (pv 1) pa_nil))))
      (pss_cons (ps_while PassesOwn.never (pt_cmp (pc_notN (pv 3)))
        (pss_cons (ps_expr (pe_bm PySem.F.plainAttrs_list PySem.F.slot_list_append PySem.F.type_list_append mt_append (pv 2) (pa_cons (pv 3) pa_nil)))
          (pss_one (ps_set (i := 3) nd rfl (Or.inl rfl) (pe_call (ok_step_to_half (ts := ts) T M) hr rfl T.d_step_to_half.m T.d_step_to_half.F.kp T.d_step_to_half.b .nil pass0 (pa_cons (pv 0) (pa_cons (pv 3) pa_nil)))))))
      (pss_one (ps_ret (pv 2))))), ?_⟩
    refine ⟨_, rfl, (by show 1 ≤ sizeLine; decide), fun p hp => ?_⟩
    have e0 : Ext ts H (upd H p (.lst [.int (v : Int)])) := Ext.new hp
    refine ⟨_, rfl, _, rfl, a, s, v, rfl, hV.ext e0, W, hv, fun i hi => e0.tab i hi (hT i hi), fun H1 e1 => ?_⟩
    refine ⟨fun m σ' H' => ∃ (pre : List Nat) (cur : Nat), σ' = [some (.ref a), some (.int (v : Int)), some (.ref p), some (ov (next s cur))] ∧ Ext ts H H' ∧ H' p = some (.lst (nts pre)) ∧ cur < s.length ∧ Ends s m cur ∧ pre.length + m ≤ 12 ∧
      Km457.toward s v = pre ++ (match next s cur with | none => [] | some u => Km457.towardGo s m u), ⟨s.length - 1, [v], v, rfl, e0.trans e1, e1.lst upd_same, hv, ends_all W hv, by simp; omega, by rw [toward_go W hv, toward_step]; rfl⟩, ?_⟩
    rintro m σ' H' ⟨pre, cur, rfl, e, hp', hc, he, hlen, htw⟩
    refine ⟨_, rfl, _, rfl, ?_⟩
    cases hn : next s cur with
    | none =>
      refine iteF ⟨_, rfl, ?_⟩
      rw [hn] at htw
      simp only [List.append_nil] at htw
      exact k H' p e hp (by rw [hp', htw])
    | some u =>
      refine iteT ?_
      obtain ⟨hu1, _⟩ := next_is hn
      obtain ⟨hu, hnr⟩ := heavy_near hu1
      match m, he, hlen, htw with
      | 0, he, _, _ => exact absurd (hn.symm.trans he) (by simp)
      | m + 1, he, hlen, htw =>
        have he' := he u hn
        rw [hn] at htw
        refine ⟨fun σ2 H2 => ∃ (pre : List Nat) (cur : Nat), σ2 = [some (.ref a), some (.int (v : Int)), some (.ref p), some (ov (next s cur))] ∧ Ext ts H H2 ∧ H2 p = some (.lst (nts pre)) ∧ cur < s.length ∧ Ends s m cur ∧ pre.length + m ≤ 12 ∧
          Km457.toward s v = pre ++ (match next s cur with | none => [] | some u => Km457.towardGo s m u), fun σ2 H2 q => ⟨m, by omega, q⟩, ?_⟩
        refine ⟨_, rfl, .inl ⟨rfl, _, SqL.of hp'⟩, _, rfl, p, _, _, rfl, rfl, hp', slt (by rw [List.length_map]; omega), ?_⟩
        have e2 : Ext ts H (upd H' p (.lst (nts pre ++ [.int (u : Int)]))) := e.put hp hp' rfl (fun _ => by intro q; cases q)
        refine ⟨_, rfl, _, rfl, a, s, u, rfl, hV.ext e2, W, hu, fun i hi => e2.tab i hi (hT i hi), fun H3 e3 => ?_⟩
        refine ⟨pre ++ [u], u, rfl, e2.trans e3, ?_, hu, he', by simp; omega, ?_⟩
        · rw [nts_snoc]
          exact e3.lst upd_same
        · rw [htw]
          show pre ++ Km457.towardGo s (m + 1) u = _
          rw [toward_step, List.append_assoc]
          rfl
end Sp

end
section
set_option Elab.async false
set_option linter.all false
set_option maxRecDepth 100000
set_option maxHeartbeats 2000000
namespace Sp
open PySem PySem.Spec PyProof.Rows L2 Mt
open PySem.W (CodeHd)
variable {P : Program} {w : World} {K : PySem.W.Frag} {mg : Str → Option Value} {base : Heap} {t : Ad} {ts : List TabI}
/-! ### the least of a list of pairs -/
abbrev pick2 (g : Nat × Nat → Nat) : Option (Nat × Nat) → Nat × Nat → Option (Nat × Nat) := fun r p => match r with
  | none => some p
  | some q => if g p < g q then some p else some q
theorem pick2_stay (g : Nat × Nat → Nat) : ∀ (l : List (Nat × Nat)) (x : Nat × Nat), (∀ y ∈ l, g x ≤ g y) → l.foldl (pick2 g) (some x) = some x
  | [], _, _ => rfl
  | a :: l, x, h => by
    rw [List.foldl_cons]
    show l.foldl (pick2 g) (if g a < g x then some a else some x) = some x
    have := h a (List.mem_cons_self ..)
    rw [if_neg (by omega)]
    exact pick2_stay g l x fun y hy => h y (List.mem_cons_of_mem _ hy)
theorem pick2_some (g : Nat × Nat → Nat) : ∀ (l : List (Nat × Nat)) (x : Nat × Nat), ∃ y, l.foldl (pick2 g) (some x) = some y ∧ (y = x ∨ y ∈ l)
  | [], x => ⟨x, rfl, .inl rfl⟩
  | a :: l, x => by
    rw [List.foldl_cons]
    show ∃ y, l.foldl (pick2 g) (if g a < g x then some a else some x) = some y ∧ _
    by_cases h : g a < g x
    · rw [if_pos h]
      obtain ⟨y, e, r⟩ := pick2_some g l a
      exact ⟨y, e, .inr (r.elim (fun r => r ▸ List.mem_cons_self ..) fun r => List.mem_cons_of_mem _ r)⟩
    · rw [if_neg h]
      obtain ⟨y, e, r⟩ := pick2_some g l x
      exact ⟨y, e, r.imp_right fun r => List.mem_cons_of_mem _ r⟩
theorem pick2_first (g : Nat × Nat → Nat) {pre post : List (Nat × Nat)} {n : Nat × Nat} (h1 : ∀ y ∈ pre, g n < g y) (h2 : ∀ y ∈ post, g n ≤ g y) : (pre ++ n :: post).foldl (pick2 g) none = some n := by
  rw [List.foldl_append, List.foldl_cons]
  have : pick2 g (pre.foldl (pick2 g) none) n = some n := by
    cases pre with
    | nil => rfl
    | cons a pre =>
      rw [List.foldl_cons]
      obtain ⟨y, e, r⟩ := pick2_some g pre a
      have e : pre.foldl (pick2 g) (pick2 g none a) = some y := e
      rw [e]
      have hy : g n < g y := h1 y (r.elim (fun r => r ▸ List.mem_cons_self ..) fun r => List.mem_cons_of_mem _ r)
      show (if g n < g y then some n else some y) = some n
      rw [if_pos hy]
  rw [this]
  exact pick2_stay g post n h2
theorem best2_eq (s : Km457.Valley) : Km457.best2 s = (Km457.pairs s.length).foldl (pick2 fun p => Km457.ways2 s p.1 p.2) none := rfl
/-- the pairs whose first is i -/
abbrev prow (n i : Nat) : List (Nat × Nat) := ((List.range n).filter fun j => decide (i < j)).map fun j => (i, j)
theorem prow_eq {n i : Nat} (hi : i < n) : prow n i = (List.range (n - (i + 1))).map fun j => (i, i + 1 + j) := by
  unfold prow
  have e : n = i + 1 + (n - (i + 1)) := by omega
  have e2 : List.range n = List.range (i + 1) ++ (List.range (n - (i + 1))).map fun j => i + 1 + j := by
    conv => lhs; rw [e, List.range_add]
  rw [e2, List.filter_append, List.filter_eq_nil_iff.mpr, List.nil_append, List.filter_eq_self.mpr, List.map_map]
  · rfl
  · intro x hx
    obtain ⟨j, _, rfl⟩ := List.mem_map.mp hx
    simp only [decide_eq_true_eq]
    omega
  · intro x hx
    have := List.mem_range.mp hx
    simp only [decide_eq_true_eq]
    omega
theorem pairs_mem {n : Nat} {p : Nat × Nat} (h : p ∈ Km457.pairs n) : p.1 < n ∧ p.2 < n := by
  unfold Km457.pairs at h
  obtain ⟨i, hi, hp⟩ := List.mem_flatMap.mp h
  obtain ⟨j, hj, rfl⟩ := List.mem_map.mp hp
  exact ⟨List.mem_range.mp hi, List.mem_range.mp (List.mem_filter.mp hj).1⟩
theorem prow_len {n i : Nat} : (prow n i).length ≤ n := by
  unfold prow
  rw [List.length_map]
  exact Nat.le_trans (List.length_filter_le _ _) (by rw [List.length_range]; exact Nat.le_refl _)
theorem prows_len {n : Nat} : ∀ i, ((List.range i).flatMap (prow n)).length ≤ i * n
  | 0 => by simp
  | i + 1 => by
    rw [List.range_succ, List.flatMap_append, List.length_append, Nat.succ_mul]
    have := prows_len (n := n) i
    have := prow_len (n := n) (i := i)
    simp only [List.flatMap_cons, List.flatMap_nil, List.append_nil]
    omega
/-- pairs, each at its place -/
def PrAt (H : Hp) (ps : List Addr) (L : List (Nat × Nat)) : Prop := ps.length = L.length ∧ ∀ (i : Nat) (a : Addr) (x : Nat × Nat), ps[i]? = some a → L[i]? = some x → H a = some (.tup [.int (x.1 : Int), .int (x.2 : Int)])
theorem PrAt.ext {H H1 : Hp} {ps : List Addr} {L : List (Nat × Nat)} (e : Ext ts H H1) (h : PrAt H ps L) : PrAt H1 ps L := ⟨h.1, fun i a x q r => e.same _ _ rfl (h.2 i a x q r)⟩
theorem PrAt.upd {H : Hp} {ps : List Addr} {L : List (Nat × Nat)} {b : Addr} {xs : List V} {o : HO} (h : PrAt H ps L) (hb : H b = some (.lst xs)) : PrAt (upd H b o) ps L := ⟨h.1, fun i a x q r => by
  have := h.2 i a x q r
  rw [upd_ne (ne_of this hb (by intro z; cases z))]
  exact this⟩
theorem PrAt.app {H : Hp} {ps qs : List Addr} {L M : List (Nat × Nat)} (h : PrAt H ps L) (g : PrAt H qs M) : PrAt H (ps ++ qs) (L ++ M) := by
  refine ⟨by rw [List.length_append, List.length_append, h.1, g.1], fun i a x q r => ?_⟩
  by_cases c : i < ps.length
  · rw [List.getElem?_append_left c] at q
    rw [List.getElem?_append_left (by rw [← h.1]; exact c)] at r
    exact h.2 i a x q r
  · rw [List.getElem?_append_right (by omega)] at q
    rw [List.getElem?_append_right (by rw [← h.1]; omega), ← h.1] at r
    exact g.2 _ a x q r
/-- the key of a pair -/
def keyO (s : Km457.Valley) : Option HO → Int
  | some (.tup [.int i, .int j]) => (Km457.ways2 s i.toNat j.toNat : Nat)
  | _ => 0
def keyP (H : Hp) (s : Km457.Valley) : V → Int
  | .ref a => keyO s (H a)
  | _ => 0
theorem keyP_at {H : Hp} {s : Km457.Valley} {a : Addr} {x : Nat × Nat} (h : H a = some (.tup [.int (x.1 : Int), .int (x.2 : Int)])) : keyP H s (.ref a) = (Km457.ways2 s x.1 x.2 : Nat) := by
  show keyO s (H a) = _
  rw [h]
  rfl
theorem first_pairs {H : Hp} {s : Km457.Valley} {ps : List Addr} {L : List (Nat × Nat)} (hp : PrAt H ps L) {x : V} (h : FirstMin (keyP H s) (ps.map V.ref) x) : ∃ (a : Addr) (p : Nat × Nat), x = .ref a ∧ H a = some (.tup [.int (p.1 : Int), .int (p.2 : Int)]) ∧ L.foldl (pick2 fun p => Km457.ways2 s p.1 p.2) none = some p := by
  obtain ⟨pre, post, e, h1, h2⟩ := h
  obtain ⟨pre', r, e1, e2, e3⟩ := List.map_eq_append_iff.mp e
  obtain ⟨n, post', e4, e5, e6⟩ := List.map_eq_cons_iff.mp e3
  subst e5 e1 e4
  obtain ⟨hl, hat⟩ := hp
  rw [List.length_append, List.length_cons] at hl
  have hk : pre'.length < L.length := by omega
  have hn : (pre' ++ n :: post')[pre'.length]? = some n := by rw [List.getElem?_append_right (Nat.le_refl _), Nat.sub_self]; rfl
  have hp0 := hat _ n L[pre'.length] hn (List.getElem?_eq_getElem hk)
  refine ⟨n, L[pre'.length], rfl, hp0, ?_⟩
  have kn : keyP H s (.ref n) = (Km457.ways2 s L[pre'.length].1 L[pre'.length].2 : Nat) := keyP_at hp0
  have eL : L = L.take pre'.length ++ L[pre'.length] :: L.drop (pre'.length + 1) := by rw [List.getElem_cons_drop, List.take_append_drop]
  have key : ∀ i (hi : i < L.length), ∃ a, (pre' ++ n :: post')[i]? = some a ∧ keyP H s (.ref a) = (Km457.ways2 s L[i].1 L[i].2 : Nat) := fun i hi => by
    have hi' : i < (pre' ++ n :: post').length := by rw [List.length_append, List.length_cons]; omega
    refine ⟨_, List.getElem?_eq_getElem hi', keyP_at (hat i _ _ (List.getElem?_eq_getElem hi') (List.getElem?_eq_getElem hi))⟩
  generalize hz : L[pre'.length] = z at eL kn
  rw [eL]
  refine pick2_first _ (fun y hy => ?_) fun y hy => ?_
  · obtain ⟨i, hi, ey⟩ := List.getElem_of_mem hy
    rw [List.length_take] at hi
    rw [List.getElem_take] at ey
    obtain ⟨a, ha, ka⟩ := key i (by omega)
    rw [List.getElem?_append_left (by omega)] at ha
    have := h1 (.ref a) (by rw [← e2]; exact List.mem_map.mpr ⟨a, List.mem_of_getElem? ha, rfl⟩)
    rw [ka, kn, ey] at this
    omega
  · obtain ⟨i, hi, ey⟩ := List.getElem_of_mem hy
    rw [List.length_drop] at hi
    rw [List.getElem_drop] at ey
    obtain ⟨a, ha, ka⟩ := key (pre'.length + 1 + i) (by omega)
    rw [List.getElem?_append_right (by omega), show pre'.length + 1 + i - pre'.length = i + 1 by omega, List.getElem?_cons_succ] at ha
    have := h2 (.ref a) (by rw [← e6]; exact List.mem_map.mpr ⟨a, List.mem_of_getElem? ha, rfl⟩)
    rw [ka, kn, ey] at this
    omega

/-! ### best_two -/
def sp_best_two (t : Ad) (ts : List TabI) : L2.Sp := fun vs H Q _ => ∃ (a : Addr) (s : Km457.Valley), vs = [.ref a] ∧ VsAt t.c_Village H a s ∧ WF s ∧ (∀ i ∈ ts, TabOk i H) ∧
  (∀ (H' : Hp), Ext ts H H' → Km457.best2 s = none → Q .non H') ∧
  (∀ (H' : Hp) (b : Addr) (p : Nat × Nat), Ext ts H H' → Km457.best2 s = some p → H' b = some (.tup [.int (p.1 : Int), .int (p.2 : Int)]) → Q (.ref b) H')
/-- the table of best_two's code -/
abbrev LamB (t : Ad) (ts : List TabI) (base : Heap) (mg : Str → Option Value) (c P : Addr) : Prop := Lam la_best_two t.g_best_two ts base mg c P
theorem szl2 : (2 : Nat) ≤ sizeLine := by decide
theorem best2_none {s : Km457.Valley} (h : Km457.pairs s.length = []) : Km457.best2 s = none := by rw [best2_eq, h]; rfl
theorem ok_best_two (T : Tx K mg t) {c Pt : Addr} (M : LamB t ts base mg c Pt) : FnOk P w K mg base CX0 5 t.f_best_two t.g_best_two ["villages"] (sp_best_two t ts) := by
  refine okC T.d_best_two.F sc_best_two (fun vs H Q E h => ?_) (fun cdv A outer s H vs Q E hcd hr h => ?_)
  · obtain ⟨a, s, rfl, _⟩ := h
    rfl
  · obtain ⟨a, s, rfl, hV, W, hT, k0, k1⟩ := h
    have nd := sc_best_two.nd
    have hle := W.le
    refine ⟨_, pss_cons (ps_set (i := 1) nd rfl (Or.inr rfl) (pe_lc (own := [("v", 2)]) rfl nd (pi_range1 rfl T.bl_range (pa_cons (pe_callB call_len_seq rfl T.bl_len PySem.boot_len (pa_cons (pv 0) pa_nil)) pa_nil))
        (blkOk_by (N := N_best_two) (sc := defScope s_best_two) (by decide +kernel)) (fun _ _ _ _ _ => pg_name (i := 2) nd rfl (Or.inl rfl)) (fun _ _ _ _ _ => pts_nil)
        (fun _ _ _ _ _ => pe_call (ok_distances (ts := ts) T) (hr.mono (by decide)) rfl T.d_distances.m T.d_distances.F.kp T.d_distances.b .nil pass0 (pa_cons (pv 0) (pa_cons (pv 2) pa_nil)))))
      (pss_cons (ps_set (i := 3) nd rfl (Or.inl rfl) (pe_lst pa_nil))
      (pss_cons (ps_for PassesOwn.never rfl (pi_range1 rfl T.bl_range (pa_cons (pe_callB call_len_seq rfl T.bl_len PySem.boot_len (pa_cons (pv 0) pa_nil)) pa_nil)) (pg_name (i := 2) nd rfl (Or.inr rfl))
        (pss_one (ps_expr (pe_bm PySem.F.plainAttrs_list PySem.F.slot_list_extend PySem.F.type_list_extend mt_extend (pv 3) (pa_cons
          (pe_lc (own := [("w", 4)]) rfl nd (pi_range2 rfl T.bl_range (pa_cons (pe_op op_add (pv 2) pe_int) (pa_cons (pe_callB call_len_seq rfl T.bl_len PySem.boot_len (pa_cons (pv 0) pa_nil)) pa_nil)))
            (blkOk_by (N := N_best_two) (sc := defScope s_best_two) (by decide +kernel)) (fun _ _ _ _ _ => pg_name (i := 4) nd rfl (Or.inl rfl)) (fun _ _ _ _ _ => pts_nil)
            (fun _ _ _ _ _ => pe_tup (pa_cons (pv 2) (pa_cons (pv 4) pa_nil)))) pa_nil)))))
      (pss_one (ps_ret (pe_minkey (ts := ts) (ti := la_best_two Pt) (c := c) (k := 2) (i := 5) (x := "pair") rfl hr rfl T.bl_min nd (blkOk_by (N := N_best_two) (sc := defScope s_best_two) (by decide +kernel)) rfl (by decide +kernel) rfl rfl M.mem M.uq rfl rfl rfl (hcd.trans M.code) M.hd M.bm rfl (fun _ _ _ _ _ => rfl)
        (pv 3)
        (fun A s H L f cd cl hrA => pe_call (ok_nearer_ways (ts := ts) T) (hrA.deeper _) rfl T.d_nearer_ways.m T.d_nearer_ways.F.kp T.d_nearer_ways.b .nil pass0 (pa_cons (pv 0) (pa_cons
          (pe_ix (ix_listk (K := K) rfl) (pv 1) (pe_ix (ix_tupk (K := K) rfl) (pv 5) pe_int (fun _ _ => rfl)) (fun _ _ => rfl)) (pa_cons
          (pe_ix (ix_listk (K := K) rfl) (pv 1) (pe_ix (ix_tupk (K := K) rfl) (pv 5) pe_int (fun _ _ => rfl)) (fun _ _ => rfl)) pa_nil))))))))), ?_⟩
    obtain ⟨xs0, g1, g2⟩ := hV.lst
    refine ⟨_, rfl, a, _, rfl, .inl (SqL.of g1), _, rfl, by omega, by omega, fun D hD => ?_⟩
    rw [g2, Int.toNat_natCast]
    refine lc_range (fun j H' => Ext ts H H' ∧ ∃ ps : List Addr, H' D = some (.lst (ps.map V.ref)) ∧ ps.length = j ∧ ∀ (i : Nat) (b : Addr), ps[i]? = some b → b ≠ D ∧ H' b = some (.lst (nts ((Km457.all s).map fun x => Km457.far s i x)))) ⟨Ext.new hD, [], by rw [upd_same]; rfl, rfl, fun i b q => (by cases q)⟩ ?_ ?_
    · rintro n H' hj ⟨e, ps, h1, h2, h3⟩
      rw [Int.zero_add]
      refine ⟨rfl, ?_⟩
      unfold tYes
      dsimp only
      rw [if_pos rfl]
      refine ⟨_, rfl, _, rfl, a, s, n, rfl, hV.ext e, W, hj, fun H4 p e4 hp h4 => ⟨_, e4.lst h1, slt (by rw [List.length_map]; omega), (e.trans e4).put hD (e4.lst h1) rfl (fun _ => by intro q; cases q), ps ++ [p], ?_, by simp [h2], fun i b q => ?_⟩⟩
      · rw [upd_same, List.map_append]
        rfl
      · by_cases c : i < ps.length
        · rw [List.getElem?_append_left c] at q
          obtain ⟨q1, q2⟩ := h3 i b q
          exact ⟨q1, by rw [upd_ne q1]; exact e4.lst q2⟩
        · rw [List.getElem?_append_right (by omega)] at q
          have hi : i - ps.length = 0 := by
            cases z : i - ps.length with
            | zero => rfl
            | succ m => rw [z] at q; cases q
          rw [hi] at q
          have : p = b := Option.some.inj q
          subst this
          have hne : p ≠ D := fun z => by rw [z, h1] at hp; cases hp
          have ei : i = n := by omega
          subst ei
          exact ⟨hne, by rw [upd_ne hne]; exact h4⟩
    · rintro H1 ⟨e1, ps, h1, h2, h3⟩
      refine ⟨Nat.zero_le _, fun R hR => ?_⟩
      have e2 : Ext ts H1 (upd H1 R (.lst [])) := Ext.new hR
      obtain ⟨xs1, g3, g4⟩ := (hV.ext (e1.trans e2)).lst
      refine ⟨_, rfl, a, _, rfl, .inl (SqL.of g3), _, rfl, by omega, by omega, ?_⟩
      rw [g4, Int.toNat_natCast]
      refine for_range (fun i σ' H' => ∃ (v0 : Option V) (qs : List Addr), σ' = [some (.ref a), some (.ref D), v0, some (.ref R), none, none] ∧ Ext ts H1 H' ∧ H' R = some (.lst (qs.map V.ref)) ∧ PrAt H' qs ((List.range i).flatMap (prow s.length))) ⟨none, [], rfl, e2, by rw [upd_same]; rfl, ⟨rfl, fun i b x q => (by cases q)⟩⟩ ?_ ?_
      · rintro i σ' H' hi ⟨v0, qs, rfl, e, hq, hP⟩
        rw [Int.zero_add]
        obtain ⟨xs2, g5, g6⟩ := (hV.ext (e1.trans e)).lst
        refine ⟨_, rfl, .inl ⟨rfl, _, SqL.of hq⟩, _, rfl, _, _, rfl, rfl, _, rfl, a, _, rfl, .inl (SqL.of g5), _, _, rfl, ⟨by omega, by omega, by omega, by omega⟩, fun B hB => ?_⟩
        have eN : ((xs2.length : Int) - ((i : Int) + 1)).toNat = s.length - (i + 1) := by omega
        rw [eN]
        refine lc_range (fun j H2 => Ext ts H' H2 ∧ ∃ rs : List Addr, H2 B = some (.lst (rs.map V.ref)) ∧ PrAt H2 rs ((List.range j).map fun m => (i, i + 1 + m))) ⟨Ext.new hB, [], by rw [upd_same]; rfl, ⟨rfl, fun i b x q => (by cases q)⟩⟩ ?_ ?_
        · rintro m H2 hm ⟨e3, rs, h4, h5⟩
          refine ⟨rfl, ?_⟩
          unfold tYes
          dsimp only
          rw [if_pos rfl]
          refine ⟨_, rfl, _, rfl, szl2, fun p hp => ?_⟩
          have e4 : Ext ts H2 (upd H2 p (.tup [.int (i : Int), .int ((i : Int) + 1 + (m : Int))])) := Ext.new hp
          have hlen := h5.1
          rw [List.length_map, List.length_range] at hlen
          refine ⟨_, e4.lst h4, slt (by rw [List.length_map]; omega), (e3.trans e4).put hB (e4.lst h4) rfl (fun _ => by intro q; cases q), rs ++ [p], ?_, ?_⟩
          · rw [upd_same, List.map_append]
            rfl
          · rw [List.range_succ, List.map_append]
            refine PrAt.app ((h5.ext e4).upd (e4.lst h4)) ⟨rfl, fun j b x q r => ?_⟩
            match j, q, r with
            | 0, q, r =>
              have e5 : p = b := Option.some.inj q
              have e6 : (i, i + 1 + m) = x := Option.some.inj r
              subst e5 e6
              have hne : p ≠ B := fun z => by rw [z, h4] at hp; cases hp
              rw [upd_ne hne, upd_same]
              rfl
        · rintro H2 ⟨e3, rs, h4, h5⟩
          have hl1 := hP.1
          have hl2 := h5.1
          have hl3 := prows_len (n := s.length) i
          have hl4 : i * s.length ≤ 12 * 12 := Nat.mul_le_mul (by omega) hle
          rw [List.length_map, List.length_range] at hl2
          refine ⟨R, B, _, _, rfl, rfl, e3.lst hq, h4, sl (by rw [List.length_map, List.length_map]; omega), ?_⟩
          refine ⟨_, qs ++ rs, rfl, (e.trans e3).put hR (e3.lst hq) rfl (fun _ => by intro q; cases q), ?_, ?_⟩
          · rw [upd_same, List.map_append]
          · rw [List.range_succ, List.flatMap_append]
            refine PrAt.app ((hP.ext e3).upd (e3.lst hq)) ?_
            have e7 : [i].flatMap (prow s.length) = (List.range (s.length - (i + 1))).map fun m => (i, i + 1 + m) := by
              rw [← prow_eq hi]
              simp
            rw [e7]
            exact h5.upd (e3.lst hq)
      · rintro σ' H' ⟨v0, qs, rfl, e, hq, hP⟩
        have hP : PrAt H' qs (Km457.pairs s.length) := hP
        have e0 : Ext ts H H' := e1.trans e
        refine ⟨_, rfl, R, _, keyP H' s, rfl, e0.tab _ M.mem (hT _ M.mem), SqL.of hq, ?_, ?_, ?_⟩
        · intro x hx H3 e3 Q' q'
          obtain ⟨b, hb, rfl⟩ := List.mem_map.mp hx
          obtain ⟨i, hi⟩ := List.getElem?_of_mem hb
          have hi' : i < (Km457.pairs s.length).length := by rw [← hP.1]; exact (List.getElem?_eq_some_iff.mp hi).1
          have hpr := hP.2 i b _ hi (List.getElem?_eq_getElem hi')
          obtain ⟨m1, m2⟩ := pairs_mem (List.getElem_mem hi')
          have key := keyP_at (s := s) hpr
          generalize (Km457.pairs s.length)[i] = x at hpr m1 m2 key
          have hpr3 := e3.same _ _ rfl hpr
          obtain ⟨b1, hb1⟩ : ∃ b1, ps[x.1]? = some b1 := ⟨_, List.getElem?_eq_getElem (by omega)⟩
          obtain ⟨b2, hb2⟩ : ∃ b2, ps[x.2]? = some b2 := ⟨_, List.getElem?_eq_getElem (by omega)⟩
          have hD3 := (e.trans e3).lst h1
          have at1 : atI (ps.map V.ref) (x.1 : Int) = some (.ref b1) := atI_nat (by rw [List.getElem?_map, hb1]; rfl)
          have at2 : atI (ps.map V.ref) (x.2 : Int) = some (.ref b2) := atI_nat (by rw [List.getElem?_map, hb2]; rfl)
          refine ⟨_, rfl, _, rfl, _, rfl, b, _, _, _, rfl, rfl, SqT.of hpr3, atI_nat (j := 0) rfl, D, _, _, _, rfl, rfl, SqL.of hD3, at1, ?_⟩
          refine ⟨_, rfl, _, rfl, b, _, _, _, rfl, rfl, SqT.of hpr3, atI_nat (j := 1) rfl, D, _, _, _, rfl, rfl, SqL.of hD3, at2, ?_⟩
          refine ⟨a, b1, b2, s, x.1, x.2, rfl, hV.ext (e0.trans e3), W, (e.trans e3).lst (h3 _ _ hb1).2, (e.trans e3).lst (h3 _ _ hb2).2, fun H4 e4 => ?_⟩
          have := q' H4 e4
          rw [key] at this
          exact this
        · intro hz H3 e3
          refine k0 H3 (e0.trans e3) (best2_none (List.length_eq_zero_iff.mp ?_))
          rw [← hP.1, List.map_eq_nil_iff.mp hz]
          rfl
        · intro x H3 e3 hfm
          obtain ⟨b, p, rfl, hb, hp⟩ := first_pairs hP hfm
          exact k1 H3 b p (e0.trans e3) hp (e3.same _ _ rfl hb)

/-! ### all_roads -/
def sp_all_roads (t : Ad) (ts : List TabI) : L2.Sp := fun vs H Q _ => ∃ (a : Addr) (s : Km457.Valley), vs = [.ref a] ∧ VsAt t.c_Village H a s ∧ WF s ∧ ∀ (H' : Hp), Ext ts H H' → Q (.int (Km457.sum (s.map fun x => x.long) : Nat)) H'
theorem ok_all_roads (T : Tx K mg t) : FnOk P w K mg base CX0 1 t.f_all_roads t.g_all_roads ["villages"] (sp_all_roads t ts) := by
  refine T.d_all_roads.F.ok sc_all_roads (fun vs H Q E h => ?_) (fun cdv A outer s H vs Q E hr h => ?_)
  · obtain ⟨a, s, rfl, _⟩ := h
    rfl
  · obtain ⟨a, s, rfl, hV, W, k⟩ := h
    have nd := sc_all_roads.nd
    have hle := W.le
    refine ⟨_, pss_one (ps_ret (pe_callB (cr_sum rfl) rfl T.bl_sum boot_sum (pa_cons (pe_lc (own := [("village", 1)]) rfl nd (pi_list (pv 0))
        (blkOk_by (N := N_all_roads) (sc := defScope s_all_roads) (by decide +kernel)) (fun _ _ _ _ _ => pg_name (i := 1) nd rfl (Or.inl rfl)) (fun _ _ _ _ _ => pts_nil)
        (fun _ _ _ _ _ => pe_fldk (K := K) rfl (pv 1) rfl)) pa_nil))), ?_⟩
    obtain ⟨as, h1, h2, h3⟩ := hV
    refine ⟨_, rfl, a, rfl, ⟨_, SqL.of h1⟩, fun D hD => ?_⟩
    refine lc_list (K := K) (xs := as.map V.ref) (fun j H' => Ext ts H H' ∧ H' D = some (.lst (((s.take j).map fun x => x.long).map fun (n : Nat) => V.int (n : Int)))) ⟨Ext.new hD, by rw [upd_same]; simp⟩ (fun j H' _ ⟨e, _⟩ => e.seq (SqL.of h1)) ?_ ?_
    · rintro j x H' hj ⟨e, hH⟩
      have hjl : j < s.length := by
        have := (List.getElem?_eq_some_iff.mp hj).1
        rw [List.length_map] at this; omega
      obtain ⟨b, hb, dx, hins⟩ := h3 j s[j] (List.getElem?_eq_getElem hjl)
      have ex : x = .ref b := by
        rw [List.getElem?_map, hb] at hj
        exact (Option.some.inj hj).symm
      subst ex
      refine ⟨rfl, ?_⟩
      unfold tYes
      dsimp only
      rw [if_pos rfl]
      refine ⟨_, rfl, b, _, dx, _, _, rfl, e.ins hins, T.cl_Village, T.no_Village_road, vf_road, _, hH, ?_, e.put hD hH rfl (fun _ => by intro q; cases q), ?_⟩
      · rw [List.length_map, List.length_map, List.length_take]
        exact slt (by omega)
      · rw [upd_same, takeS (List.getElem?_eq_getElem hjl), List.map_append, List.map_append]
        rfl
    · rintro H3 ⟨e, hH⟩
      rw [List.length_map, h2, List.take_length] at hH
      refine ⟨D, (s.map fun x => x.long).map (fun (n : Nat) => (n : Int)), rfl, SqL.of ?_, ?_⟩
      · rw [hH, ← sum_nts]
      · rw [← sum_ints]
        exact k H3 e
end Sp

end
section
set_option Elab.async false
set_option linter.all false
set_option maxRecDepth 100000
set_option maxHeartbeats 2000000
namespace Sp
open PySem PySem.Spec PyProof.Rows L2 Mt
variable {P : Program} {w : World} {K : PySem.W.Frag} {mg : Str → Option Value} {base : Heap} {t : Ad} {ts : List TabI}

/-! ### is_road, bits, padded, replaced -/
def sp_is_road : L2.Sp := fun vs H Q _ => ∃ z : Int, vs = [.int z] ∧ Q (.bl (decide (1 ≤ z ∧ z ≤ 1000))) H
theorem ok_is_road (T : Tx K mg t) : FnOk P w K mg base CX0 1 t.f_is_road t.g_is_road ["far"] sp_is_road := by
  refine T.d_is_road.F.ok sc_is_road (fun vs H Q E h => ?_) (fun cdv A outer s H vs Q E hr h => ?_)
  · obtain ⟨z, rfl, _⟩ := h
    rfl
  · obtain ⟨z, rfl, k⟩ := h
    obtain ⟨x1, m1⟩ := T.k_LONGEST_ROAD
    refine ⟨_, pss_one (ps_ret (pe_chain op_le op_le pe_int (pv 0) (pe_glob (v := .int 1000) rfl m1 ⟨x1, rfl⟩))), ?_⟩
    refine ⟨_, rfl, _, _, rfl, rfl, _, rfl, ?_⟩
    by_cases h1 : (1 : Int) ≤ z
    · rw [decide_eq_true h1]
      refine iteT ⟨_, _, rfl, rfl, ?_⟩
      have e : decide (z ≤ 1000) = decide (1 ≤ z ∧ z ≤ 1000) := by simp [h1]
      show Q (V.bl (decide (z ≤ 1000))) H
      rw [e]
      exact k
    · rw [decide_eq_false h1]
      refine iteF ?_
      have e : false = decide (1 ≤ z ∧ z ≤ 1000) := by simp [h1]
      show Q (V.bl false) H
      rw [e]
      exact k
theorem bits_snoc (l : List Nat) (n : Nat) : Km457.bits (l ++ [n]) = Km457.bits l + 2 ^ n := by
  unfold Km457.bits
  rw [List.foldl_append]
  rfl
theorem bits_lt {L : List Nat} (hs : L.Pairwise (· < ·)) : ∀ (i k : Nat), (∀ x ∈ L.take i, x < k) → Km457.bits (L.take i) < 2 ^ k := by
  intro i
  induction i with
  | zero => intro k _; rw [List.take_zero]; exact Nat.two_pow_pos k
  | succ i ih =>
    intro k hk
    by_cases hi : i < L.length
    · have e := takeS (List.getElem?_eq_getElem hi)
      rw [e] at hk ⊢
      have hn : L[i] < k := hk _ (List.mem_append_right _ (List.mem_singleton.mpr rfl))
      have hlt : ∀ x ∈ L.take i, x < L[i] := fun x hx => by
        obtain ⟨j, hj, ej⟩ := List.getElem_of_mem hx
        have hj' : j < i := by rw [List.length_take] at hj; omega
        rw [List.getElem_take] at ej
        rw [← ej]
        exact List.pairwise_iff_getElem.mp hs j i (by omega) hi hj'
      have h1 := ih L[i] hlt
      rw [bits_snoc]
      have h2 : 2 ^ (L[i] + 1) ≤ 2 ^ k := Nat.pow_le_pow_right (by decide) hn
      rw [Nat.pow_succ] at h2
      omega
    · rw [List.take_of_length_le (by omega)]
      have := ih k (fun x hx => hk x (by rw [List.take_of_length_le (by omega)] at hx ⊢; exact hx))
      rw [List.take_of_length_le (by omega)] at this
      exact this
theorem sorted_filter {p : Nat → Bool} {n : Nat} : ((List.range n).filter p).Pairwise (· < ·) := List.Pairwise.filter p List.pairwise_lt_range
def sp_bits (ts : List TabI) : L2.Sp := fun vs H Q _ => ∃ (l : Addr) (L : List Nat), vs = [.ref l] ∧ H l = some (.lst (nts L)) ∧ L.Pairwise (· < ·) ∧ (∀ x ∈ L, x < 1000) ∧ Q (.int (Km457.bits L : Nat)) H
theorem ok_bits (T : Tx K mg t) : FnOk P w K mg base CX0 1 t.f_bits t.g_bits ["places"] (sp_bits ts) := by
  refine T.d_bits.F.ok sc_bits (fun vs H Q E h => ?_) (fun cdv A outer s H vs Q E hr h => ?_)
  · obtain ⟨l, L, rfl, _⟩ := h
    rfl
  · obtain ⟨l, L, rfl, hl, hs, hb, k⟩ := h
    have nd := sc_bits.nd
    refine ⟨_, pss_cons (ps_set (i := 1) nd rfl (Or.inl rfl) pe_int) (pss_cons (ps_for PassesOwn.never rfl (pi_list (pv 0)) (pg_name (i := 2) nd rfl (Or.inl rfl)) (pss_one (ps_set (i := 1) nd rfl (Or.inl rfl) (pe_op op_or (pv 1) (pe_op op_shl pe_int (pv 2)))))) (pss_one (ps_ret (pv 1)))), ?_⟩
    refine ⟨_, rfl, l, rfl, ⟨_, SqL.of hl⟩, ?_⟩
    refine for_list (K := K) (a := l) (xs := nts L) (fun i σ' H' => ∃ x : Option V, σ' = [some (.ref l), some (.int (Km457.bits (L.take i) : Nat)), x] ∧ H' = H) ⟨none, rfl, rfl⟩ (fun i σ' H' _ ⟨_, _, e⟩ => by rw [e]; exact SqL.of hl) ?_ ?_
    · rintro i x σ' H' hi ⟨y, rfl, rfl⟩
      obtain ⟨n, hn, rfl⟩ := nts_at hi
      have hil : i < L.length := (List.getElem?_eq_some_iff.mp hn).1
      have hnm : n ∈ L := List.mem_of_getElem? hn
      have := hb n hnm
      have hlt : Km457.bits (L.take i) < 2 ^ n := bits_lt hs i n fun x hx => by
        obtain ⟨j, hj, ej⟩ := List.getElem_of_mem hx
        have hj' : j < i := by rw [List.length_take] at hj; omega
        rw [List.getElem_take] at ej
        have en : L[i] = n := (List.getElem?_eq_some_iff.mp hn).2
        rw [← ej, ← en]
        exact List.pairwise_iff_getElem.mp hs j i (by omega) hil hj'
      refine ⟨_, rfl, _, rfl, _, _, rfl, rfl, ⟨by omega, by omega, by decide⟩, _, _, rfl, rfl, ?_⟩
      refine ⟨some (.int (n : Int)), ?_, rfl⟩
      have e : Builtin.bitOr (Km457.bits (L.take i) : Nat) (1 * 2 ^ (n : Int).toNat) = (Km457.bits (L.take (i + 1)) : Nat) := by
        rw [Bits.bitOr_join (by omega) (by rw [Int.toNat_natCast, two_pow_cast]; exact_mod_cast hlt) (by decide), takeS hn, bits_snoc, Int.toNat_natCast, two_pow_cast]
        omega
      exact congrArg (fun z => [some (V.ref l), some (V.int z), some (V.int (n : Int))]) e
    · rintro σ' H' ⟨x, rfl, rfl⟩
      rw [List.length_map, List.take_length]
      exact ⟨_, rfl, k⟩
def sp_padded (ts : List TabI) : L2.Sp := fun vs H Q _ => ∃ (l : Addr) (L : List Nat), vs = [.ref l] ∧ H l = some (.lst (nts L)) ∧ L.length ≤ 12 ∧ ∀ (H' : Hp) (p : Addr), Ext ts H H' → H p = none → H' p = some (.lst (nts (Km457.fill 12 L))) → Q (.ref p) H'
theorem rep_one (k : Nat) (z : V) : (List.replicate k [z]).flatten = List.replicate k z := by
  induction k with
  | zero => rfl
  | succ k ih => rw [List.replicate_succ, List.flatten_cons, ih, List.replicate_succ]; rfl
theorem ok_padded (T : Tx K mg t) : FnOk P w K mg base CX0 1 t.f_padded t.g_padded ["numbers"] (sp_padded ts) := by
  refine T.d_padded.F.ok sc_padded (fun vs H Q E h => ?_) (fun cdv A outer s H vs Q E hr h => ?_)
  · obtain ⟨l, L, rfl, _⟩ := h
    rfl
  · obtain ⟨l, L, rfl, hl, hlen, k⟩ := h
    obtain ⟨x1, m1⟩ := T.k_MOST_VILLAGES
    refine ⟨_, pss_one (ps_ret (pe_op op_cat (pv 0) (pe_op op_rep (pe_lst (pa_cons pe_int pa_nil)) (pe_op op_sub (pe_glob (v := .int 12) rfl m1 ⟨x1, rfl⟩) (pe_callB call_len_seq rfl T.bl_len PySem.boot_len (pa_cons (pv 0) pa_nil)))))), ?_⟩
    refine ⟨_, rfl, (by show 1 ≤ sizeLine; decide), fun p hp => ?_⟩
    have hlp := ne_of_none hl hp
    have h2 : upd H p (.lst [.int 0]) l = some (.lst (nts L)) := by rw [upd_ne hlp]; exact hl
    refine ⟨_, rfl, l, _, rfl, .inl (SqL.of h2), _, _, rfl, rfl, p, _, _, rfl, rfl, upd_same, by rw [List.length_map]; omega, by rw [List.length_map]; omega, ?_, fun q hq => ?_⟩
    · rw [List.length_map]
      exact sl (by simp; omega)
    · have hlq := ne_of_none h2 hq
      have h3 : upd (upd H p (.lst [.int 0])) q (.lst (List.replicate ((12 : Int) - ((nts L).length : Int)).toNat [V.int 0]).flatten) l = some (.lst (nts L)) := by rw [upd_ne hlq]; exact h2
      refine ⟨l, q, _, _, rfl, rfl, h3, upd_same, ?_, fun r hr2 => ?_⟩
      · rw [rep_one, List.length_replicate, List.length_map]
        exact sl (by omega)
      · have e : Ext ts H (upd (upd (upd H p (.lst [.int 0])) q (.lst (List.replicate ((12 : Int) - ((nts L).length : Int)).toNat [V.int 0]).flatten)) r (.lst (nts L ++ (List.replicate ((12 : Int) - ((nts L).length : Int)).toNat [V.int 0]).flatten))) := ((Ext.new hp).trans (Ext.new hq)).trans (Ext.new hr2)
        refine k _ r e (((Ext.new (ts := ts) hp).trans (Ext.new hq)).has _ hr2) ?_
        rw [upd_same, rep_one]
        unfold Km457.fill
        have e2 : ((12 : Int) - ((nts L).length : Int)).toNat = 12 - L.length := by rw [List.length_map]; omega
        rw [List.take_of_length_le hlen, e2]
        have e3 : nts (L ++ List.replicate (12 - L.length) 0) = nts L ++ List.replicate (12 - L.length) (V.int 0) := by simp
        rw [e3]
/-! ### row -/
def sp_row (ts : List TabI) : L2.Sp := fun vs H Q _ => ∃ (l : Addr) (L : List Nat), vs = [.ref l] ∧ H l = some (.lst (nts L)) ∧ L.length ≤ 12 ∧ ∀ (H' : Hp) (p : Addr), Ext ts H H' → H p = none → H' p = some (.lst (nts (Km457.fill 12 (L.map fun x => x + 1)))) → Q (.ref p) H'
theorem ok_row (T : Tx K mg t) : FnOk P w K mg base CX0 2 t.f_row t.g_row ["places"] (sp_row ts) := by
  refine T.d_row.F.ok sc_row (fun vs H Q E h => ?_) (fun cdv A outer s H vs Q E hr h => ?_)
  · obtain ⟨l, L, rfl, _⟩ := h
    rfl
  · obtain ⟨l, L, rfl, hl, hlen, k⟩ := h
    have nd := sc_row.nd
    refine ⟨_, pss_one (ps_ret (pe_call (ok_padded (ts := ts) T) hr rfl T.d_padded.m T.d_padded.F.kp T.d_padded.b .nil pass0 (pa_cons
        (pe_lc (own := [("v", 1)]) rfl nd (pi_list (pv 0)) (blkOk_by (N := N_row) (sc := defScope s_row) (by decide +kernel)) (fun _ _ _ _ _ => pg_name (i := 1) nd rfl (Or.inl rfl)) (fun _ _ _ _ _ => pts_nil)
          (fun _ _ _ _ _ => pe_op op_add (pv 1) pe_int)) pa_nil))), ?_⟩
    refine ⟨_, rfl, l, rfl, ⟨_, SqL.of hl⟩, fun D hD => ?_⟩
    refine lcL (ts := ts) (K := K) (L := L) (i := 1) (fun _ => true) (fun n => .int ((n + 1 : Nat) : Int)) (SqL.of hl) hD (by omega) (fun _ _ => rfl) (fun _ _ _ _ => et_yes) ?_ ?_
    · intro m hm _ H3 e3 Q' q'
      refine ⟨_, rfl, _, _, rfl, rfl, ?_⟩
      exact q' H3 (Ext.refl _)
    · intro H3 e3 h3
      have h3' : H3 D = some (.lst (nts (L.map fun x => x + 1))) := by
        rw [h3, filter_yes, nts_map]
      refine ⟨D, _, rfl, h3', by rw [List.length_map]; omega, fun H4 r e4 hr4 h4 => ?_⟩
      exact k H4 r (e3.trans e4) (e3.has _ hr4) h4
end Sp

end
section
set_option Elab.async false
set_option linter.all false
set_option maxRecDepth 100000
set_option maxHeartbeats 2000000
namespace Sp
open PySem PySem.Spec PyProof.Rows L2 Mt
variable {P : Program} {w : World} {K : PySem.W.Frag} {mg : Str → Option Value} {base : Heap} {t : Ad} {ts : List TabI}

/-- y, and the two lists that the object at y keeps -/
def Own (H : Hp) (y b : Addr) : Prop := b = y ∨ ∃ C dx fs, H y = some (.ins C dx fs) ∧ (fs.lookup ("earlier" : Str) = some (.ref b) ∨ fs.lookup ("later" : Str) = some (.ref b))
def Isin (H : Hp) (y : Addr) : Prop := ∃ C dx fs, H y = some (.ins C dx fs)
/-- all that was tracked is as it was, but the object at y and its lists -/
structure Stp (ts : List TabI) (y : Addr) (H H' : Hp) : Prop where
  same : ∀ b o, ¬ Own H y b → isTbl o = false → H b = some o → H' b = some o
  has : ∀ b, H' b = Option.none → H b = Option.none
  tab : ∀ i, i ∈ ts → TabOk i H → TabOk i H'
  own : ∀ b, Own H' y b → Own H y b ∨ H b = Option.none
section
variable {H H1 H2 : Hp} {y l a : Addr} {s : Km457.Valley} {x : Km457.Village}
theorem Ext.stp (e : Ext ts H H1) (hi : Isin H y) : Stp ts y H H1 := ⟨fun b o _ t h => e.same b o t h, e.has, e.tab, fun b h => by
  rcases h with h | ⟨C, dx, fs, q, r⟩
  · exact .inl (.inl h)
  · obtain ⟨C', dx', fs', q'⟩ := hi
    rw [e.ins q'] at q
    cases q
    exact .inl (.inr ⟨_, _, _, q', r⟩)⟩
theorem Stp.notown (a : Stp ts y H H1) {b : Addr} {o : HO} (n : ¬ Own H y b) (h : H b = some o) : ¬ Own H1 y b := fun z => by
  rcases a.own b z with q | q
  · exact n q
  · rw [h] at q; cases q
theorem Stp.trans (a : Stp ts y H H1) (b : Stp ts y H1 H2) : Stp ts y H H2 := ⟨fun x o n t h => b.same x o (a.notown n h) t (a.same x o n t h), fun x h => a.has x (b.has x h), fun i m h => b.tab i m (a.tab i m h), fun x h => by
  rcases b.own x h with q | q
  · exact a.own x q
  · exact .inr (a.has x q)⟩
theorem tab_upd_ins {H : Hp} {i : TabI} {y C dx : Addr} {fs : List (Str × V)} {o : HO} (hy : H y = some (.ins C dx fs)) (h : TabOk i H) : TabOk i (upd H y o) := h.upd fun u q => by rw [hy] at q; cases q; exact ⟨rfl, fun _ => by intro z; cases z⟩
theorem tab_upd_lst {H : Hp} {i : TabI} {y : Addr} {xs : List V} {o : HO} (hy : H y = some (.lst xs)) (h : TabOk i H) : TabOk i (upd H y o) := h.upd fun u q => by rw [hy] at q; cases q; exact ⟨rfl, fun _ => by intro z; cases z⟩
theorem has_upd {b c : Addr} {o : HO} (h : upd H b o c = Option.none) : H c = Option.none := by
  by_cases z : c = b
  · subst z; rw [upd_same] at h; cases h
  · rw [upd_ne z] at h; exact h
/-- the object's names set anew -/
theorem Stp.put {C dx : Addr} {fs fs' : List (Str × V)} (e : Stp ts y H H1) (hy : H1 y = some (.ins C dx fs)) (hn : ∀ b, fs'.lookup ("earlier" : Str) = some (.ref b) ∨ fs'.lookup ("later" : Str) = some (.ref b) → Own H y b ∨ H b = Option.none) : Stp ts y H (upd H1 y (.ins C dx fs')) where
  same := fun b u n t h => by rw [upd_ne (fun z => n (.inl z))]; exact e.same b u n t h
  has := fun b h => e.has b (has_upd h)
  tab := fun i m h => tab_upd_ins hy (e.tab i m h)
  own := fun b h => by
    rcases h with h | ⟨C', dx', fs2, q, r⟩
    · exact .inl (.inl h)
    · rw [upd_same] at q
      cases q
      exact hn b r
/-- one of its lists grown or shortened -/
theorem Stp.lst {b : Addr} {xs zs : List V} (e : Stp ts y H H1) (ho : Own H1 y b) (hb : H1 b = some (.lst xs)) (hi : Isin H1 y) : Stp ts y H (upd H1 b (.lst zs)) where
  same := fun c u n t h => by
    rw [upd_ne fun z => ?_]
    · exact e.same c u n t h
    · subst z
      exact e.notown n h ho
  has := fun b h => e.has b (has_upd h)
  tab := fun i m h => tab_upd_lst hb (e.tab i m h)
  own := fun c h => by
    have hby : y ≠ b := fun z => by
      obtain ⟨C, dx, fs, q⟩ := hi
      rw [z, hb] at q
      cases q
    rcases h with h | ⟨C', dx', fs2, q, r⟩
    · exact .inl (.inl h)
    · rw [upd_ne hby] at q
      exact e.own c (.inr ⟨_, _, _, q, r⟩)
end

/-! ### Village -/
def sp_Village_init (t : Ad) : L2.Sp := fun vs H Q _ => ∃ (p dx : Addr) (u r c : Int), vs = [.ref p, .int u, .int r, .int c] ∧ H p = some (.ins t.c_Village dx []) ∧ Q .non (upd H p (.ins t.c_Village dx [("up", .int u), ("road", .int r), ("children", .int c)]))
theorem ok_Village_init (T : Tx K mg t) : FnOk P w K mg base CX0 1 t.f_Village_init t.g_Village_init ["self", "up", "road", "children"] (sp_Village_init t) := by
  refine T.F_Village_init.ok sc_Village_init (fun vs H Q E h => ?_) (fun cdv A outer s H vs Q E hr h => ?_)
  · obtain ⟨p, dx, u, r, c, rfl, _⟩ := h
    rfl
  · obtain ⟨p, dx, u, r, c, rfl, hp, k⟩ := h
    refine ⟨_, pss_cons (ps_fld (pv 0) (pv 1) rfl) (pss_cons (ps_fld (pv 0) (pv 2) rfl) (pss_one (ps_fld (pv 0) (pv 3) rfl))), ?_⟩
    refine ⟨_, rfl, _, rfl, p, _, dx, _, rfl, hp, T.cl_Village, T.no_Village_up, (by show 0 < 1000; decide), ?_⟩
    refine ⟨_, rfl, _, rfl, p, _, dx, _, rfl, upd_same, T.cl_Village, T.no_Village_road, (by show 1 < 1000; decide), ?_⟩
    refine ⟨_, rfl, _, rfl, p, _, dx, _, rfl, upd_same, T.cl_Village, T.no_Village_children, (by show 2 < 1000; decide), ?_⟩
    rw [upd_upd, upd_upd]
    exact k
/-- a new village -/
theorem vil_made {H : Hp} {x dx C : Addr} {fs : List (Str × V)} (nx : H x = none) (nd : H dx = none) (ne : dx ≠ x) : Ext ts H (upd (upd (upd H dx (.own x)) x (.ins C dx [])) x (.ins C dx fs)) := by
  rw [upd_upd]
  exact (Ext.new nd).trans (Ext.new (by rw [upd_ne (Ne.symm ne)]; exact nx))

/-! ### the valley's object -/
/-- lists of villages, each at its place -/
def Kept (t : Ad) (H : Hp) (es : List Addr) (ss : List Km457.Valley) : Prop := es.length = ss.length ∧ ∀ (i : Nat) (a : Addr) (s : Km457.Valley), es[i]? = some a → ss[i]? = some s → s ≠ [] ∧ VsAt t.c_Village H a s
structure DeskS (t : Ad) (H : Hp) (y : Addr) (d : Km457.Desk) (dx l e f : Addr) (es fs : List Addr) : Prop where
  obj : H y = some (.ins t.c_Valley dx [("villages", .ref l), ("earlier", .ref e), ("later", .ref f)])
  ne : e ≠ f
  ear : H e = some (.lst (es.reverse.map V.ref))
  lat : H f = some (.lst (fs.reverse.map V.ref))
  past : Kept t H es d.past
  fut : Kept t H fs d.future
  now : d.now = [] ∨ VsAt t.c_Village H l d.now
/-- the valley that d tells stands at y (of one that was never started nothing is read but the object itself) -/
def DeskAt (t : Ad) (H : Hp) (y : Addr) (d : Km457.Desk) : Prop := ∃ dx l e f es fs, DeskS t H y d dx l e f es fs
section
variable {H H1 : Hp} {y l a : Addr} {d : Km457.Desk} {s : Km457.Valley} {es : List Addr} {ss : List Km457.Valley}
theorem Kept.ext (e : Ext ts H H1) (h : Kept t H es ss) : Kept t H1 es ss := ⟨h.1, fun i a s q r => let ⟨q1, q2⟩ := h.2 i a s q r; ⟨q1, q2.ext e⟩⟩
theorem DeskAt.ext (e : Ext ts H H1) (h : DeskAt t H y d) : DeskAt t H1 y d := let ⟨dx, l, ea, f, es, fs, h⟩ := h; ⟨dx, l, ea, f, es, fs, e.ins h.obj, h.ne, e.lst h.ear, e.lst h.lat, h.past.ext e, h.fut.ext e, h.now.imp_right fun b => b.ext e⟩
theorem DeskAt.isin (h : DeskAt t H y d) : Isin H y := let ⟨_, _, _, _, _, _, h⟩ := h; ⟨_, _, _, h.obj⟩
theorem DeskAt.obj0 (h : DeskAt t H y d) : ∃ dx fs, H y = some (.ins t.c_Valley dx fs) ∧ fs.lookup ("begin" : Str) = none ∧ fs.lookup ("change" : Str) = none := let ⟨_, _, _, _, _, _, h⟩ := h; ⟨_, _, h.obj, rfl, rfl⟩
theorem DeskAt.obj (h : DeskAt t H y d) (ne : d.now ≠ []) : ∃ dx fs l, H y = some (.ins t.c_Valley dx fs) ∧ fs.lookup ("villages" : Str) = some (.ref l) ∧ VsAt t.c_Village H l d.now ∧ fs.lookup ("begin" : Str) = none ∧ fs.lookup ("change" : Str) = none :=
  let ⟨_, _, _, _, _, _, h⟩ := h; ⟨_, _, _, h.obj, rfl, h.now.resolve_left ne, rfl, rfl⟩
theorem WFne {s : Km457.Valley} (W : WF s) : s ≠ [] := fun e => by have := W.pos; rw [e] at this; simp at this
/-- the two classes differ -/
structure Two (t : Ad) : Prop where
  ne : t.c_Village ≠ t.c_Valley
/-- what the object owns: itself, and lists of lists -/
theorem Kept.lists (h : Kept t H es ss) : ∀ a ∈ es, ∃ xs, H a = some (.lst xs) := fun a ha => by
  obtain ⟨i, hi⟩ := List.getElem?_of_mem ha
  have hl : i < ss.length := by rw [← h.1]; exact (List.getElem?_eq_some_iff.mp hi).1
  obtain ⟨_, as, q, _⟩ := h.2 i a _ hi (List.getElem?_eq_getElem hl)
  exact ⟨_, q⟩
theorem DeskAt.owns (h : DeskAt t H y d) {b : Addr} (o : Own H y b) : b = y ∨ ∃ as : List Addr, H b = some (.lst (as.map V.ref)) ∧ ∀ a ∈ as, ∃ xs, H a = some (.lst xs) := by
  obtain ⟨dx, l, e, f, es, fs, S⟩ := h
  rcases o with o | ⟨C, dx', fs', q, r⟩
  · exact .inl o
  · rw [S.obj] at q
    cases q
    rcases r with r | r
    · have : e = b := by
        have r : some (V.ref e) = some (V.ref b) := r
        cases r; rfl
      subst this
      exact .inr ⟨_, S.ear, fun a ha => S.past.lists a (List.mem_reverse.mp ha)⟩
    · have : f = b := by
        have r : some (V.ref f) = some (V.ref b) := r
        cases r; rfl
      subst this
      exact .inr ⟨_, S.lat, fun a ha => S.fut.lists a (List.mem_reverse.mp ha)⟩
theorem DeskAt.not_vil (h : DeskAt t H y d) (D : Two t) {b dx : Addr} {fs : List (Str × V)} (q : H b = some (.ins t.c_Village dx fs)) : ¬ Own H y b := fun o => by
  rcases h.owns o with z | ⟨as, z, _⟩
  · obtain ⟨_, _, _, _, _, _, S⟩ := h
    rw [z, S.obj] at q
    exact D.ne (HO.ins.inj (Option.some.inj q)).1.symm
  · rw [z] at q; cases q
theorem DeskAt.not_vs (h : DeskAt t H y d) (hV : VsAt t.c_Village H l s) (hs : s ≠ []) : ¬ Own H y l := fun o => by
  obtain ⟨as, q1, q2, q3⟩ := hV
  rcases h.owns o with z | ⟨bs, z, zz⟩
  · obtain ⟨_, _, _, _, _, _, S⟩ := h
    rw [z, S.obj] at q1
    cases q1
  · rw [z] at q1
    have e := HO.lst.inj (Option.some.inj q1)
    have hp : 0 < s.length := List.length_pos_iff.mpr hs
    obtain ⟨a, ha, dx, hv⟩ := q3 0 s[0] (List.getElem?_eq_getElem hp)
    have e2 : (bs.map V.ref)[0]? = some (.ref a) := by rw [e, List.getElem?_map, ha]; rfl
    rw [List.getElem?_map] at e2
    cases e3 : bs[0]? with
    | none => rw [e3] at e2; cases e2
    | some b =>
      rw [e3] at e2
      cases e2
      obtain ⟨xs, q⟩ := zz a (List.mem_of_getElem? e3)
      rw [hv] at q
      cases q
theorem VsAt.stp (hV : VsAt t.c_Village H l s) (st : Stp ts y H H1) (h : DeskAt t H y d) (D : Two t) (hs : s ≠ []) : VsAt t.c_Village H1 l s := by
  obtain ⟨as, q1, q2, q3⟩ := id hV
  refine ⟨as, st.same _ _ (h.not_vs hV hs) rfl q1, q2, fun i x q => ?_⟩
  obtain ⟨a, r1, dx, r2⟩ := q3 i x q
  exact ⟨a, r1, dx, st.same _ _ (h.not_vil D r2) rfl r2⟩
theorem Kept.stp (hk : Kept t H es ss) (st : Stp ts y H H1) (h : DeskAt t H y d) (D : Two t) : Kept t H1 es ss := ⟨hk.1, fun i a s q r => let ⟨q1, q2⟩ := hk.2 i a s q r; ⟨q1, q2.stp st h D q1⟩⟩
theorem Kept.nil : Kept t H [] [] := ⟨rfl, fun i a s q => (by cases q)⟩
theorem Kept.cons (hs : s ≠ []) (hV : VsAt t.c_Village H l s) (h : Kept t H es ss) : Kept t H (l :: es) (s :: ss) := ⟨by rw [List.length_cons, List.length_cons, h.1], fun i a x q r => by
  cases i with
  | zero => cases q; cases r; exact ⟨hs, hV⟩
  | succ i => exact h.2 i a x q r⟩
theorem Kept.take (h : Kept t H es ss) (n : Nat) : Kept t H (es.take n) (ss.take n) := ⟨by rw [List.length_take, List.length_take, h.1], fun i a x q r => by
  have hi : i < n := by
    have := (List.getElem?_eq_some_iff.mp q).1
    rw [List.length_take] at this; omega
  rw [List.getElem?_take_of_lt hi] at q r
  exact h.2 i a x q r⟩
end
def sp_Valley_init (t : Ad) (ts : List TabI) : L2.Sp := fun vs H Q _ => ∃ (p dx : Addr), vs = [.ref p] ∧ H p = some (.ins t.c_Valley dx []) ∧ ∀ H' : Hp, Stp ts p H H' → DeskAt t H' p ⟨[], [], []⟩ → Q .non H'
theorem look0 {b : Addr} {k : Str} : ¬ (([] : List (Str × V)).lookup k = some (.ref b)) := fun q => by cases q
theorem ok_Valley_init (T : Tx K mg t) (D : Two t) : FnOk P w K mg base CX0 1 t.f_Valley_init t.g_Valley_init ["self"] (sp_Valley_init t ts) := by
  refine T.F_Valley_init.ok sc_Valley_init (fun vs H Q E h => ?_) (fun cdv A outer s H vs Q E hr h => ?_)
  · obtain ⟨p, dx, rfl, _⟩ := h
    rfl
  · obtain ⟨p, dx, rfl, hp, k⟩ := h
    refine ⟨_, pss_cons (ps_fld (pv 0) (pe_lst pa_nil) rfl) (pss_cons (ps_fld (pv 0) (pe_lst pa_nil) rfl) (pss_one (ps_fld (pv 0) (pe_lst pa_nil) rfl))), ?_⟩
    have st0 : Stp ts p H H := Ext.stp (Ext.refl H) ⟨_, _, _, hp⟩
    refine ⟨Nat.zero_le _, fun l hl => ?_⟩
    have e1 : Ext ts H (upd H l (.lst [])) := Ext.new hl
    have h1 := e1.ins hp
    refine ⟨_, rfl, p, _, dx, _, rfl, h1, T.cl_Valley, T.no_Valley_villages, (by show 0 < 1000; decide), ?_⟩
    have st1 : Stp ts p H (upd (upd H l (.lst [])) p (.ins t.c_Valley dx [("villages", .ref l)])) := (e1.stp ⟨_, _, _, hp⟩).put h1 fun b q => (by rcases q with q | q <;> cases q)
    refine ⟨Nat.zero_le _, fun e he => ?_⟩
    have h2 := (Ext.new (ts := ts) (o := .lst []) he).ins (upd_same (H := upd H l (.lst [])) (a := p) (o := .ins t.c_Valley dx [("villages", .ref l)]))
    refine ⟨_, rfl, p, _, dx, _, rfl, h2, T.cl_Valley, T.no_Valley_earlier, (by show 1 < 1000; decide), ?_⟩
    have ne := st1.has _ he
    have st2 := (st1.trans ((Ext.new (ts := ts) (o := .lst []) he).stp ⟨_, _, _, upd_same⟩)).put (fs' := [("villages", .ref l), ("earlier", .ref e)]) h2 fun b q => (by
      rcases q with q | q
      · have q : some (V.ref e) = some (V.ref b) := q
        cases q; exact .inr ne
      · cases q)
    refine ⟨Nat.zero_le _, fun f hf => ?_⟩
    have h3 := (Ext.new (ts := ts) (o := .lst []) hf).ins (upd_same (a := p) (o := .ins t.c_Valley dx [("villages", .ref l), ("earlier", .ref e)]))
    refine ⟨_, rfl, p, _, dx, _, rfl, h3, T.cl_Valley, T.no_Valley_later, (by show 2 < 1000; decide), ?_⟩
    have nf := st2.has _ hf
    have st3 := (st2.trans ((Ext.new (ts := ts) (o := .lst []) hf).stp ⟨_, _, _, upd_same⟩)).put (fs' := [("villages", .ref l), ("earlier", .ref e), ("later", .ref f)]) h3 fun b q => (by
      rcases q with q | q
      · have q : some (V.ref e) = some (V.ref b) := q
        cases q; exact .inr ne
      · have q : some (V.ref f) = some (V.ref b) := q
        cases q; exact .inr nf)
    have ep : e ≠ p := fun z => by rw [z, upd_same] at he; cases he
    have fp : f ≠ p := fun z => by rw [z, upd_same] at hf; cases hf
    have ef : e ≠ f := fun z => by rw [← z, upd_ne ep, upd_same] at hf; cases hf
    refine k _ st3 ⟨dx, l, e, f, [], [], upd_same, ef, ?_, ?_, Kept.nil, Kept.nil, .inl rfl⟩
    · rw [upd_ne ep, upd_ne ef, upd_ne ep, upd_same]; rfl
    · rw [upd_ne fp, upd_same]; rfl
def sp_Valley_begin (t : Ad) (ts : List TabI) : L2.Sp := fun vs H Q _ => ∃ (y l : Addr) (d : Km457.Desk) (s : Km457.Valley), vs = [.ref y, .ref l] ∧ DeskAt t H y d ∧ VsAt t.c_Village H l s ∧ s ≠ [] ∧ ∀ H' : Hp, Stp ts y H H' → DeskAt t H' y ⟨s, [], []⟩ → Q .non H'
theorem ok_Valley_begin (T : Tx K mg t) (D : Two t) : FnOk P w K mg base CX0 1 t.f_Valley_begin t.g_Valley_begin ["self", "villages"] (sp_Valley_begin t ts) := by
  refine T.F_Valley_begin.ok sc_Valley_begin (fun vs H Q E h => ?_) (fun cdv A outer s H vs Q E hr h => ?_)
  · obtain ⟨y, l, d, s, rfl, _⟩ := h
    rfl
  · obtain ⟨y, l, d, s, rfl, hd, hV, hs, k⟩ := h
    obtain ⟨dx, l0, e0, f0, es0, fs0, S⟩ := id hd
    have hy := S.obj
    refine ⟨_, pss_cons (ps_fld (pv 0) (pv 1) rfl) (pss_cons (ps_fld (pv 0) (pe_lst pa_nil) rfl) (pss_one (ps_fld (pv 0) (pe_lst pa_nil) rfl))), ?_⟩
    refine ⟨_, rfl, _, rfl, y, _, dx, _, rfl, hy, T.cl_Valley, T.no_Valley_villages, (by show 3 < 1000; decide), ?_⟩
    have st1 : Stp ts y H (upd H y (.ins t.c_Valley dx [("villages", .ref l), ("earlier", .ref e0), ("later", .ref f0)])) := (Ext.stp (Ext.refl H) ⟨_, _, _, hy⟩).put hy fun b q => .inl (.inr ⟨_, _, _, hy, q⟩)
    refine ⟨Nat.zero_le _, fun e he => ?_⟩
    have h2 := (Ext.new (ts := ts) (o := .lst []) he).ins (upd_same (H := H) (a := y) (o := .ins t.c_Valley dx [("villages", .ref l), ("earlier", .ref e0), ("later", .ref f0)]))
    refine ⟨_, rfl, y, _, dx, _, rfl, h2, T.cl_Valley, T.no_Valley_earlier, (by show 3 < 1000; decide), ?_⟩
    have ne := st1.has _ he
    have st2 := (st1.trans ((Ext.new (ts := ts) (o := .lst []) he).stp ⟨_, _, _, upd_same⟩)).put (fs' := [("villages", .ref l), ("earlier", .ref e), ("later", .ref f0)]) h2 fun b q => (by
      rcases q with q | q
      · have q : some (V.ref e) = some (V.ref b) := q
        cases q; exact .inr ne
      · exact .inl (.inr ⟨_, _, _, hy, .inr q⟩))
    refine ⟨Nat.zero_le _, fun f hf => ?_⟩
    have h3 := (Ext.new (ts := ts) (o := .lst []) hf).ins (upd_same (a := y) (o := .ins t.c_Valley dx [("villages", .ref l), ("earlier", .ref e), ("later", .ref f0)]))
    refine ⟨_, rfl, y, _, dx, _, rfl, h3, T.cl_Valley, T.no_Valley_later, (by show 3 < 1000; decide), ?_⟩
    have nf := st2.has _ hf
    have st3 := (st2.trans ((Ext.new (ts := ts) (o := .lst []) hf).stp ⟨_, _, _, upd_same⟩)).put (fs' := [("villages", .ref l), ("earlier", .ref e), ("later", .ref f)]) h3 fun b q => (by
      rcases q with q | q
      · have q : some (V.ref e) = some (V.ref b) := q
        cases q; exact .inr ne
      · have q : some (V.ref f) = some (V.ref b) := q
        cases q; exact .inr nf)
    have ep : e ≠ y := fun z => by rw [z, upd_same] at he; cases he
    have fp : f ≠ y := fun z => by rw [z, upd_same] at hf; cases hf
    have ef : e ≠ f := fun z => by rw [← z, upd_ne ep, upd_same] at hf; cases hf
    refine k _ st3 ⟨dx, l, e, f, [], [], upd_same, ef, ?_, ?_, Kept.nil, Kept.nil, .inr (hV.stp st3 hd D hs)⟩
    · rw [upd_ne ep, upd_ne ef, upd_ne ep, upd_same]; rfl
    · rw [upd_ne fp, upd_same]; rfl
theorem cut_back (xs : List V) : cutV xs (some (-20)) none = xs.drop (xs.length - 20) := by
  unfold cutV
  rw [HT.sIx_none]
  have e : HT.sIx xs.length 0 (some (-20)) = xs.length - 20 := by
    show (if (-20 : Int) < 0 then ((-20 : Int) + (xs.length : Int)).toNat else min (-20 : Int).toNat xs.length) = _
    rw [if_pos (by decide)]
    omega
  rw [e, List.take_of_length_le (by rw [List.length_drop]; exact Nat.le_refl _)]
theorem drop_rev (as : List Addr) : (as.reverse.map V.ref).drop ((as.reverse.map V.ref).length - 20) = (as.take 20).reverse.map V.ref := by
  rw [List.length_map, List.length_reverse, ← List.map_drop, List.drop_reverse]
  congr 2
  by_cases c : 20 ≤ as.length
  · rw [show as.length - (as.length - 20) = 20 by omega]
  · rw [List.take_of_length_le (by omega), List.take_of_length_le (by omega)]
theorem rev_snoc (l : Addr) (es : List Addr) : es.reverse.map V.ref ++ [V.ref l] = (l :: es).reverse.map V.ref := by rw [List.reverse_cons, List.map_append]; rfl
def sp_Valley_change (t : Ad) (ts : List TabI) : L2.Sp := fun vs H Q _ => ∃ (y l : Addr) (d : Km457.Desk) (s : Km457.Valley), vs = [.ref y, .ref l] ∧ DeskAt t H y d ∧ Dk d ∧ VsAt t.c_Village H l s ∧ s ≠ [] ∧ ∀ H' : Hp, Stp ts y H H' → DeskAt t H' y (d.become s) → Q .non H'
theorem ok_Valley_change (T : Tx K mg t) (D : Two t) : FnOk P w K mg base CX0 1 t.f_Valley_change t.g_Valley_change ["self", "villages"] (sp_Valley_change t ts) := by
  refine T.F_Valley_change.ok sc_Valley_change (fun vs H Q E h => ?_) (fun cdv A outer s H vs Q E hr h => ?_)
  · obtain ⟨y, l, d, s, rfl, _⟩ := h
    rfl
  · obtain ⟨y, l, d, s, rfl, hd, hD, hV, hs, k⟩ := h
    obtain ⟨dx, l0, e0, f0, es, fs, S⟩ := id hd
    have hy := S.obj
    have hnow := WFne hD.now
    have hsum := hD.sum
    have hlen := S.past.1
    obtain ⟨x1, m1⟩ := T.k_MOST_TAKEN_BACK
    refine ⟨_, pss_cons (ps_fld (pv 0) (pe_slice sl_list (pe_op op_cat (pe_fld (pv 0) rfl) (pe_lst (pa_cons (pe_fld (pv 0) rfl) pa_nil))) (po_some (pe_un un_neg (pe_glob (v := .int 20) rfl m1 ⟨x1, rfl⟩))) po_none) rfl)
      (pss_cons (ps_fld (pv 0) (pe_lst pa_nil) rfl) (pss_one (ps_fld (pv 0) (pv 1) rfl))), ?_⟩
    refine ⟨_, rfl, y, _, dx, _, _, rfl, hy, T.cl_Valley, T.no_Valley_earlier, rfl, ?_⟩
    refine ⟨_, rfl, y, _, dx, _, _, rfl, hy, T.cl_Valley, T.no_Valley_villages, rfl, (by show 1 ≤ sizeLine; decide), fun q1 hq1 => ?_⟩
    have x1 : Ext ts H (upd H q1 (.lst [.ref l0])) := Ext.new hq1
    refine ⟨e0, q1, _, _, rfl, rfl, x1.lst S.ear, upd_same, sl (by rw [List.length_map, List.length_reverse]; simp; omega), fun q2 hq2 => ?_⟩
    have x2 := x1.trans (Ext.new (ts := ts) (o := .lst (es.reverse.map V.ref ++ [V.ref l0])) hq2)
    refine ⟨20, rfl, _, rfl, q2, _, rfl, SqL.of upd_same, fun e he => ?_⟩
    have x3 := x2.trans (Ext.new (ts := ts) (o := .lst (cutV (es.reverse.map V.ref ++ [V.ref l0]) (some (-20)) none)) he)
    have h1 := x3.ins hy
    have ne := x2.has _ he
    refine ⟨_, rfl, y, _, dx, _, rfl, h1, T.cl_Valley, T.no_Valley_earlier, (by show 3 < 1000; decide), ?_⟩
    have st1 := (x3.stp (y := y) ⟨_, _, _, hy⟩).put (fs' := [("villages", .ref l0), ("earlier", .ref e), ("later", .ref f0)]) h1 fun b q => (by
      rcases q with q | q
      · have q : some (V.ref e) = some (V.ref b) := q
        cases q; exact .inr ne
      · exact .inl (.inr ⟨_, _, _, hy, .inr q⟩))
    refine ⟨Nat.zero_le _, fun f hf => ?_⟩
    have h2 := (Ext.new (ts := ts) (o := .lst []) hf).ins (upd_same (a := y) (o := .ins t.c_Valley dx [("villages", .ref l0), ("earlier", .ref e), ("later", .ref f0)]))
    have nf := st1.has _ hf
    refine ⟨_, rfl, y, _, dx, _, rfl, h2, T.cl_Valley, T.no_Valley_later, (by show 3 < 1000; decide), ?_⟩
    have st2 := (st1.trans ((Ext.new (ts := ts) (o := .lst []) hf).stp ⟨_, _, _, upd_same⟩)).put (fs' := [("villages", .ref l0), ("earlier", .ref e), ("later", .ref f)]) h2 fun b q => (by
      rcases q with q | q
      · have q : some (V.ref e) = some (V.ref b) := q
        cases q; exact .inr ne
      · have q : some (V.ref f) = some (V.ref b) := q
        cases q; exact .inr nf)
    refine ⟨_, rfl, _, rfl, y, _, dx, _, rfl, upd_same, T.cl_Valley, T.no_Valley_villages, (by show 3 < 1000; decide), ?_⟩
    have st3 := st2.put (fs' := [("villages", .ref l), ("earlier", .ref e), ("later", .ref f)]) upd_same fun b q => (by
      rcases q with q | q
      · have q : some (V.ref e) = some (V.ref b) := q
        cases q; exact .inr ne
      · have q : some (V.ref f) = some (V.ref b) := q
        cases q; exact .inr nf)
    have ep : e ≠ y := fun z => by rw [z, x2.ins hy] at he; cases he
    have fp : f ≠ y := fun z => by rw [z, upd_same] at hf; cases hf
    have ef : e ≠ f := fun z => by rw [← z, upd_ne ep, upd_same] at hf; cases hf
    refine k _ st3 ⟨dx, l, e, f, (l0 :: es).take 20, [], upd_same, ef, ?_, ?_, ?_, Kept.nil, .inr (hV.stp st3 hd D hs)⟩
    · rw [upd_ne ep, upd_ne ep, upd_ne ef, upd_ne ep, upd_same, cut_back, rev_snoc, drop_rev]
    · rw [upd_ne fp, upd_ne fp, upd_same]; rfl
    · have hk : Kept t H (l0 :: es) (d.now :: d.past) := Kept.cons hnow (S.now.resolve_left hnow) S.past
      exact (hk.stp st3 hd D).take 20
/-! ### take_back, do_again -/
theorem dropLast_rev (a : Addr) (es : List Addr) : ((a :: es).reverse.map V.ref).dropLast = es.reverse.map V.ref := by rw [← rev_snoc, List.dropLast_concat]
theorem last_rev (a : Addr) (es : List Addr) : ((a :: es).reverse.map V.ref)[((a :: es).reverse.map V.ref).length - 1]? = some (V.ref a) := by
  rw [← rev_snoc, List.length_append, List.length_singleton, Nat.add_sub_cancel, List.getElem?_append_right (Nat.le_refl _), Nat.sub_self]
  rfl
def sp_Valley_take_back (t : Ad) (ts : List TabI) : L2.Sp := fun vs H Q _ => ∃ (y : Addr) (d : Km457.Desk) (b : Km457.Valley) (r : List Km457.Valley), vs = [.ref y] ∧ DeskAt t H y d ∧ Dk d ∧ d.past = b :: r ∧ ∀ H' : Hp, Stp ts y H H' → DeskAt t H' y ⟨b, r, d.now :: d.future⟩ → Q .non H'
theorem ok_Valley_take_back (T : Tx K mg t) (D : Two t) : FnOk P w K mg base CX0 1 t.f_Valley_take_back t.g_Valley_take_back ["self"] (sp_Valley_take_back t ts) := by
  refine T.F_Valley_take_back.ok sc_Valley_take_back (fun vs H Q E h => ?_) (fun cdv A outer s H vs Q E hr h => ?_)
  · obtain ⟨y, d, b, r, rfl, _⟩ := h
    rfl
  · obtain ⟨y, d, b, r, rfl, hd, hD, hpast, k⟩ := h
    obtain ⟨dx, l, e, f, es, fs, S⟩ := id hd
    have hy := S.obj
    have hnow := WFne hD.now
    have hsum := hD.sum
    have hl1 := S.past.1
    have hl2 := S.fut.1
    obtain ⟨a, es', rfl⟩ : ∃ a es', es = a :: es' := by
      cases es with
      | nil => rw [hpast] at hl1; cases hl1
      | cons a es' => exact ⟨a, es', rfl⟩
    refine ⟨_, pss_cons (ps_expr (pe_bm PySem.F.plainAttrs_list PySem.F.slot_list_append PySem.F.type_list_append mt_append (pe_fld (pv 0) rfl) (pa_cons (pe_fld (pv 0) rfl) pa_nil)))
      (pss_one (ps_fld (pv 0) (pe_bm0 PySem.F.plainAttrs_list PySem.F.slot_list_pop PySem.F.type_list_pop mt_pop (pe_fld (pv 0) rfl)) rfl)), ?_⟩
    have yf : y ≠ f := ne_of hy S.lat (by intro q; cases q)
    have ye : y ≠ e := ne_of hy S.ear (by intro q; cases q)
    refine ⟨_, rfl, y, _, dx, _, _, rfl, hy, T.cl_Valley, T.no_Valley_later, rfl, .inl ⟨rfl, _, SqL.of S.lat⟩, ?_⟩
    refine ⟨_, rfl, y, _, dx, _, _, rfl, hy, T.cl_Valley, T.no_Valley_villages, rfl, f, _, _, rfl, rfl, S.lat, slt (by rw [List.length_map, List.length_reverse]; omega), ?_⟩
    have st1 : Stp ts y H (upd H f (.lst (fs.reverse.map V.ref ++ [V.ref l]))) := (Ext.stp (Ext.refl H) ⟨_, _, _, hy⟩).lst (.inr ⟨_, _, _, hy, .inr rfl⟩) S.lat ⟨_, _, _, hy⟩
    have hy1 : upd H f (.lst (fs.reverse.map V.ref ++ [V.ref l])) y = some (.ins t.c_Valley dx [("villages", .ref l), ("earlier", .ref e), ("later", .ref f)]) := by rw [upd_ne yf]; exact hy
    have he1 : upd H f (.lst (fs.reverse.map V.ref ++ [V.ref l])) e = some (.lst ((a :: es').reverse.map V.ref)) := by rw [upd_ne S.ne]; exact S.ear
    refine ⟨_, rfl, y, _, dx, _, _, rfl, hy1, T.cl_Valley, T.no_Valley_earlier, rfl, .inl ⟨rfl, _, SqL.of he1⟩, e, _, _, rfl, rfl, he1, last_rev a es', ?_⟩
    have st2 := st1.lst (zs := ((a :: es').reverse.map V.ref).dropLast) (.inr ⟨_, _, _, hy1, .inl rfl⟩) he1 ⟨_, _, _, hy1⟩
    have hy2 : upd (upd H f (.lst (fs.reverse.map V.ref ++ [V.ref l]))) e (.lst ((a :: es').reverse.map V.ref).dropLast) y = some (.ins t.c_Valley dx [("villages", .ref l), ("earlier", .ref e), ("later", .ref f)]) := by rw [upd_ne ye]; exact hy1
    refine ⟨_, rfl, y, _, dx, _, rfl, hy2, T.cl_Valley, T.no_Valley_villages, (by show 3 < 1000; decide), ?_⟩
    have st3 := st2.put (fs' := [("villages", .ref a), ("earlier", .ref e), ("later", .ref f)]) hy2 fun b q => .inl (.inr ⟨_, _, _, hy, q⟩)
    have hk := S.past
    rw [hpast] at hk
    obtain ⟨ha1, ha2⟩ := hk.2 0 a b rfl rfl
    refine k _ st3 ⟨dx, a, e, f, es', l :: fs, upd_same, S.ne, ?_, ?_, ?_, ?_, .inr (ha2.stp st3 hd D ha1)⟩
    · rw [upd_ne (Ne.symm ye), upd_same, dropLast_rev]
    · rw [upd_ne (Ne.symm yf), upd_ne (Ne.symm S.ne), upd_same, rev_snoc]
    · refine Kept.stp (ss := r) ⟨by have := hk.1; rw [List.length_cons, List.length_cons] at this; omega, fun i a' x q q' => hk.2 (i + 1) a' x q q'⟩ st3 hd D
    · exact (Kept.cons hnow (S.now.resolve_left hnow) S.fut).stp st3 hd D
def sp_Valley_do_again (t : Ad) (ts : List TabI) : L2.Sp := fun vs H Q _ => ∃ (y : Addr) (d : Km457.Desk) (b : Km457.Valley) (r : List Km457.Valley), vs = [.ref y] ∧ DeskAt t H y d ∧ Dk d ∧ d.future = b :: r ∧ ∀ H' : Hp, Stp ts y H H' → DeskAt t H' y ⟨b, (d.now :: d.past).take Km457.PAST, r⟩ → Q .non H'
theorem ok_Valley_do_again (T : Tx K mg t) (D : Two t) : FnOk P w K mg base CX0 1 t.f_Valley_do_again t.g_Valley_do_again ["self"] (sp_Valley_do_again t ts) := by
  refine T.F_Valley_do_again.ok sc_Valley_do_again (fun vs H Q E h => ?_) (fun cdv A outer s H vs Q E hr h => ?_)
  · obtain ⟨y, d, b, r, rfl, _⟩ := h
    rfl
  · obtain ⟨y, d, b, r, rfl, hd, hD, hfut, k⟩ := h
    obtain ⟨dx, l, e, f, es, fs, S⟩ := id hd
    have hy := S.obj
    have hnow := WFne hD.now
    have hsum := hD.sum
    have hl1 := S.past.1
    have hl2 := S.fut.1
    obtain ⟨a, fs', rfl⟩ : ∃ a fs', fs = a :: fs' := by
      cases fs with
      | nil => rw [hfut] at hl2; cases hl2
      | cons a fs' => exact ⟨a, fs', rfl⟩
    refine ⟨_, pss_cons (ps_expr (pe_bm PySem.F.plainAttrs_list PySem.F.slot_list_append PySem.F.type_list_append mt_append (pe_fld (pv 0) rfl) (pa_cons (pe_fld (pv 0) rfl) pa_nil)))
      (pss_one (ps_fld (pv 0) (pe_bm0 PySem.F.plainAttrs_list PySem.F.slot_list_pop PySem.F.type_list_pop mt_pop (pe_fld (pv 0) rfl)) rfl)), ?_⟩
    have yf : y ≠ f := ne_of hy S.lat (by intro q; cases q)
    have ye : y ≠ e := ne_of hy S.ear (by intro q; cases q)
    refine ⟨_, rfl, y, _, dx, _, _, rfl, hy, T.cl_Valley, T.no_Valley_earlier, rfl, .inl ⟨rfl, _, SqL.of S.ear⟩, ?_⟩
    refine ⟨_, rfl, y, _, dx, _, _, rfl, hy, T.cl_Valley, T.no_Valley_villages, rfl, e, _, _, rfl, rfl, S.ear, slt (by rw [List.length_map, List.length_reverse]; omega), ?_⟩
    have st1 : Stp ts y H (upd H e (.lst (es.reverse.map V.ref ++ [V.ref l]))) := (Ext.stp (Ext.refl H) ⟨_, _, _, hy⟩).lst (.inr ⟨_, _, _, hy, .inl rfl⟩) S.ear ⟨_, _, _, hy⟩
    have hy1 : upd H e (.lst (es.reverse.map V.ref ++ [V.ref l])) y = some (.ins t.c_Valley dx [("villages", .ref l), ("earlier", .ref e), ("later", .ref f)]) := by rw [upd_ne ye]; exact hy
    have hf1 : upd H e (.lst (es.reverse.map V.ref ++ [V.ref l])) f = some (.lst ((a :: fs').reverse.map V.ref)) := by rw [upd_ne (Ne.symm S.ne)]; exact S.lat
    refine ⟨_, rfl, y, _, dx, _, _, rfl, hy1, T.cl_Valley, T.no_Valley_later, rfl, .inl ⟨rfl, _, SqL.of hf1⟩, f, _, _, rfl, rfl, hf1, last_rev a fs', ?_⟩
    have st2 := st1.lst (zs := ((a :: fs').reverse.map V.ref).dropLast) (.inr ⟨_, _, _, hy1, .inr rfl⟩) hf1 ⟨_, _, _, hy1⟩
    have hy2 : upd (upd H e (.lst (es.reverse.map V.ref ++ [V.ref l]))) f (.lst ((a :: fs').reverse.map V.ref).dropLast) y = some (.ins t.c_Valley dx [("villages", .ref l), ("earlier", .ref e), ("later", .ref f)]) := by rw [upd_ne yf]; exact hy1
    refine ⟨_, rfl, y, _, dx, _, rfl, hy2, T.cl_Valley, T.no_Valley_villages, (by show 3 < 1000; decide), ?_⟩
    have st3 := st2.put (fs' := [("villages", .ref a), ("earlier", .ref e), ("later", .ref f)]) hy2 fun b q => .inl (.inr ⟨_, _, _, hy, q⟩)
    have hk := S.fut
    rw [hfut] at hk
    obtain ⟨ha1, ha2⟩ := hk.2 0 a b rfl rfl
    have hfl : d.future.length = r.length + 1 := by rw [hfut]; rfl
    have ep : (d.now :: d.past).take Km457.PAST = d.now :: d.past := List.take_of_length_le (by rw [List.length_cons]; show _ ≤ 20; omega)
    rw [ep] at k
    refine k _ st3 ⟨dx, a, e, f, l :: es, fs', upd_same, S.ne, ?_, ?_, ?_, ?_, .inr (ha2.stp st3 hd D ha1)⟩
    · rw [upd_ne (Ne.symm ye), upd_ne S.ne, upd_same, rev_snoc]
    · rw [upd_ne (Ne.symm yf), upd_same, dropLast_rev]
    · exact (Kept.cons hnow (S.now.resolve_left hnow) S.past).stp st3 hd D
    · refine Kept.stp (ss := r) ⟨by have := hk.1; rw [List.length_cons, List.length_cons] at this; omega, fun i a' x q q' => hk.2 (i + 1) a' x q q'⟩ st3 hd D

/-! ### replaced -/
def sp_replaced (t : Ad) (ts : List TabI) : L2.Sp := fun vs H Q _ => ∃ (l b : Addr) (s : Km457.Valley) (v : Nat) (x : Km457.Village), vs = [.ref l, .int (v : Int), .ref b] ∧ VsAt t.c_Village H l s ∧ s.length ≤ 12 ∧ v < s.length ∧ VilAt t.c_Village H b x ∧
  ∀ (H' : Hp) (p : Addr), Ext ts H H' → H p = none → VsAt t.c_Village H' p (s.set v x) → Q (.ref p) H'
theorem cut_to (xs : List V) (v : Nat) : cutV xs none (some (v : Int)) = xs.take v := by
  unfold cutV
  rw [HT.sIx_none, HT.sIx_nat, List.drop_zero, Nat.sub_zero]
  rcases Nat.le_total v xs.length with h | h
  · rw [Nat.min_eq_left h]
  · rw [Nat.min_eq_right h, List.take_of_length_le (Nat.le_refl _), List.take_of_length_le h]
theorem cut_from (xs : List V) (v : Nat) : cutV xs (some (v : Int)) none = xs.drop v := by
  unfold cutV
  rw [HT.sIx_none, HT.sIx_nat]
  rcases Nat.le_total v xs.length with h | h
  · rw [Nat.min_eq_left h, List.take_of_length_le (by rw [List.length_drop]; omega)]
  · rw [Nat.min_eq_right h, Nat.sub_self, List.take_zero, List.drop_of_length_le h]
theorem set_cut {α : Type} : ∀ (l : List α) (v : Nat) (x : α), v < l.length → l.take v ++ [x] ++ l.drop (v + 1) = l.set v x
  | [], v, x, h => by simp at h
  | a :: l, 0, x, h => by simp
  | a :: l, v + 1, x, h => by
    have ih := set_cut l v x (by simpa using h)
    show a :: (l.take v ++ [x] ++ l.drop (v + 1)) = a :: l.set v x
    rw [ih]
theorem ok_replaced (T : Tx K mg t) : FnOk P w K mg base CX0 1 t.f_replaced t.g_replaced ["villages", "v", "village"] (sp_replaced t ts) := by
  refine T.d_replaced.F.ok sc_replaced (fun vs H Q E h => ?_) (fun cdv A outer s H vs Q E hr h => ?_)
  · obtain ⟨l, b, s, v, x, rfl, _⟩ := h
    rfl
  · obtain ⟨l, b, s, v, x, rfl, hV, hle, hv, hb, k⟩ := h
    refine ⟨_, pss_one (ps_ret (pe_op op_cat (pe_op op_cat (pe_slice sl_list (pv 0) po_none (po_some (pv 1))) (pe_lst (pa_cons (pv 2) pa_nil))) (pe_slice sl_list (pv 0) (po_some (pe_op op_add (pv 1) pe_int)) po_none))), ?_⟩
    obtain ⟨as, h1, h2, h3⟩ := id hV
    refine ⟨_, rfl, _, rfl, _, rfl, l, _, rfl, SqL.of h1, fun p hp => ?_⟩
    rw [cut_to]
    refine ⟨_, rfl, (by show 1 ≤ sizeLine; decide), fun q hq => ?_⟩
    have e1 : Ext ts H (upd H p (.lst ((as.map V.ref).take v))) := Ext.new hp
    have e2 := e1.trans (Ext.new (ts := ts) (o := .lst [.ref b]) hq)
    have hpq : p ≠ q := fun z => by rw [← z, upd_same] at hq; cases hq
    refine ⟨p, q, _, _, rfl, rfl, by rw [upd_ne hpq, upd_same], upd_same, sl (by simp; omega), fun r hr' => ?_⟩
    have e3 := e2.trans (Ext.new (ts := ts) (o := .lst ((as.map V.ref).take v ++ [V.ref b])) hr')
    refine ⟨_, rfl, _, rfl, _, _, rfl, rfl, _, rfl, l, _, rfl, SqL.of (e3.lst h1), fun c hc => ?_⟩
    have ev : ((v : Int) + 1) = ((v + 1 : Nat) : Int) := by omega
    have e4 := e3.trans (Ext.new (ts := ts) (o := .lst (cutV (as.map V.ref) (some ((v : Int) + 1)) none)) hc)
    have hrc : r ≠ c := fun z => by rw [← z, upd_same] at hc; cases hc
    refine ⟨r, c, _, _, rfl, rfl, by rw [upd_ne hrc, upd_same], upd_same, ?_, fun z hz => ?_⟩
    · rw [ev, cut_from]
      exact sl (by simp; omega)
    · have e5 := e4.trans (Ext.new (ts := ts) (o := .lst ((as.map V.ref).take v ++ [V.ref b] ++ cutV (as.map V.ref) (some ((v : Int) + 1)) none)) hz)
      refine k _ z e5 (e4.has _ hz) ⟨as.set v b, ?_, by rw [List.length_set, List.length_set, h2], fun i y hi => ?_⟩
      · rw [upd_same, ev, cut_from, set_cut _ _ _ (by rw [List.length_map]; omega), List.map_set]
      · by_cases c : i = v
        · subst c
          rw [List.getElem?_set_self hv] at hi
          have ey : x = y := Option.some.inj hi
          subst ey
          exact ⟨b, List.getElem?_set_self (by omega), hb.ext e5⟩
        · rw [List.getElem?_set_ne (fun z => c z.symm)] at hi
          obtain ⟨a, q1, q2⟩ := h3 i y hi
          exact ⟨a, by rw [List.getElem?_set_ne (fun z => c z.symm)]; exact q1, q2.ext e5⟩
/-! ### with_children, with_road -/
def sp_with_children (t : Ad) (ts : List TabI) : L2.Sp := fun vs H Q _ => ∃ (l : Addr) (s : Km457.Valley) (v m : Nat), vs = [.ref l, .int (v : Int), .int (m : Int)] ∧ VsAt t.c_Village H l s ∧ s.length ≤ 12 ∧ v < s.length ∧
  ∀ (H' : Hp) (p : Addr), Ext ts H H' → H p = none → VsAt t.c_Village H' p (s.set v { Km457.at_ s v with many := m }) → Q (.ref p) H'
theorem ok_with_children (T : Tx K mg t) : FnOk P w K mg base CX0 3 t.f_with_children t.g_with_children ["villages", "v", "many"] (sp_with_children t ts) := by
  refine T.d_with_children.F.ok sc_with_children (fun vs H Q E h => ?_) (fun cdv A outer s H vs Q E hr h => ?_)
  · obtain ⟨l, s, v, m, rfl, _⟩ := h
    rfl
  · obtain ⟨l, s, v, m, rfl, hV, hle, hv, k⟩ := h
    refine ⟨_, pss_one (ps_ret (pe_call (ok_replaced (ts := ts) T) (hr.mono (by decide)) rfl T.d_replaced.m T.d_replaced.F.kp T.d_replaced.b .nil pass0 (pa_cons (pv 0) (pa_cons (pv 1) (pa_cons
          (pe_make T.mk_Village (ok_Village_init T) hr rfl T.m_Village T.b_Village_init .nil pass0 (pa_cons (pe_fld (pe_ix ix_list (pv 0) (pv 1) (fun _ _ => rfl)) rfl) (pa_cons (pe_fld (pe_ix ix_list (pv 0) (pv 1) (fun _ _ => rfl)) rfl) (pa_cons (pv 2) pa_nil)))) pa_nil))))), ?_⟩
    obtain ⟨xs, b, db, g1, g2, g3, g4⟩ := hV.at hv
    refine ⟨_, rfl, _, rfl, ?_⟩
    refine ⟨_, rfl, _, rfl, l, _, _, _, rfl, rfl, SqL.of g1, atI_nat g3, b, _, db, _, _, rfl, g4, T.cl_Village, T.no_Village_up, vf_up, ?_⟩
    refine ⟨_, rfl, _, rfl, l, _, _, _, rfl, rfl, SqL.of g1, atI_nat g3, b, _, db, _, _, rfl, g4, T.cl_Village, T.no_Village_road, vf_road, _, rfl, fun x dxx nx ndx ne => ⟨x, dxx, _, _, _, rfl, upd_same, rfl, ?_⟩⟩
    have e1 : Ext ts H _ := vil_made (C := t.c_Village) (fs := [("up", .int ((Km457.at_ s v).up : Int)), ("road", .int ((Km457.at_ s v).long : Int)), ("children", .int (m : Int))]) nx ndx ne
    exact ⟨l, x, s, v, { Km457.at_ s v with many := m }, rfl, hV.ext e1, hle, hv, ⟨dxx, by rw [upd_same]; rfl⟩, fun H2 p e2 hp hV2 => k H2 p (e1.trans e2) (e1.has _ hp) hV2⟩
def sp_with_road (t : Ad) (ts : List TabI) : L2.Sp := fun vs H Q _ => ∃ (l : Addr) (s : Km457.Valley) (v m : Nat), vs = [.ref l, .int (v : Int), .int (m : Int)] ∧ VsAt t.c_Village H l s ∧ s.length ≤ 12 ∧ v < s.length ∧
  ∀ (H' : Hp) (p : Addr), Ext ts H H' → H p = none → VsAt t.c_Village H' p (s.set v { Km457.at_ s v with long := m }) → Q (.ref p) H'
theorem ok_with_road (T : Tx K mg t) : FnOk P w K mg base CX0 3 t.f_with_road t.g_with_road ["villages", "v", "far"] (sp_with_road t ts) := by
  refine T.d_with_road.F.ok sc_with_road (fun vs H Q E h => ?_) (fun cdv A outer s H vs Q E hr h => ?_)
  · obtain ⟨l, s, v, m, rfl, _⟩ := h
    rfl
  · obtain ⟨l, s, v, m, rfl, hV, hle, hv, k⟩ := h
    refine ⟨_, pss_one (ps_ret (pe_call (ok_replaced (ts := ts) T) (hr.mono (by decide)) rfl T.d_replaced.m T.d_replaced.F.kp T.d_replaced.b .nil pass0 (pa_cons (pv 0) (pa_cons (pv 1) (pa_cons
          (pe_make T.mk_Village (ok_Village_init T) hr rfl T.m_Village T.b_Village_init .nil pass0 (pa_cons (pe_fld (pe_ix ix_list (pv 0) (pv 1) (fun _ _ => rfl)) rfl) (pa_cons (pv 2) (pa_cons (pe_fld (pe_ix ix_list (pv 0) (pv 1) (fun _ _ => rfl)) rfl) pa_nil)))) pa_nil))))), ?_⟩
    obtain ⟨xs, b, db, g1, g2, g3, g4⟩ := hV.at hv
    refine ⟨_, rfl, _, rfl, ?_⟩
    refine ⟨_, rfl, _, rfl, l, _, _, _, rfl, rfl, SqL.of g1, atI_nat g3, b, _, db, _, _, rfl, g4, T.cl_Village, T.no_Village_up, vf_up, _, rfl, ?_⟩
    refine ⟨_, rfl, _, rfl, l, _, _, _, rfl, rfl, SqL.of g1, atI_nat g3, b, _, db, _, _, rfl, g4, T.cl_Village, T.no_Village_children, vf_children, fun x dxx nx ndx ne => ⟨x, dxx, _, _, _, rfl, upd_same, rfl, ?_⟩⟩
    have e1 : Ext ts H _ := vil_made (C := t.c_Village) (fs := [("up", .int ((Km457.at_ s v).up : Int)), ("road", .int (m : Int)), ("children", .int ((Km457.at_ s v).many : Int))]) nx ndx ne
    exact ⟨l, x, s, v, { Km457.at_ s v with long := m }, rfl, hV.ext e1, hle, hv, ⟨dxx, by rw [upd_same]; rfl⟩, fun H2 p e2 hp hV2 => k H2 p (e1.trans e2) (e1.has _ hp) hV2⟩
end Sp

end
section
set_option Elab.async false
set_option linter.all false
set_option maxRecDepth 100000
set_option maxHeartbeats 2000000
namespace Sp
open PySem PySem.Spec PyProof.Rows L2 Mt
variable {P : Program} {w : World} {K : PySem.W.Frag} {mg : Str → Option Value} {base : Heap} {t : Ad} {ts : List TabI}
abbrev tV (a : Km457.Ans) : List V := (Km457Neutral.told a).map V.int
/-- what a call's function promises: ar numbers, of which nv, ahead, are villages that are there -/
def sp_va (t : Ad) (ts : List TabI) (ar nv : Nat) (first : Bool) (mk : List Nat → Km457.Call) : L2.Sp := fun vs H Q _ => ∃ (y n : Addr) (d : Km457.Desk) (ns : List Nat), vs = [.ref y, .ref n] ∧ DeskAt t H y d ∧ H n = some (.lst (nts ns)) ∧ ns.length = ar ∧ (first = false → Dk d) ∧
  (∀ v ∈ ns.take nv, v < d.now.length) ∧ (∀ i ∈ ts, TabOk i H) ∧
  ∀ (H' : Hp) (p : Addr), Stp ts y H H' → H p = none → H' p = some (.lst (tV (Km457.act d (mk ns)).2)) → DeskAt t H' y (Km457.act d (mk ns)).1 → Q (.ref p) H'
theorem len1 {ns : List Nat} (h : ns.length = 1) : ∃ a, ns = [a] := by
  match ns, h with
  | [a], _ => exact ⟨a, rfl⟩
theorem len2 {ns : List Nat} (h : ns.length = 2) : ∃ a b, ns = [a, b] := by
  match ns, h with
  | [a, b], _ => exact ⟨a, b, rfl⟩
theorem len3 {ns : List Nat} (h : ns.length = 3) : ∃ a b c, ns = [a, b, c] := by
  match ns, h with
  | [a, b, c], _ => exact ⟨a, b, c, rfl⟩
/-- an answer that is made of one new list, the desk as it was -/
theorem tell {H H1 : Hp} {y p : Addr} {d : Km457.Desk} {Q : VK} {c : Km457.Call} {zs : List V} {a : Km457.Ans} (k : ∀ (H' : Hp) (p : Addr), Stp ts y H H' → H p = none → H' p = some (.lst (tV (Km457.act d c).2)) → DeskAt t H' y (Km457.act d c).1 → Q (.ref p) H')
    (hd : DeskAt t H y d) (e : Ext ts H H1) (ha : Km457.act d c = (d, a)) (hz : zs = tV a) (hp : H1 p = none) : Q (.ref p) (upd H1 p (.lst zs)) := by
  have e2 : Ext ts H (upd H1 p (.lst zs)) := e.trans (Ext.new hp)
  refine k _ p (e2.stp hd.isin) (e.has _ hp) ?_ ?_
  · rw [upd_same, ha, hz]
  · rw [ha]
    exact hd.ext e2
/-- .. the list made somewhere -/
theorem tell' {H H1 : Hp} {y p : Addr} {d : Km457.Desk} {Q : VK} {c : Km457.Call} {zs : List V} {a : Km457.Ans} (k : ∀ (H' : Hp) (p : Addr), Stp ts y H H' → H p = none → H' p = some (.lst (tV (Km457.act d c).2)) → DeskAt t H' y (Km457.act d c).1 → Q (.ref p) H')
    (hd : DeskAt t H y d) (e : Ext ts H H1) (ha : Km457.act d c = (d, a)) (hz : zs = tV a) (hn : H p = none) (hp : H1 p = some (.lst zs)) : Q (.ref p) H1 := by
  refine k _ p (e.stp hd.isin) hn ?_ ?_
  · rw [hp, ha, hz]
  · rw [ha]
    exact hd.ext e

/-- an answer behind a change -/
theorem tellC {H H1 : Hp} {y p : Addr} {d d' : Km457.Desk} {Q : VK} {c : Km457.Call} {zs : List V} {a : Km457.Ans} (k : ∀ (H' : Hp) (p : Addr), Stp ts y H H' → H p = none → H' p = some (.lst (tV (Km457.act d c).2)) → DeskAt t H' y (Km457.act d c).1 → Q (.ref p) H')
    (st : Stp ts y H H1) (hd : DeskAt t H1 y d') (ha : Km457.act d c = (d', a)) (hz : zs = tV a) (hp : H1 p = none) : Q (.ref p) (upd H1 p (.lst zs)) := by
  refine k _ p (st.trans ((Ext.new hp).stp hd.isin)) (st.has _ hp) ?_ ?_
  · rw [upd_same, ha, hz]
  · rw [ha]
    exact hd.ext (ts := ts) (Ext.new hp)
theorem one : (1 : Nat) ≤ sizeLine := by decide
/-! ### va_start -/
theorem ok_va_start (T : Tx K mg t) (D : Two t) : FnOk P w K mg base CX0 3 t.f_va_start t.g_va_start ["valley", "numbers"] (sp_va t ts 1 0 true fun ns => .start (ns.getD 0 0)) := by
  refine T.d_va_start.F.ok sc_va_start (fun vs H Q E h => ?_) (fun cdv A outer s H vs Q E hr h => ?_)
  · obtain ⟨y, n, d, ns, rfl, _⟩ := h
    rfl
  · obtain ⟨y, n, d, ns, rfl, hd, hn, hlen, _, _, hT, k⟩ := h
    obtain ⟨m, rfl⟩ := len1 hlen
    obtain ⟨x1, m1⟩ := T.k_MOST_CHILDREN
    obtain ⟨x2, m2⟩ := T.k_OUT_OF_BOUNDS
    have nd := sc_va_start.nd
    refine ⟨_, pss_cons (ps_set (i := 2) nd rfl (Or.inl rfl) (pe_ix ix_list (pv 1) pe_int (fun _ _ => rfl)))
      (pss_cons (ps_if (pt_cmpR op_gt (pv 2) (pe_glob (v := .int 1000) rfl m1 ⟨x1, rfl⟩) (nomark _)) (pss_one (ps_ret (pe_lst (pa_cons (pe_glob (v := .int (-22)) rfl m2 ⟨x2, rfl⟩) pa_nil)))) pss_nil)
      (pss_cons (ps_expr (pe_meth (pv 0) T.cl_Valley T.me_Valley_begin (ok_Valley_begin (ts := ts) T D) (hr.mono (by decide)) T.b_Valley_begin .nil pass0
        (pa_cons (pe_lst (pa_cons (pe_make T.mk_Village (ok_Village_init T) hr rfl T.m_Village T.b_Village_init .nil pass0 (pa_cons pe_int (pa_cons pe_int (pa_cons (pv 2) pa_nil)))) pa_nil)) pa_nil)))
      (pss_one (ps_ret (pe_lst (pa_cons pe_int pa_nil)))))), ?_⟩
    refine ⟨_, rfl, n, _, _, _, rfl, rfl, SqL.of hn, atI_nat (j := 0) rfl, ?_⟩
    refine ⟨_, rfl, _, _, rfl, rfl, _, rfl, ?_⟩
    by_cases c : 1000 < m
    · rw [decide_eq_true (by omega)]
      refine iteT ⟨(by show 1 ≤ sizeLine; decide), fun p hp => ?_⟩
      exact tell k hd (Ext.refl H) (a := Km457.only (-22)) (if_pos c) rfl hp
    · rw [decide_eq_false (by omega)]
      refine iteF ?_
      obtain ⟨dx, fs, hy, hb, hc⟩ := hd.obj0
      refine ⟨_, rfl, y, dx, fs, rfl, hy, hb, ?_⟩
      refine ⟨_, rfl, fun x dxx nx ndx ne => ⟨x, dxx, _, _, _, rfl, upd_same, rfl, (by show 1 ≤ sizeLine; decide), fun l hl => ?_⟩⟩
      have e1 : Ext ts H _ := vil_made (C := t.c_Village) (fs := [("up", .int 0), ("road", .int 0), ("children", .int (m : Int))]) nx ndx ne
      have e2 := e1.trans (Ext.new (ts := ts) (o := .lst [.ref x]) hl)
      have hx : VilAt t.c_Village (upd (upd (upd (upd H dxx (.own x)) x (.ins t.c_Village dxx [])) x (.ins t.c_Village dxx [("up", .int 0), ("road", .int 0), ("children", .int (m : Int))])) l (.lst [.ref x])) x ⟨0, 0, m⟩ :=
        ⟨dxx, by rw [upd_ne (fun z => by rw [← z, upd_same] at hl; cases hl), upd_same]; rfl⟩
      refine ⟨y, l, d, Km457.opened m, rfl, hd.ext e2, ⟨[x], upd_same, rfl, fun i z q => ?_⟩, List.cons_ne_nil _ _, fun H3 st hD => ?_⟩
      · match i, q with
        | 0, q =>
          have : (⟨0, 0, m⟩ : Km457.Village) = z := Option.some.inj q
          subst this
          exact ⟨x, rfl, hx⟩
      · refine ⟨(by show 1 ≤ sizeLine; decide), fun p hp => ?_⟩
        exact tellC k ((e2.stp hd.isin).trans st) hD (a := Km457.only 0) (if_neg c) rfl hp

/-! ### va_village -/
theorem vs_snoc {H : Hp} {l x p : Addr} {s : Km457.Valley} {z : Km457.Village} {as : List Addr} (h2 : as.length = s.length) (h3 : ∀ (i : Nat) (x : Km457.Village), s[i]? = some x → ∃ a, as[i]? = some a ∧ VilAt t.c_Village H a x) (hx : VilAt t.c_Village H x z) (hp : H p = some (.lst ((as ++ [x]).map V.ref))) : VsAt t.c_Village H p (s ++ [z]) := by
  refine ⟨as ++ [x], hp, by simp [h2], fun i q hq => ?_⟩
  by_cases c : i < s.length
  · rw [List.getElem?_append_left c] at hq
    obtain ⟨a, q1, q2⟩ := h3 i q hq
    exact ⟨a, by rw [List.getElem?_append_left (by omega)]; exact q1, q2⟩
  · rw [List.getElem?_append_right (by omega)] at hq
    have hi : i - s.length = 0 := by
      cases e : i - s.length with
      | zero => rfl
      | succ m => rw [e] at hq; cases hq
    rw [hi] at hq
    have : z = q := Option.some.inj hq
    subst this
    refine ⟨x, ?_, hx⟩
    rw [List.getElem?_append_right (by omega), h2, hi]
    rfl
theorem dec_road {f : Nat} : decide (1 ≤ (f : Int) ∧ (f : Int) ≤ 1000) = !decide (f = 0 ∨ 1000 < f) := by
  by_cases c : f = 0 ∨ 1000 < f
  · rw [decide_eq_true c, decide_eq_false (by omega)]
    rfl
  · rw [decide_eq_false c, decide_eq_true (by omega)]
    rfl
theorem ok_va_village (T : Tx K mg t) (D : Two t) : FnOk P w K mg base CX0 3 t.f_va_village t.g_va_village ["valley", "numbers"] (sp_va t ts 3 1 false fun ns => .village (ns.getD 0 0) (ns.getD 1 0) (ns.getD 2 0)) := by
  refine T.d_va_village.F.ok sc_va_village (fun vs H Q E h => ?_) (fun cdv A outer s H vs Q E hr h => ?_)
  · obtain ⟨y, n, d, ns, rfl, _⟩ := h
    rfl
  · obtain ⟨y, n, d, ns, rfl, hd, hn, hlen, hD, hv, hT, k⟩ := h
    obtain ⟨u, f, m, rfl⟩ := len3 hlen
    have W := (hD rfl).now
    have hu : u < d.now.length := hv u (by simp)
    obtain ⟨x1, m1⟩ := T.k_MOST_CHILDREN
    obtain ⟨x2, m2⟩ := T.k_OUT_OF_BOUNDS
    obtain ⟨x3, m3⟩ := T.k_MOST_VILLAGES
    obtain ⟨x4, m4⟩ := T.k_FULL
    have nd := sc_va_village.nd
    refine ⟨_, pss_cons (ps_set (i := 2) nd rfl (Or.inl rfl) (pe_ix ix_list (pv 1) pe_int (fun _ _ => rfl)))
      (pss_cons (ps_set (i := 3) nd rfl (Or.inl rfl) (pe_ix ix_list (pv 1) pe_int (fun _ _ => rfl)))
      (pss_cons (ps_set (i := 4) nd rfl (Or.inl rfl) (pe_ix ix_list (pv 1) pe_int (fun _ _ => rfl)))
      (pss_cons (ps_if (PW.pt (pw_or (pt_not (pt_val (pe_call (ok_is_road T) (hr.mono (by decide)) rfl T.d_is_road.m T.d_is_road.F.kp T.d_is_road.b .nil pass0 (pa_cons (pv 3) pa_nil)))) (pw_or1 (pt_cmpR op_gt (pv 4) (pe_glob (v := .int 1000) rfl m1 ⟨x1, rfl⟩) (nomark _)))))
        (pss_one (ps_ret (pe_lst (pa_cons (pe_glob (v := .int (-22)) rfl m2 ⟨x2, rfl⟩) pa_nil)))) pss_nil)
      (pss_cons (ps_if (pt_cmpR op_eq (pe_callB call_len_seq rfl T.bl_len PySem.boot_len (pa_cons (pe_fld (pv 0) rfl) pa_nil)) (pe_glob (v := .int 12) rfl m3 ⟨x3, rfl⟩) (nomark _))
        (pss_one (ps_ret (pe_lst (pa_cons (pe_glob (v := .int (-28)) rfl m4 ⟨x4, rfl⟩) pa_nil)))) pss_nil)
      (pss_cons (ps_expr (pe_meth (pv 0) T.cl_Valley T.me_Valley_change (ok_Valley_change (ts := ts) T D) (hr.mono (by decide)) T.b_Valley_change .nil pass0
        (pa_cons (pe_op op_cat (pe_fld (pv 0) rfl) (pe_lst (pa_cons (pe_make T.mk_Village (ok_Village_init T) hr rfl T.m_Village T.b_Village_init .nil pass0 (pa_cons (pv 2) (pa_cons (pv 3) (pa_cons (pv 4) pa_nil)))) pa_nil))) pa_nil)))
      (pss_one (ps_ret (pe_lst (pa_cons (pe_op op_sub (pe_callB call_len_seq rfl T.bl_len PySem.boot_len (pa_cons (pe_fld (pv 0) rfl) pa_nil)) pe_int) pa_nil))))))))), ?_⟩
    refine ⟨_, rfl, n, _, _, _, rfl, rfl, SqL.of hn, atI_nat (j := 0) rfl, ?_⟩
    refine ⟨_, rfl, n, _, _, _, rfl, rfl, SqL.of hn, atI_nat (j := 1) rfl, ?_⟩
    refine ⟨_, rfl, n, _, _, _, rfl, rfl, SqL.of hn, atI_nat (j := 2) rfl, ?_⟩
    have act0 : Km457.act d (.village u f m) = if f = 0 ∨ 1000 < f ∨ 1000 < m then (d, Km457.only (-22)) else if 12 ≤ d.now.length then (d, Km457.only (-28)) else (d.become (d.now ++ [⟨u, f, m⟩]), Km457.only ((d.now.length : Nat) : Int)) := if_neg (by omega)
    refine ⟨_, rfl, (f : Int), rfl, _, rfl, ?_⟩
    rw [dec_road]
    have bad : (f = 0 ∨ 1000 < f ∨ 1000 < m) → ∀ p, H p = none → Q (.ref p) (upd H p (.lst [.int (-22)])) := fun hbad p hp =>
      tell k hd (Ext.refl H) (a := Km457.only (-22)) (act0.trans (if_pos hbad)) rfl hp
    by_cases c1 : f = 0 ∨ 1000 < f
    · rw [decide_eq_true c1]
      exact iteT (iteT ⟨one, bad (by omega)⟩)
    · rw [decide_eq_false c1]
      refine iteF ⟨_, rfl, _, _, rfl, rfl, _, rfl, ?_⟩
      by_cases c2 : 1000 < m
      · rw [decide_eq_true (by omega)]
        exact iteT ⟨one, bad (by omega)⟩
      · rw [decide_eq_false (by omega)]
        refine iteF ?_
        have act1 := act0.trans (if_neg (by omega))
        obtain ⟨dx, fs, l, hy, hf, hV, hb, hc⟩ := hd.obj (WFne W)
        obtain ⟨as, h1, h2, h3⟩ := id hV
        refine ⟨_, rfl, y, _, dx, fs, _, rfl, hy, T.cl_Valley, T.no_Valley_villages, hf, l, _, rfl, .inl (SqL.of h1), rfl, _, rfl, ?_⟩
        have elen : decide (V.int ((as.map V.ref).length : Int) = V.int 12) = decide (d.now.length = 12) := by
          rw [List.length_map, h2]
          exact dec_nat (b := 12)
        rw [elen]
        have hle := W.le
        by_cases c3 : d.now.length = 12
        · rw [decide_eq_true c3]
          refine iteT ⟨one, fun p hp => ?_⟩
          exact tell k hd (Ext.refl H) (a := Km457.only (-28)) (act1.trans (if_pos (by omega))) rfl hp
        · rw [decide_eq_false c3]
          refine iteF ?_
          have act2 := act1.trans (if_neg (by omega))
          refine ⟨_, rfl, y, dx, fs, rfl, hy, hc, ?_⟩
          refine ⟨_, rfl, y, _, dx, fs, _, rfl, hy, T.cl_Valley, T.no_Valley_villages, hf, ?_⟩
          refine ⟨_, rfl, _, rfl, _, rfl, fun x dxx nx ndx ne => ⟨x, dxx, _, _, _, rfl, upd_same, rfl, one, fun q hq => ?_⟩⟩
          have e1 : Ext ts H _ := vil_made (C := t.c_Village) (fs := [("up", .int (u : Int)), ("road", .int (f : Int)), ("children", .int (m : Int))]) nx ndx ne
          have e2 := e1.trans (Ext.new (ts := ts) (o := .lst [.ref x]) hq)
          refine ⟨l, q, _, _, rfl, rfl, e2.lst h1, upd_same, sl (by simp; omega), fun r hr' => ?_⟩
          have e3 := e2.trans (Ext.new (ts := ts) (o := .lst (as.map V.ref ++ [V.ref x])) hr')
          have hxq : x ≠ q := fun z => by rw [← z, upd_same] at hq; cases hq
          have hx : VilAt t.c_Village _ x ⟨u, f, m⟩ := VilAt.ext (ts := ts) ((Ext.new (ts := ts) (o := .lst [.ref x]) hq).trans (Ext.new (ts := ts) (o := .lst (as.map V.ref ++ [V.ref x])) hr')) ⟨dxx, by rw [upd_same]; rfl⟩
          refine ⟨y, r, d, d.now ++ [⟨u, f, m⟩], rfl, hd.ext e3, hD rfl, vs_snoc (l := l) h2 (fun i z hz => ?_) hx (by rw [upd_same, List.map_append]; rfl), by simp, fun H3 st hD3 => ?_⟩
          · obtain ⟨a, q1, q2⟩ := h3 i z hz
            exact ⟨a, q1, q2.ext e3⟩
          · obtain ⟨dx', fs', l', hy', hf', hV', _, _⟩ := hD3.obj (by show d.now ++ _ ≠ []; simp)
            obtain ⟨xs', g1, g2⟩ := hV'.lst
            refine ⟨_, rfl, y, _, dx', fs', _, rfl, hy', T.cl_Valley, T.no_Valley_villages, hf', l', _, rfl, .inl (SqL.of g1), _, _, rfl, rfl, one, fun p hp => ?_⟩
            refine tellC k ((e3.stp hd.isin).trans st) hD3 (a := Km457.only ((d.now.length : Nat) : Int)) act2 ?_ hp
            have : (xs'.length : Int) - 1 = ((d.now.length : Nat) : Int) := by
              rw [g2]
              show (((d.now ++ [_]).length : Nat) : Int) - 1 = _
              rw [List.length_append]
              simp
            show [V.int ((xs'.length : Int) - 1)] = [V.int ((d.now.length : Nat) : Int)]
            rw [this]
end Sp

end
section
set_option Elab.async false
set_option linter.all false
set_option maxRecDepth 100000
set_option maxHeartbeats 2000000
namespace Sp
open PySem PySem.Spec PyProof.Rows L2 Mt
variable {P : Program} {w : World} {K : PySem.W.Frag} {mg : Str → Option Value} {base : Heap} {t : Ad} {ts : List TabI}

/-! ### va_many -/
theorem ok_va_many (T : Tx K mg t) (D : Two t) : FnOk P w K mg base CX0 4 t.f_va_many t.g_va_many ["valley", "numbers"] (sp_va t ts 2 1 false fun ns => .many (ns.getD 0 0) (ns.getD 1 0)) := by
  refine T.d_va_many.F.ok sc_va_many (fun vs H Q E h => ?_) (fun cdv A outer s H vs Q E hr h => ?_)
  · obtain ⟨y, n, d, ns, rfl, _⟩ := h
    rfl
  · obtain ⟨y, n, d, ns, rfl, hd, hn, hlen, hD, hv, hT, k⟩ := h
    obtain ⟨v, m, rfl⟩ := len2 hlen
    have W := (hD rfl).now
    have hv : v < d.now.length := hv v (by simp)
    obtain ⟨x1, m1⟩ := T.k_MOST_CHILDREN
    obtain ⟨x2, m2⟩ := T.k_OUT_OF_BOUNDS
    have nd := sc_va_many.nd
    refine ⟨_, pss_cons (ps_set (i := 2) nd rfl (Or.inl rfl) (pe_ix ix_list (pv 1) pe_int (fun _ _ => rfl)))
      (pss_cons (ps_set (i := 3) nd rfl (Or.inl rfl) (pe_ix ix_list (pv 1) pe_int (fun _ _ => rfl)))
      (pss_cons (ps_if (pt_cmpR op_gt (pv 3) (pe_glob (v := .int 1000) rfl m1 ⟨x1, rfl⟩) (nomark _)) (pss_one (ps_ret (pe_lst (pa_cons (pe_glob (v := .int (-22)) rfl m2 ⟨x2, rfl⟩) pa_nil)))) pss_nil)
      (pss_cons (ps_set (i := 4) nd rfl (Or.inl rfl) (pe_fld (pe_ix ix_list (pe_fld (pv 0) rfl) (pv 2) (fun _ _ => rfl)) rfl))
      (pss_cons (ps_expr (pe_meth (pv 0) T.cl_Valley T.me_Valley_change (ok_Valley_change (ts := ts) T D) (hr.mono (by decide)) T.b_Valley_change .nil pass0
        (pa_cons (pe_call (ok_with_children (ts := ts) T) hr rfl T.d_with_children.m T.d_with_children.F.kp T.d_with_children.b .nil pass0 (pa_cons (pe_fld (pv 0) rfl) (pa_cons (pv 2) (pa_cons (pv 3) pa_nil)))) pa_nil)))
      (pss_one (ps_ret (pe_lst (pa_cons (pv 4) pa_nil)))))))), ?_⟩
    refine ⟨_, rfl, n, _, _, _, rfl, rfl, SqL.of hn, atI_nat (j := 0) rfl, ?_⟩
    refine ⟨_, rfl, n, _, _, _, rfl, rfl, SqL.of hn, atI_nat (j := 1) rfl, ?_⟩
    refine ⟨_, rfl, _, _, rfl, rfl, _, rfl, ?_⟩
    have act0 : Km457.act d (.many v m) = if 1000 < m then (d, Km457.only (-22)) else (d.become (d.now.set v { Km457.at_ d.now v with many := m }), Km457.only (((Km457.at_ d.now v).many : Nat) : Int)) := if_neg (by omega)
    by_cases c : 1000 < m
    · rw [decide_eq_true (by omega)]
      refine iteT ⟨one, fun p hp => ?_⟩
      exact tell k hd (Ext.refl H) (a := Km457.only (-22)) (act0.trans (if_pos c)) rfl hp
    · rw [decide_eq_false (by omega)]
      refine iteF ?_
      have act1 := act0.trans (if_neg c)
      obtain ⟨dx, fs, l, hy, hf, hV, hb, hc⟩ := hd.obj (WFne W)
      obtain ⟨xs, b, db, g1, g2, g3, g4⟩ := hV.at hv
      refine ⟨_, rfl, y, _, dx, fs, _, rfl, hy, T.cl_Valley, T.no_Valley_villages, hf, _, rfl, l, _, _, _, rfl, rfl, SqL.of g1, atI_nat g3, b, _, db, _, _, rfl, g4, T.cl_Village, T.no_Village_children, vf_children, ?_⟩
      refine ⟨_, rfl, y, dx, fs, rfl, hy, hc, ?_⟩
      refine ⟨_, rfl, y, _, dx, fs, _, rfl, hy, T.cl_Valley, T.no_Valley_villages, hf, _, rfl, _, rfl, ?_⟩
      refine ⟨l, d.now, v, m, rfl, hV, W.le, hv, fun H2 p e2 hp hV2 => ?_⟩
      refine ⟨y, p, d, _, rfl, hd.ext e2, hD rfl, hV2, WFne (wf_many W hv (by omega)), fun H3 st hD3 => ?_⟩
      refine ⟨_, rfl, one, fun q hq => ?_⟩
      exact tellC k ((e2.stp hd.isin).trans st) hD3 (a := Km457.only (((Km457.at_ d.now v).many : Nat) : Int)) act1 rfl hq

/-! ### va_road -/
theorem ok_va_road (T : Tx K mg t) (D : Two t) : FnOk P w K mg base CX0 4 t.f_va_road t.g_va_road ["valley", "numbers"] (sp_va t ts 2 1 false fun ns => .long_ (ns.getD 0 0) (ns.getD 1 0)) := by
  refine T.d_va_road.F.ok sc_va_road (fun vs H Q E h => ?_) (fun cdv A outer s H vs Q E hr h => ?_)
  · obtain ⟨y, n, d, ns, rfl, _⟩ := h
    rfl
  · obtain ⟨y, n, d, ns, rfl, hd, hn, hlen, hD, hv, hT, k⟩ := h
    obtain ⟨v, m, rfl⟩ := len2 hlen
    have W := (hD rfl).now
    have hv : v < d.now.length := hv v (by simp)
    obtain ⟨x1, m1⟩ := T.k_NOT_THIS_ONE
    obtain ⟨x2, m2⟩ := T.k_OUT_OF_BOUNDS
    have nd := sc_va_road.nd
    refine ⟨_, pss_cons (ps_set (i := 2) nd rfl (Or.inl rfl) (pe_ix ix_list (pv 1) pe_int (fun _ _ => rfl)))
      (pss_cons (ps_set (i := 3) nd rfl (Or.inl rfl) (pe_ix ix_list (pv 1) pe_int (fun _ _ => rfl)))
      (pss_cons (ps_if (pt_not (pt_val (pe_call (ok_is_road T) (hr.mono (by decide)) rfl T.d_is_road.m T.d_is_road.F.kp T.d_is_road.b .nil pass0 (pa_cons (pv 3) pa_nil)))) (pss_one (ps_ret (pe_lst (pa_cons (pe_glob (v := .int (-22)) rfl m2 ⟨x2, rfl⟩) pa_nil)))) pss_nil)
      (pss_cons (ps_if (pt_cmpR op_eq (pv 2) pe_int (nomark _)) (pss_one (ps_ret (pe_lst (pa_cons (pe_glob (v := .int (-33)) rfl m1 ⟨x1, rfl⟩) pa_nil)))) pss_nil)
      (pss_cons (ps_set (i := 4) nd rfl (Or.inl rfl) (pe_fld (pe_ix ix_list (pe_fld (pv 0) rfl) (pv 2) (fun _ _ => rfl)) rfl))
      (pss_cons (ps_expr (pe_meth (pv 0) T.cl_Valley T.me_Valley_change (ok_Valley_change (ts := ts) T D) (hr.mono (by decide)) T.b_Valley_change .nil pass0
        (pa_cons (pe_call (ok_with_road (ts := ts) T) hr rfl T.d_with_road.m T.d_with_road.F.kp T.d_with_road.b .nil pass0 (pa_cons (pe_fld (pv 0) rfl) (pa_cons (pv 2) (pa_cons (pv 3) pa_nil)))) pa_nil)))
      (pss_one (ps_ret (pe_lst (pa_cons (pv 4) pa_nil))))))))), ?_⟩
    refine ⟨_, rfl, n, _, _, _, rfl, rfl, SqL.of hn, atI_nat (j := 0) rfl, ?_⟩
    refine ⟨_, rfl, n, _, _, _, rfl, rfl, SqL.of hn, atI_nat (j := 1) rfl, ?_⟩
    refine ⟨_, rfl, (m : Int), rfl, _, rfl, ?_⟩
    rw [dec_road]
    have act0 : Km457.act d (.long_ v m) = if m = 0 ∨ 1000 < m then (d, Km457.only (-22)) else if v = 0 then (d, Km457.only (-33)) else (d.become (d.now.set v { Km457.at_ d.now v with long := m }), Km457.only (((Km457.at_ d.now v).long : Nat) : Int)) := if_neg (by omega)
    by_cases c : m = 0 ∨ 1000 < m
    · rw [decide_eq_true c]
      refine iteT ⟨one, fun p hp => ?_⟩
      exact tell k hd (Ext.refl H) (a := Km457.only (-22)) (act0.trans (if_pos c)) rfl hp
    · rw [decide_eq_false c]
      refine iteF ?_
      have act1 := act0.trans (if_neg c)
      refine ⟨_, rfl, rfl, _, rfl, ?_⟩
      have ev : decide (V.int (v : Int) = V.int 0) = decide (v = 0) := dec_nat (b := 0)
      rw [ev]
      by_cases c0 : v = 0
      · rw [decide_eq_true c0]
        refine iteT ⟨one, fun p hp => ?_⟩
        exact tell k hd (Ext.refl H) (a := Km457.only (-33)) (act1.trans (if_pos c0)) rfl hp
      rw [decide_eq_false c0]
      refine iteF ?_
      have act2 := act1.trans (if_neg c0)
      obtain ⟨dx, fs, l, hy, hf, hV, hb, hc⟩ := hd.obj (WFne W)
      obtain ⟨xs, b, db, g1, g2, g3, g4⟩ := hV.at hv
      refine ⟨_, rfl, y, _, dx, fs, _, rfl, hy, T.cl_Valley, T.no_Valley_villages, hf, _, rfl, l, _, _, _, rfl, rfl, SqL.of g1, atI_nat g3, b, _, db, _, _, rfl, g4, T.cl_Village, T.no_Village_road, vf_road, ?_⟩
      refine ⟨_, rfl, y, dx, fs, rfl, hy, hc, ?_⟩
      refine ⟨_, rfl, y, _, dx, fs, _, rfl, hy, T.cl_Valley, T.no_Valley_villages, hf, _, rfl, _, rfl, ?_⟩
      refine ⟨l, d.now, v, m, rfl, hV, W.le, hv, fun H2 p e2 hp hV2 => ?_⟩
      refine ⟨y, p, d, _, rfl, hd.ext e2, hD rfl, hV2, WFne (wf_long W hv c0 (by omega) (by omega)), fun H3 st hD3 => ?_⟩
      refine ⟨_, rfl, one, fun q hq => ?_⟩
      exact tellC k ((e2.stp hd.isin).trans st) hD3 (a := Km457.only (((Km457.at_ d.now v).long : Nat) : Int)) act2 rfl hq

/-! ### va_drop -/
theorem cut_drop (xs : List V) : cutV xs none (some (-1)) = xs.dropLast := by
  unfold cutV
  rw [HT.sIx_none, List.drop_zero, Nat.sub_zero]
  have e : HT.sIx xs.length xs.length (some (-1)) = xs.length - 1 := by
    show (if (-1 : Int) < 0 then ((-1 : Int) + (xs.length : Int)).toNat else min (-1 : Int).toNat xs.length) = _
    rw [if_pos (by decide)]
    omega
  rw [e, List.dropLast_eq_take]
theorem ok_va_drop (T : Tx K mg t) (D : Two t) : FnOk P w K mg base CX0 2 t.f_va_drop t.g_va_drop ["valley", "numbers"] (sp_va t ts 0 0 false fun _ => .drop) := by
  refine T.d_va_drop.F.ok sc_va_drop (fun vs H Q E h => ?_) (fun cdv A outer s H vs Q E hr h => ?_)
  · obtain ⟨y, n, d, ns, rfl, _⟩ := h
    rfl
  · obtain ⟨y, n, d, ns, rfl, hd, hn, hlen, hD, hv, hT, k⟩ := h
    have W := (hD rfl).now
    obtain ⟨x1, m1⟩ := T.k_NOT_THIS_ONE
    refine ⟨_, pss_cons (ps_if (pt_cmpR op_eq (pe_callB call_len_seq rfl T.bl_len PySem.boot_len (pa_cons (pe_fld (pv 0) rfl) pa_nil)) pe_int (nomark _)) (pss_one (ps_ret (pe_lst (pa_cons (pe_glob (v := .int (-33)) rfl m1 ⟨x1, rfl⟩) pa_nil)))) pss_nil)
      (pss_cons (ps_expr (pe_meth (pv 0) T.cl_Valley T.me_Valley_change (ok_Valley_change (ts := ts) T D) (hr.mono (by decide)) T.b_Valley_change .nil pass0 (pa_cons (pe_slice sl_list (pe_fld (pv 0) rfl) po_none (po_some (pe_un un_neg pe_int))) pa_nil)))
      (pss_one (ps_ret (pe_lst (pa_cons (pe_callB call_len_seq rfl T.bl_len PySem.boot_len (pa_cons (pe_fld (pv 0) rfl) pa_nil)) pa_nil))))), ?_⟩
    obtain ⟨dx, fs, l, hy, hf, hV, hb, hc⟩ := hd.obj (WFne W)
    obtain ⟨as, h1, h2, h3⟩ := id hV
    refine ⟨_, rfl, y, _, dx, fs, _, rfl, hy, T.cl_Valley, T.no_Valley_villages, hf, l, _, rfl, .inl (SqL.of h1), rfl, _, rfl, ?_⟩
    have elen : decide (V.int ((as.map V.ref).length : Int) = V.int 1) = decide (d.now.length = 1) := by
      rw [List.length_map, h2]
      exact dec_nat (b := 1)
    rw [elen]
    by_cases c : d.now.length = 1
    · rw [decide_eq_true c]
      refine iteT ⟨one, fun p hp => ?_⟩
      exact tell k hd (Ext.refl H) (a := Km457.only (-33)) (if_pos c) rfl hp
    · rw [decide_eq_false c]
      refine iteF ?_
      have act1 : Km457.act d .drop = (d.become d.now.dropLast, Km457.only (((d.now.length - 1 : Nat)) : Int)) := if_neg c
      refine ⟨_, rfl, y, dx, fs, rfl, hy, hc, ?_⟩
      refine ⟨_, rfl, y, _, dx, fs, _, rfl, hy, T.cl_Valley, T.no_Valley_villages, hf, 1, rfl, _, rfl, l, _, rfl, SqL.of h1, fun p hp => ?_⟩
      have e1 : Ext ts H (upd H p (.lst (cutV (as.map V.ref) none (some (-1))))) := Ext.new hp
      refine ⟨y, p, d, d.now.dropLast, rfl, hd.ext e1, hD rfl, ⟨as.dropLast, ?_, by rw [List.length_dropLast, List.length_dropLast, h2], fun i x q => ?_⟩, WFne (wf_drop W c), fun H3 st hD3 => ?_⟩
      · rw [upd_same, cut_drop, List.map_dropLast]
      · have hi : i < d.now.length - 1 := by
          have := (List.getElem?_eq_some_iff.mp q).1
          rw [List.length_dropLast] at this; exact this
        rw [List.dropLast_eq_take, List.getElem?_take_of_lt hi] at q
        obtain ⟨a, q1, q2⟩ := h3 i x q
        exact ⟨a, by rw [List.dropLast_eq_take, List.getElem?_take_of_lt (by omega)]; exact q1, q2.ext e1⟩
      · obtain ⟨dx', fs', l', hy', hf', hV', _, _⟩ := hD3.obj (WFne (wf_drop W c))
        obtain ⟨xs', g1, g2⟩ := hV'.lst
        refine ⟨_, rfl, y, _, dx', fs', _, rfl, hy', T.cl_Valley, T.no_Valley_villages, hf', l', _, rfl, .inl (SqL.of g1), one, fun q hq => ?_⟩
        refine tellC k ((e1.stp hd.isin).trans st) hD3 (a := Km457.only (((d.now.length - 1 : Nat)) : Int)) act1 ?_ hq
        show [V.int (xs'.length : Int)] = [V.int (((d.now.length - 1 : Nat)) : Int)]
        rw [g2]
        show [V.int ((d.now.dropLast.length : Nat) : Int)] = _
        rw [List.length_dropLast]
end Sp

end
section
set_option Elab.async false
set_option linter.all false
set_option maxRecDepth 100000
set_option maxHeartbeats 2000000
namespace Sp
open PySem PySem.Spec PyProof.Rows L2 Mt
variable {P : Program} {w : World} {K : PySem.W.Frag} {mg : Str → Option Value} {base : Heap} {t : Ad} {ts : List TabI}
theorem szl {n : Nat} (h : n ≤ 100 := by simp) : n ≤ sizeLine := Nat.le_trans h (by decide)

/-! ### va_far -/
theorem ok_va_far (T : Tx K mg t) : FnOk P w K mg base CX0 3 t.f_va_far t.g_va_far ["valley", "numbers"] (sp_va t ts 2 2 false fun ns => .far (ns.getD 0 0) (ns.getD 1 0)) := by
  refine T.d_va_far.F.ok sc_va_far (fun vs H Q E h => ?_) (fun cdv A outer s H vs Q E hr h => ?_)
  · obtain ⟨y, n, d, ns, rfl, _⟩ := h
    rfl
  · obtain ⟨y, n, d, ns, rfl, hd, hn, hlen, hD, hvs, hT, k⟩ := h
    obtain ⟨v, u, rfl⟩ := len2 hlen
    have W := (hD rfl).now
    have hv : v < d.now.length := hvs v (by simp)
    have hu : u < d.now.length := hvs u (by simp)
    have nd := sc_va_far.nd
    refine ⟨_, pss_cons (ps_set (i := 2) nd rfl (Or.inl rfl) (pe_ix ix_list (pv 1) pe_int (fun _ _ => rfl)))
      (pss_cons (ps_set (i := 3) nd rfl (Or.inl rfl) (pe_ix ix_list (pv 1) pe_int (fun _ _ => rfl)))
      (pss_one (ps_ret (pe_lst (pa_cons (pe_ix ix_list (pe_call (ok_distances (ts := ts) T) hr rfl T.d_distances.m T.d_distances.F.kp T.d_distances.b .nil pass0 (pa_cons (pe_fld (pv 0) rfl) (pa_cons (pv 2) pa_nil))) (pv 3) (fun _ _ => rfl))
        (pa_cons (pe_call (ok_meeting (ts := ts) T) hr rfl T.d_meeting.m T.d_meeting.F.kp T.d_meeting.b .nil pass0 (pa_cons (pe_fld (pv 0) rfl) (pa_cons (pv 2) (pa_cons (pv 3) pa_nil)))) pa_nil))))))  , ?_⟩
    obtain ⟨dx, fs, l, hy, hf, hV, hb, hc⟩ := hd.obj (WFne W)
    refine ⟨_, rfl, n, _, _, _, rfl, rfl, SqL.of hn, atI_nat (j := 0) rfl, ?_⟩
    refine ⟨_, rfl, n, _, _, _, rfl, rfl, SqL.of hn, atI_nat (j := 1) rfl, ?_⟩
    refine ⟨_, rfl, y, _, dx, fs, _, rfl, hy, T.cl_Valley, T.no_Valley_villages, hf, _, rfl, l, d.now, v, rfl, hV, W, hv, fun H1 p e1 hp h1 => ?_⟩
    refine ⟨_, rfl, p, _, _, _, rfl, rfl, SqL.of h1, atI_nat (j := u) (v := .int (Km457.far d.now v u : Nat)) ?_, ?_⟩
    · rw [List.getElem?_map, List.getElem?_map]
      unfold Km457.all
      rw [List.getElem?_range hu]
      rfl
    · refine ⟨_, rfl, y, _, dx, fs, _, rfl, e1.ins hy, T.cl_Valley, T.no_Valley_villages, hf, _, rfl, _, rfl, l, d.now, v, u, rfl, hV.ext e1, W, hv, hu, fun H2 e2 => ⟨szl, fun q hq => ?_⟩⟩
      exact tell (c := .far v u) k hd (e1.trans e2) (a := ⟨((Km457.far d.now v u : Nat) : Int), [Km457.meet d.now v u]⟩) (congrArg (Prod.mk d) (if_neg (by omega))) rfl hq

/-! ### va_ways -/
theorem ok_va_ways (T : Tx K mg t) : FnOk P w K mg base CX0 4 t.f_va_ways t.g_va_ways ["valley", "numbers"] (sp_va t ts 1 1 false fun ns => .ways (ns.getD 0 0)) := by
  refine T.d_va_ways.F.ok sc_va_ways (fun vs H Q E h => ?_) (fun cdv A outer s H vs Q E hr h => ?_)
  · obtain ⟨y, n, d, ns, rfl, _⟩ := h
    rfl
  · obtain ⟨y, n, d, ns, rfl, hd, hn, hlen, hD, hvs, hT, k⟩ := h
    obtain ⟨v, rfl⟩ := len1 hlen
    have W := (hD rfl).now
    have hv : v < d.now.length := hvs v (by simp)
    refine ⟨_, pss_one (ps_ret (pe_lst (pa_cons (pe_call (ok_all_ways (ts := ts) T) hr rfl T.d_all_ways.m T.d_all_ways.F.kp T.d_all_ways.b .nil pass0 (pa_cons (pe_fld (pv 0) rfl) (pa_cons (pe_ix ix_list (pv 1) pe_int (fun _ _ => rfl)) pa_nil))) pa_nil))), ?_⟩
    obtain ⟨dx, fs, l, hy, hf, hV, hb, hc⟩ := hd.obj (WFne W)
    refine ⟨_, rfl, y, _, dx, fs, _, rfl, hy, T.cl_Valley, T.no_Valley_villages, hf, _, rfl, n, _, _, _, rfl, rfl, SqL.of hn, atI_nat (j := 0) rfl, l, d.now, v, rfl, hV, W, hv, fun H1 e1 => ⟨szl, fun q hq => ?_⟩⟩
    exact tell (c := .ways v) k hd e1 (a := Km457.only ((Km457.ways d.now v : Nat) : Int)) (congrArg (Prod.mk d) (if_neg (by omega))) rfl hq

/-! ### va_gain -/
theorem ok_va_gain (T : Tx K mg t) : FnOk P w K mg base CX0 4 t.f_va_gain t.g_va_gain ["valley", "numbers"] (sp_va t ts 2 2 false fun ns => .gain (ns.getD 0 0) (ns.getD 1 0)) := by
  refine T.d_va_gain.F.ok sc_va_gain (fun vs H Q E h => ?_) (fun cdv A outer s H vs Q E hr h => ?_)
  · obtain ⟨y, n, d, ns, rfl, _⟩ := h
    rfl
  · obtain ⟨y, n, d, ns, rfl, hd, hn, hlen, hD, hvs, hT, k⟩ := h
    obtain ⟨v, u, rfl⟩ := len2 hlen
    have W := (hD rfl).now
    have hv : v < d.now.length := hvs v (by simp)
    have hu : u < d.now.length := hvs u (by simp)
    refine ⟨_, pss_one (ps_ret (pe_lst (pa_cons (pe_op op_sub (pe_call (ok_all_ways (ts := ts) T) hr rfl T.d_all_ways.m T.d_all_ways.F.kp T.d_all_ways.b .nil pass0 (pa_cons (pe_fld (pv 0) rfl) (pa_cons (pe_ix ix_list (pv 1) pe_int (fun _ _ => rfl)) pa_nil)))
      (pe_call (ok_all_ways (ts := ts) T) hr rfl T.d_all_ways.m T.d_all_ways.F.kp T.d_all_ways.b .nil pass0 (pa_cons (pe_fld (pv 0) rfl) (pa_cons (pe_ix ix_list (pv 1) pe_int (fun _ _ => rfl)) pa_nil)))) pa_nil))), ?_⟩
    obtain ⟨dx, fs, l, hy, hf, hV, hb, hc⟩ := hd.obj (WFne W)
    refine ⟨_, rfl, y, _, dx, fs, _, rfl, hy, T.cl_Valley, T.no_Valley_villages, hf, _, rfl, n, _, _, _, rfl, rfl, SqL.of hn, atI_nat (j := 0) rfl, l, d.now, v, rfl, hV, W, hv, fun H1 e1 => ?_⟩
    refine ⟨_, rfl, y, _, dx, fs, _, rfl, e1.ins hy, T.cl_Valley, T.no_Valley_villages, hf, _, rfl, n, _, _, _, rfl, rfl, SqL.of (e1.lst hn), atI_nat (j := 1) rfl, l, d.now, u, rfl, hV.ext e1, W, hu, fun H2 e2 => ⟨_, _, rfl, rfl, szl, fun q hq => ?_⟩⟩
    exact tell (c := .gain v u) k hd (e1.trans e2) (a := Km457.only (((Km457.ways d.now v : Nat) : Int) - (Km457.ways d.now u : Nat))) (congrArg (Prod.mk d) (if_neg (by omega))) rfl hq

/-! ### va_best -/
theorem best_is {s : Km457.Valley} (W : WF s) : ∃ v r, Km457.best s = v :: r ∧ v < s.length ∧ Km457.ways s v = Km457.least s := by
  have h1 : ∃ v, v < s.length ∧ Km457.ways s v = Km457.least s := by
    unfold Km457.least
    have key : ∀ (l : List Nat) (a : Nat), l.foldl min a = a ∨ l.foldl min a ∈ l := by
      intro l
      induction l with
      | nil => intro a; exact .inl rfl
      | cons x l ih =>
        intro a
        rw [List.foldl_cons]
        rcases ih (min a x) with q | q
        · rw [q]
          rcases Nat.le_total a x with c | c
          · exact .inl (Nat.min_eq_left c)
          · rw [Nat.min_eq_right c]; exact .inr (List.mem_cons_self ..)
        · exact .inr (List.mem_cons_of_mem _ q)
    rcases key ((Km457.all s).map fun v => Km457.ways s v) (Km457.ways s 0) with q | q
    · exact ⟨0, W.pos, q.symm⟩
    · obtain ⟨v, hv, e⟩ := List.mem_map.mp q
      exact ⟨v, all_mem.mp hv, e⟩
  obtain ⟨v, hv, hw⟩ := h1
  have hm : v ∈ Km457.best s := List.mem_filter.mpr ⟨all_mem.mpr hv, by simp [hw]⟩
  cases e : Km457.best s with
  | nil => rw [e] at hm; cases hm
  | cons x r =>
    have hx : x ∈ Km457.best s := by rw [e]; exact List.mem_cons_self ..
    have := List.mem_filter.mp hx
    exact ⟨x, r, rfl, all_mem.mp this.1, by simpa using this.2⟩
theorem best_sorted (s : Km457.Valley) : (Km457.best s).Pairwise (· < ·) := sorted_filter
theorem best_lt {s : Km457.Valley} (W : WF s) : ∀ x ∈ Km457.best s, x < 1000 := fun x hx => by
  have := all_mem.mp (List.mem_filter.mp hx).1
  have := W.le
  omega
theorem ok_va_best (T : Tx K mg t) : FnOk P w K mg base CX0 5 t.f_va_best t.g_va_best ["valley", "numbers"] (sp_va t ts 0 0 false fun _ => .best) := by
  refine T.d_va_best.F.ok sc_va_best (fun vs H Q E h => ?_) (fun cdv A outer s H vs Q E hr h => ?_)
  · obtain ⟨y, n, d, ns, rfl, _⟩ := h
    rfl
  · obtain ⟨y, n, d, ns, rfl, hd, hn, hlen, hD, hvs, hT, k⟩ := h
    have W := (hD rfl).now
    have nd := sc_va_best.nd
    refine ⟨_, pss_cons (ps_set (i := 2) nd rfl (Or.inl rfl) (pe_call (ok_best_places (ts := ts) T) hr rfl T.d_best_places.m T.d_best_places.F.kp T.d_best_places.b .nil pass0 (pa_cons (pe_fld (pv 0) rfl) pa_nil)))
      (pss_one (ps_ret (pe_lst (pa_cons (pe_call (ok_all_ways (ts := ts) T) (hr.mono (by decide)) rfl T.d_all_ways.m T.d_all_ways.F.kp T.d_all_ways.b .nil pass0 (pa_cons (pe_fld (pv 0) rfl) (pa_cons (pe_ix ix_list (pv 2) pe_int (fun _ _ => rfl)) pa_nil)))
        (pa_cons (pe_call (ok_bits (ts := ts) T) (hr.mono (by decide)) rfl T.d_bits.m T.d_bits.F.kp T.d_bits.b .nil pass0 (pa_cons (pv 2) pa_nil)) (pa_cons (pe_callB call_len_seq rfl T.bl_len PySem.boot_len (pa_cons (pv 2) pa_nil)) pa_nil)))))), ?_⟩
    obtain ⟨dx, fs, l, hy, hf, hV, hb, hc⟩ := hd.obj (WFne W)
    refine ⟨_, rfl, y, _, dx, fs, _, rfl, hy, T.cl_Valley, T.no_Valley_villages, hf, l, d.now, rfl, hV, W, fun H1 p e1 hp h1 => ?_⟩
    obtain ⟨v, r, hb1, hv, hw⟩ := best_is W
    refine ⟨_, rfl, y, _, dx, fs, _, rfl, e1.ins hy, T.cl_Valley, T.no_Valley_villages, hf, _, rfl, p, _, _, _, rfl, rfl, SqL.of h1, atI_nat (j := 0) (v := .int (v : Int)) (by rw [hb1]; rfl), l, d.now, v, rfl, hV.ext e1, W, hv, fun H2 e2 => ?_⟩
    refine ⟨_, rfl, p, _, rfl, e2.lst h1, best_sorted _, best_lt W, _, rfl, p, _, rfl, .inl (SqL.of (e2.lst h1)), szl, fun q hq => ?_⟩
    refine tell k hd (e1.trans e2) (a := ⟨((Km457.least d.now : Nat) : Int), [Km457.bits (Km457.best d.now), (Km457.best d.now).length]⟩) rfl ?_ hq
    rw [hw, List.length_map]
    rfl

/-! ### va_all -/
theorem pad_told (v : Int) (L : List Nat) : (V.int v :: nts L) = tV ⟨v, L⟩ := by
  show _ = V.int v :: (Km457Neutral.nums L).map V.int
  unfold Km457Neutral.nums
  rw [List.map_map]
  rfl
theorem ok_va_all (T : Tx K mg t) : FnOk P w K mg base CX0 4 t.f_va_all t.g_va_all ["valley", "numbers"] (sp_va t ts 0 0 false fun _ => .all_) := by
  refine T.d_va_all.F.ok sc_va_all (fun vs H Q E h => ?_) (fun cdv A outer s H vs Q E hr h => ?_)
  · obtain ⟨y, n, d, ns, rfl, _⟩ := h
    rfl
  · obtain ⟨y, n, d, ns, rfl, hd, hn, hlen, hD, hvs, hT, k⟩ := h
    have W := (hD rfl).now
    have hle := W.le
    have nd := sc_va_all.nd
    refine ⟨_, pss_cons (ps_set (i := 2) nd rfl (Or.inl rfl) (pe_callB call_len_seq rfl T.bl_len PySem.boot_len (pa_cons (pe_fld (pv 0) rfl) pa_nil)))
      (pss_one (ps_ret (pe_op op_cat (pe_lst (pa_cons (pv 2) pa_nil)) (pe_call (ok_padded (ts := ts) T) (hr.mono (by decide)) rfl T.d_padded.m T.d_padded.F.kp T.d_padded.b .nil pass0 (pa_cons
        (pe_lc (own := [("v", 3)]) rfl nd (pi_range1 rfl T.bl_range (pa_cons (pv 2) pa_nil)) (blkOk_by (N := N_va_all) (sc := defScope s_va_all) (by decide +kernel)) (fun _ _ _ _ _ => pg_name (i := 3) nd rfl (Or.inl rfl)) (fun _ _ _ _ _ => pts_nil)
          (fun _ _ _ _ _ => pe_call (ok_all_ways (ts := ts) T) hr rfl T.d_all_ways.m T.d_all_ways.F.kp T.d_all_ways.b .nil pass0 (pa_cons (pe_fldk (K := K) rfl (pv 0) rfl) (pa_cons (pv 3) pa_nil)))) pa_nil))))), ?_⟩
    obtain ⟨dx, fs, l, hy, hf, hV, hb, hc⟩ := hd.obj (WFne W)
    obtain ⟨xs, g1, g2⟩ := hV.lst
    refine ⟨_, rfl, y, _, dx, fs, _, rfl, hy, T.cl_Valley, T.no_Valley_villages, hf, l, _, rfl, .inl (SqL.of g1), ?_⟩
    rw [g2]
    refine ⟨_, rfl, szl, fun p hp => ?_⟩
    have e1 : Ext ts H (upd H p (.lst [.int (d.now.length : Int)])) := Ext.new hp
    refine ⟨_, rfl, _, rfl, by omega, by omega, fun D hD2 => ?_⟩
    refine lcR (ts := ts) (i := 3) (fun _ => true) (fun n => .int (Km457.ways d.now n : Nat)) hD2 (by omega) (fun _ _ => rfl) (fun _ _ _ _ => et_yes) ?_ ?_
    · intro m hm _ H3 e3 Q' q'
      exact ⟨_, rfl, y, _, dx, fs, _, rfl, (e1.trans e3).ins hy, T.cl_Valley, T.no_Valley_villages, hf, _, rfl, l, d.now, m, rfl, hV.ext (e1.trans e3), W, hm, q'⟩
    · intro H3 e3 h3
      have h3' : H3 D = some (.lst (nts ((Km457.all d.now).map fun v => Km457.ways d.now v))) := by
        rw [h3, filter_yes, nts_map]
        rfl
      refine ⟨D, _, rfl, h3', by simp [Km457.all]; omega, fun H4 q e4 hq h4 => ?_⟩
      have hp4 : H4 p = some (.lst [.int (d.now.length : Int)]) := (e3.trans e4).lst upd_same
      refine ⟨p, q, _, _, rfl, rfl, hp4, h4, sl (by simp [Km457.fill, Km457.all]; omega), fun r hr' => ?_⟩
      refine tell k hd ((e1.trans e3).trans e4) (a := ⟨((d.now.length : Nat) : Int), Km457.fill 12 ((Km457.all d.now).map fun v => Km457.ways d.now v)⟩) rfl (pad_told _ _) hr'

/-! ### va_heavy -/
theorem ok_va_heavy (T : Tx K mg t) {c Pt : Addr} (M : LamH t ts base mg c Pt) : FnOk P w K mg base CX0 7 t.f_va_heavy t.g_va_heavy ["valley", "numbers"] (sp_va t ts 1 1 false fun ns => .heavy (ns.getD 0 0)) := by
  refine T.d_va_heavy.F.ok sc_va_heavy (fun vs H Q E h => ?_) (fun cdv A outer s H vs Q E hr h => ?_)
  · obtain ⟨y, n, d, ns, rfl, _⟩ := h
    rfl
  · obtain ⟨y, n, d, ns, rfl, hd, hn, hlen, hD, hvs, hT, k⟩ := h
    obtain ⟨v, rfl⟩ := len1 hlen
    have W := (hD rfl).now
    have hv : v < d.now.length := hvs v (by simp)
    obtain ⟨x1, m1⟩ := T.k_ALONE
    have nd := sc_va_heavy.nd
    refine ⟨_, pss_cons (ps_set (i := 2) nd rfl (Or.inl rfl) (pe_ix ix_list (pv 1) pe_int (fun _ _ => rfl)))
      (pss_cons (ps_set (i := 3) nd rfl (Or.inl rfl) (pe_call (ok_heaviest (ts := ts) T M) hr rfl T.d_heaviest.m T.d_heaviest.F.kp T.d_heaviest.b .nil pass0 (pa_cons (pe_fld (pv 0) rfl) (pa_cons (pv 2) pa_nil))))
      (pss_cons (ps_if (pt_cmp (pc_isN (pv 3))) (pss_one (ps_ret (pe_lst (pa_cons (pe_glob (v := .int (-6)) rfl m1 ⟨x1, rfl⟩) pa_nil)))) pss_nil)
      (pss_one (ps_ret (pe_lst (pa_cons (pv 3) (pa_cons (pe_call (ok_branch_children (ts := ts) T) (hr.mono (by decide)) rfl T.d_branch_children.m T.d_branch_children.F.kp T.d_branch_children.b .nil pass0 (pa_cons (pe_fld (pv 0) rfl) (pa_cons (pv 2) (pa_cons (pv 3) pa_nil)))) pa_nil))))))), ?_⟩
    obtain ⟨dx, fs, l, hy, hf, hV, hb, hc⟩ := hd.obj (WFne W)
    refine ⟨_, rfl, n, _, _, _, rfl, rfl, SqL.of hn, atI_nat (j := 0) rfl, ?_⟩
    refine ⟨_, rfl, y, _, dx, fs, _, rfl, hy, T.cl_Valley, T.no_Valley_villages, hf, _, rfl, l, d.now, v, rfl, hV, W, hv, hT, fun H1 e1 => ?_⟩
    have act0 : Km457.act d (.heavy v) = (d, match Km457.heavy d.now v with | none => Km457.only (-6) | some u => ⟨((u : Nat) : Int), [Km457.branch d.now v u]⟩) := congrArg (Prod.mk d) (if_neg (by omega))
    cases hh : Km457.heavy d.now v with
    | none =>
      rw [hh] at act0
      refine ⟨_, rfl, _, rfl, iteT ⟨szl, fun p hp => ?_⟩⟩
      exact tell k hd e1 (a := Km457.only (-6)) act0 rfl hp
    | some u =>
      rw [hh] at act0
      obtain ⟨hu, hnr⟩ := heavy_near hh
      refine ⟨_, rfl, _, rfl, iteF ?_⟩
      refine ⟨_, rfl, _, rfl, y, _, dx, fs, _, rfl, e1.ins hy, T.cl_Valley, T.no_Valley_villages, hf, _, rfl, _, rfl, l, d.now, v, u, rfl, hV.ext e1, W, hv, hu, hnr, fun H2 e2 => ⟨szl, fun p hp => ?_⟩⟩
      exact tell k hd (e1.trans e2) (a := ⟨((u : Nat) : Int), [Km457.branch d.now v u]⟩) act0 rfl hp

/-! ### va_branch -/
theorem ok_va_branch (T : Tx K mg t) : FnOk P w K mg base CX0 3 t.f_va_branch t.g_va_branch ["valley", "numbers"] (sp_va t ts 2 2 false fun ns => .branch (ns.getD 0 0) (ns.getD 1 0)) := by
  refine T.d_va_branch.F.ok sc_va_branch (fun vs H Q E h => ?_) (fun cdv A outer s H vs Q E hr h => ?_)
  · obtain ⟨y, n, d, ns, rfl, _⟩ := h
    rfl
  · obtain ⟨y, n, d, ns, rfl, hd, hn, hlen, hD, hvs, hT, k⟩ := h
    obtain ⟨v, u, rfl⟩ := len2 hlen
    have W := (hD rfl).now
    have hle := W.le
    have hv : v < d.now.length := hvs v (by simp)
    have hu : u < d.now.length := hvs u (by simp)
    obtain ⟨x1, m1⟩ := T.k_NOT_THIS_ONE
    have nd := sc_va_branch.nd
    refine ⟨_, pss_cons (ps_set (i := 2) nd rfl (Or.inl rfl) (pe_ix ix_list (pv 1) pe_int (fun _ _ => rfl)))
      (pss_cons (ps_set (i := 3) nd rfl (Or.inl rfl) (pe_ix ix_list (pv 1) pe_int (fun _ _ => rfl)))
      (pss_cons (ps_if (pt_not (pt_val (pe_call (ok_are_beside T) (hr.mono (by decide)) rfl T.d_are_beside.m T.d_are_beside.F.kp T.d_are_beside.b .nil pass0 (pa_cons (pe_fld (pv 0) rfl) (pa_cons (pv 2) (pa_cons (pv 3) pa_nil)))))) (pss_one (ps_ret (pe_lst (pa_cons (pe_glob (v := .int (-33)) rfl m1 ⟨x1, rfl⟩) pa_nil)))) pss_nil)
      (pss_cons (ps_set (i := 4) nd rfl (Or.inl rfl) (pe_call (ok_branch (ts := ts) T) hr rfl T.d_branch.m T.d_branch.F.kp T.d_branch.b .nil pass0 (pa_cons (pe_fld (pv 0) rfl) (pa_cons (pv 2) (pa_cons (pv 3) pa_nil)))))
      (pss_one (ps_ret (pe_lst (pa_cons (pe_call (ok_children_in (ts := ts) T) (hr.mono (by decide)) rfl T.d_children_in.m T.d_children_in.F.kp T.d_children_in.b .nil pass0 (pa_cons (pe_fld (pv 0) rfl) (pa_cons (pv 4) pa_nil)))
        (pa_cons (pe_call (ok_bits (ts := ts) T) (hr.mono (by decide)) rfl T.d_bits.m T.d_bits.F.kp T.d_bits.b .nil pass0 (pa_cons (pv 4) pa_nil)) pa_nil)))))))), ?_⟩
    obtain ⟨dx, fs, l, hy, hf, hV, hb, hc⟩ := hd.obj (WFne W)
    refine ⟨_, rfl, n, _, _, _, rfl, rfl, SqL.of hn, atI_nat (j := 0) rfl, ?_⟩
    refine ⟨_, rfl, n, _, _, _, rfl, rfl, SqL.of hn, atI_nat (j := 1) rfl, ?_⟩
    refine ⟨_, rfl, y, _, dx, fs, _, rfl, hy, T.cl_Valley, T.no_Valley_villages, hf, _, rfl, _, rfl, l, d.now, v, u, rfl, hV, W, hv, hu, _, rfl, ?_⟩
    have act0 : Km457.act d (.branch v u) = (d, if Km457.near d.now v u = false then Km457.only (-33) else ⟨((Km457.branch d.now v u : Nat) : Int), [Km457.bits (Km457.beyond d.now v u)]⟩) := congrArg (Prod.mk d) (if_neg (by omega))
    cases hh : Km457.near d.now v u with
    | false =>
      rw [hh] at act0
      refine iteT ⟨szl, fun p hp => ?_⟩
      exact tell k hd (Ext.refl H) (a := Km457.only (-33)) act0 rfl hp
    | true =>
      rw [hh] at act0
      refine iteF ?_
      refine ⟨_, rfl, y, _, dx, fs, _, rfl, hy, T.cl_Valley, T.no_Valley_villages, hf, _, rfl, _, rfl, l, d.now, v, u, rfl, hV, W, hv, hu, hh, fun H1 p e1 hp h1 => ?_⟩
      refine ⟨_, rfl, y, _, dx, fs, _, rfl, e1.ins hy, T.cl_Valley, T.no_Valley_villages, hf, _, rfl, l, p, d.now, _, rfl, hV.ext e1, W, h1, by have := beyond_len d.now v u; omega, fun x hx => beyond_mem hx, fun H2 e2 => ?_⟩
      refine ⟨_, rfl, p, _, rfl, e2.lst h1, sorted_filter, fun x hx => by have := beyond_mem hx; omega, szl, fun q hq => ?_⟩
      exact tell k hd (e1.trans e2) (a := ⟨((Km457.branch d.now v u : Nat) : Int), [Km457.bits (Km457.beyond d.now v u)]⟩) act0 rfl hq

/-! ### va_toward -/
theorem ok_va_toward (T : Tx K mg t) {c Pt : Addr} (M : LamH t ts base mg c Pt) : FnOk P w K mg base CX0 10 t.f_va_toward t.g_va_toward ["valley", "numbers"] (sp_va t ts 1 1 false fun ns => .toward (ns.getD 0 0)) := by
  refine T.d_va_toward.F.ok sc_va_toward (fun vs H Q E h => ?_) (fun cdv A outer s H vs Q E hr h => ?_)
  · obtain ⟨y, n, d, ns, rfl, _⟩ := h
    rfl
  · obtain ⟨y, n, d, ns, rfl, hd, hn, hlen, hD, hvs, hT, k⟩ := h
    obtain ⟨v, rfl⟩ := len1 hlen
    have W := (hD rfl).now
    have hle := W.le
    have hv : v < d.now.length := hvs v (by simp)
    have nd := sc_va_toward.nd
    refine ⟨_, pss_cons (ps_set (i := 2) nd rfl (Or.inl rfl) (pe_call (ok_way_to_half (ts := ts) T M) hr rfl T.d_way_to_half.m T.d_way_to_half.F.kp T.d_way_to_half.b .nil pass0 (pa_cons (pe_fld (pv 0) rfl) (pa_cons (pe_ix ix_list (pv 1) pe_int (fun _ _ => rfl)) pa_nil))))
      (pss_one (ps_ret (pe_op op_cat (pe_lst (pa_cons (pe_op op_sub (pe_callB call_len_seq rfl T.bl_len PySem.boot_len (pa_cons (pv 2) pa_nil)) pe_int) pa_nil)) (pe_call (ok_row (ts := ts) T) (hr.mono (by decide)) rfl T.d_row.m T.d_row.F.kp T.d_row.b .nil pass0 (pa_cons (pv 2) pa_nil))))), ?_⟩
    obtain ⟨dx, fs, l, hy, hf, hV, hb, hc⟩ := hd.obj (WFne W)
    refine ⟨_, rfl, y, _, dx, fs, _, rfl, hy, T.cl_Valley, T.no_Valley_villages, hf, _, rfl, n, _, _, _, rfl, rfl, SqL.of hn, atI_nat (j := 0) rfl, l, d.now, v, rfl, hV, W, hv, hT, fun H1 p e1 hp h1 => ?_⟩
    have hlen := toward_len W hv
    refine ⟨_, rfl, p, _, rfl, .inl (SqL.of h1), _, _, rfl, rfl, szl, fun q hq => ?_⟩
    have e2 := e1.trans (Ext.new (ts := ts) (o := .lst [.int (((nts (Km457.toward d.now v)).length : Int) - 1)]) hq)
    refine ⟨_, rfl, p, _, rfl, (Ext.new (ts := ts) hq).lst h1, by omega, fun H4 r e4 hr4 h4 => ?_⟩
    have hp4 := e4.lst (upd_same (H := H1) (a := q) (o := .lst [.int (((nts (Km457.toward d.now v)).length : Int) - 1)]))
    refine ⟨q, r, _, _, rfl, rfl, hp4, h4, sl (by simp [Km457.fill]; omega), fun z hz => ?_⟩
    refine tell (c := .toward v) k hd (e2.trans e4) (a := ⟨(((Km457.toward d.now v).length - 1 : Nat) : Int), Km457.fill 12 ((Km457.toward d.now v).map fun x => x + 1)⟩) (congrArg (Prod.mk d) (if_neg (by omega))) ?_ hz
    rw [← pad_told]
    have hpos : 0 < (Km457.toward d.now v).length := by rw [toward_go W hv, toward_step]; simp
    have : ((nts (Km457.toward d.now v)).length : Int) - 1 = (((Km457.toward d.now v).length - 1 : Nat) : Int) := by rw [List.length_map]; omega
    rw [this]
    rfl
end Sp

end
section
set_option Elab.async false
set_option linter.all false
set_option maxRecDepth 100000
set_option maxHeartbeats 2000000
namespace Mt
open Km457
section
variable {s : Valley}
/-! ### as far as back -/
theorem line_desc (W : WF s) : ∀ v, v < s.length → (line s v).Pairwise (· > ·) := by
  refine down W ?_ fun v h0 hv ih => ?_
  · rw [line_zero W]; simp
  · rw [line_succ W h0 hv]
    have hu := W.up v h0 hv
    exact List.pairwise_cons.mpr ⟨fun x hx => by have := line_le W _ (by omega) x hx; show x < v; omega, ih⟩
theorem find_most {p : Nat → Bool} : ∀ {l : List Nat}, l.Pairwise (· > ·) → ∀ {m : Nat}, l.find? p = some m → ∀ x ∈ l, p x = true → x ≤ m
  | [], _, _, h, _, _, _ => by cases h
  | a :: l, hs, m, h, x, hx, hp => by
    have hs' := List.pairwise_cons.mp hs
    rw [List.find?_cons] at h
    cases e : p a with
    | true =>
      rw [e] at h
      have : a = m := Option.some.inj h
      subst this
      rcases List.mem_cons.mp hx with q | q
      · omega
      · have := hs'.1 x q; omega
    | false =>
      rw [e] at h
      rcases List.mem_cons.mp hx with q | q
      · subst q; rw [e] at hp; cases hp
      · exact find_most hs'.2 h x q hp
theorem meet_most (W : WF s) {v w x : Nat} (hv : v < s.length) (hw : w < s.length) (h1 : x ∈ line s v) (h2 : x ∈ line s w) : x ≤ meet s v w := by
  unfold meet
  cases e : (line s v).find? fun x => (line s w).contains x with
  | none =>
    have h := List.find?_eq_none.mp e x h1
    simp [h2] at h
  | some m => exact find_most (line_desc W v hv) e x h1 (by simpa using h2)
theorem meet_comm (W : WF s) {v w : Nat} (hv : v < s.length) (hw : w < s.length) : meet s v w = meet s w v := by
  obtain ⟨a, b⟩ := meet_mem W hv hw
  obtain ⟨c, d⟩ := meet_mem W hw hv
  have := meet_most W hw hv b a
  have := meet_most W hv hw d c
  omega
theorem far_comm (W : WF s) {v w : Nat} (hv : v < s.length) (hw : w < s.length) : far s v w = far s w v := by
  unfold far
  rw [meet_comm W hv hw, Nat.add_comm]
end
end Mt
namespace Sp
open PySem PySem.Spec PyProof.Rows L2 Mt
variable {P : Program} {w : World} {K : PySem.W.Frag} {mg : Str → Option Value} {base : Heap} {t : Ad} {ts : List TabI}

/-! ### va_two -/
theorem best2_mem {s : Km457.Valley} {p : Nat × Nat} (h : Km457.best2 s = some p) : p.1 < s.length ∧ p.2 < s.length := by
  rw [best2_eq] at h
  refine pairs_mem (n := s.length) ?_
  cases e : Km457.pairs s.length with
  | nil => rw [e] at h; cases h
  | cons a l =>
    rw [e, List.foldl_cons] at h
    obtain ⟨z, e2, r⟩ := pick2_some (fun p => Km457.ways2 s p.1 p.2) l a
    have h : l.foldl (pick2 fun p => Km457.ways2 s p.1 p.2) (some a) = some p := h
    rw [e2] at h
    have e3 := Option.some.inj h
    subst e3
    rcases r with r | r
    · exact r ▸ List.mem_cons_self ..
    · exact List.mem_cons_of_mem _ r
theorem ok_va_two (T : Tx K mg t) {c Pt : Addr} (M : LamB t ts base mg c Pt) : FnOk P w K mg base CX0 6 t.f_va_two t.g_va_two ["valley", "numbers"] (sp_va t ts 0 0 false fun _ => .two) := by
  refine T.d_va_two.F.ok sc_va_two (fun vs H Q E h => ?_) (fun cdv A outer s H vs Q E hr h => ?_)
  · obtain ⟨y, n, d, ns, rfl, _⟩ := h
    rfl
  · obtain ⟨y, n, d, ns, rfl, hd, hn, hlen, hD, hvs, hT, k⟩ := h
    have W := (hD rfl).now
    obtain ⟨x1, m1⟩ := T.k_ALONE
    have nd := sc_va_two.nd
    refine ⟨_, pss_cons (ps_set (i := 2) nd rfl (Or.inl rfl) (pe_call (ok_best_two (ts := ts) T M) hr rfl T.d_best_two.m T.d_best_two.F.kp T.d_best_two.b .nil pass0 (pa_cons (pe_fld (pv 0) rfl) pa_nil)))
      (pss_cons (ps_if (pt_cmp (pc_isN (pv 2))) (pss_one (ps_ret (pe_lst (pa_cons (pe_glob (v := .int (-6)) rfl m1 ⟨x1, rfl⟩) pa_nil)))) pss_nil)
      (pss_one (ps_ret (pe_lst (pa_cons (pe_call (ok_ways_to_either (ts := ts) T) (hr.mono (by decide)) rfl T.d_ways_to_either.m T.d_ways_to_either.F.kp T.d_ways_to_either.b .nil pass0 (pa_cons (pe_fld (pv 0) rfl) (pa_cons (pe_ix ix_tup (pv 2) pe_int (fun _ _ => rfl)) (pa_cons (pe_ix ix_tup (pv 2) pe_int (fun _ _ => rfl)) pa_nil))))
        (pa_cons (pe_ix ix_tup (pv 2) pe_int (fun _ _ => rfl)) (pa_cons (pe_ix ix_tup (pv 2) pe_int (fun _ _ => rfl)) pa_nil))))))), ?_⟩
    obtain ⟨dx, fs, l, hy, hf, hV, hb, hc⟩ := hd.obj (WFne W)
    have act0 : Km457.act d .two = (d, match Km457.best2 d.now with | none => Km457.only (-6) | some p => ⟨((Km457.ways2 d.now p.1 p.2 : Nat) : Int), [p.1, p.2]⟩) := rfl
    refine ⟨_, rfl, y, _, dx, fs, _, rfl, hy, T.cl_Valley, T.no_Valley_villages, hf, l, d.now, rfl, hV, W, hT, fun H1 e1 hb => ?_, fun H1 b p e1 hb h1 => ?_⟩
    · rw [hb] at act0
      refine ⟨_, rfl, _, rfl, iteT ⟨szl, fun p hp => ?_⟩⟩
      exact tell k hd e1 (a := Km457.only (-6)) act0 rfl hp
    · rw [hb] at act0
      obtain ⟨hp1, hp2⟩ := best2_mem hb
      refine ⟨_, rfl, _, rfl, iteF ?_⟩
      refine ⟨_, rfl, y, _, dx, fs, _, rfl, e1.ins hy, T.cl_Valley, T.no_Valley_villages, hf, ?_⟩
      refine ⟨_, rfl, b, _, _, _, rfl, rfl, SqT.of h1, atI_nat (j := 0) rfl, _, rfl, b, _, _, _, rfl, rfl, SqT.of h1, atI_nat (j := 1) rfl, l, d.now, p.1, p.2, rfl, hV.ext e1, W, hp1, hp2, fun H2 e2 => ?_⟩
      have h2 := e2.same _ _ rfl h1
      refine ⟨_, rfl, b, _, _, _, rfl, rfl, SqT.of h2, atI_nat (j := 0) rfl, _, rfl, b, _, _, _, rfl, rfl, SqT.of h2, atI_nat (j := 1) rfl, szl, fun q hq => ?_⟩
      exact tell k hd (e1.trans e2) (a := ⟨((Km457.ways2 d.now p.1 p.2 : Nat) : Int), [p.1, p.2]⟩) act0 rfl hq

/-! ### va_both -/
theorem ok_va_both (T : Tx K mg t) : FnOk P w K mg base CX0 4 t.f_va_both t.g_va_both ["valley", "numbers"] (sp_va t ts 2 2 false fun ns => .ways2 (ns.getD 0 0) (ns.getD 1 0)) := by
  refine T.d_va_both.F.ok sc_va_both (fun vs H Q E h => ?_) (fun cdv A outer s H vs Q E hr h => ?_)
  · obtain ⟨y, n, d, ns, rfl, _⟩ := h
    rfl
  · obtain ⟨y, n, d, ns, rfl, hd, hn, hlen, hD, hvs, hT, k⟩ := h
    obtain ⟨v, u, rfl⟩ := len2 hlen
    have W := (hD rfl).now
    have hv : v < d.now.length := hvs v (by simp)
    have hu : u < d.now.length := hvs u (by simp)
    refine ⟨_, pss_one (ps_ret (pe_lst (pa_cons (pe_call (ok_ways_to_either (ts := ts) T) hr rfl T.d_ways_to_either.m T.d_ways_to_either.F.kp T.d_ways_to_either.b .nil pass0 (pa_cons (pe_fld (pv 0) rfl) (pa_cons (pe_ix ix_list (pv 1) pe_int (fun _ _ => rfl)) (pa_cons (pe_ix ix_list (pv 1) pe_int (fun _ _ => rfl)) pa_nil)))) pa_nil))), ?_⟩
    obtain ⟨dx, fs, l, hy, hf, hV, hb, hc⟩ := hd.obj (WFne W)
    refine ⟨_, rfl, y, _, dx, fs, _, rfl, hy, T.cl_Valley, T.no_Valley_villages, hf, ?_⟩
    refine ⟨_, rfl, n, _, _, _, rfl, rfl, SqL.of hn, atI_nat (j := 0) rfl, _, rfl, n, _, _, _, rfl, rfl, SqL.of hn, atI_nat (j := 1) rfl, l, d.now, v, u, rfl, hV, W, hv, hu, fun H1 e1 => ⟨szl, fun q hq => ?_⟩⟩
    exact tell (c := .ways2 v u) k hd e1 (a := Km457.only ((Km457.ways2 d.now v u : Nat) : Int)) (congrArg (Prod.mk d) (if_neg (by omega))) rfl hq

/-! ### va_farthest -/
theorem ok_va_farthest (T : Tx K mg t) : FnOk P w K mg base CX0 4 t.f_va_farthest t.g_va_farthest ["valley", "numbers"] (sp_va t ts 1 1 false fun ns => .farthest (ns.getD 0 0)) := by
  refine T.d_va_farthest.F.ok sc_va_farthest (fun vs H Q E h => ?_) (fun cdv A outer s H vs Q E hr h => ?_)
  · obtain ⟨y, n, d, ns, rfl, _⟩ := h
    rfl
  · obtain ⟨y, n, d, ns, rfl, hd, hn, hlen, hD, hvs, hT, k⟩ := h
    obtain ⟨v, rfl⟩ := len1 hlen
    have W := (hD rfl).now
    have hv : v < d.now.length := hvs v (by simp)
    have nd := sc_va_farthest.nd
    refine ⟨_, pss_cons (ps_set (i := 2) nd rfl (Or.inl rfl) (pe_ix ix_list (pv 1) pe_int (fun _ _ => rfl)))
      (pss_cons (ps_set (i := 3) nd rfl (Or.inl rfl) (pe_call (ok_farthest (ts := ts) T) hr rfl T.d_farthest.m T.d_farthest.F.kp T.d_farthest.b .nil pass0 (pa_cons (pe_fld (pv 0) rfl) (pa_cons (pv 2) pa_nil))))
      (pss_one (ps_ret (pe_lst (pa_cons (pv 3) (pa_cons (pe_ix ix_list (pe_call (ok_distances (ts := ts) T) (hr.mono (by decide)) rfl T.d_distances.m T.d_distances.F.kp T.d_distances.b .nil pass0 (pa_cons (pe_fld (pv 0) rfl) (pa_cons (pv 2) pa_nil))) (pv 3) (fun _ _ => rfl)) pa_nil)))))), ?_⟩
    obtain ⟨dx, fs, l, hy, hf, hV, hb, hc⟩ := hd.obj (WFne W)
    refine ⟨_, rfl, n, _, _, _, rfl, rfl, SqL.of hn, atI_nat (j := 0) rfl, ?_⟩
    refine ⟨_, rfl, y, _, dx, fs, _, rfl, hy, T.cl_Valley, T.no_Valley_villages, hf, _, rfl, l, d.now, v, rfl, hV, W, hv, fun H1 e1 hw => ?_⟩
    refine ⟨_, rfl, _, rfl, y, _, dx, fs, _, rfl, e1.ins hy, T.cl_Valley, T.no_Valley_villages, hf, _, rfl, l, d.now, v, rfl, hV.ext e1, W, hv, fun H2 p e2 hp h2 => ?_⟩
    refine ⟨_, rfl, p, _, _, _, rfl, rfl, SqL.of h2, atI_nat (nts_all _ hw), szl, fun q hq => ?_⟩
    exact tell (c := .farthest v) k hd (e1.trans e2) (a := ⟨((far1 d.now v : Nat) : Int), [Km457.far d.now v (far1 d.now v)]⟩) (congrArg (Prod.mk d) (if_neg (by omega))) rfl hq

/-! ### va_nearer -/
theorem ok_va_nearer (T : Tx K mg t) : FnOk P w K mg base CX0 3 t.f_va_nearer t.g_va_nearer ["valley", "numbers"] (sp_va t ts 3 3 false fun ns => .nearest (ns.getD 0 0) (ns.getD 1 0) (ns.getD 2 0)) := by
  refine T.d_va_nearer.F.ok sc_va_nearer (fun vs H Q E h => ?_) (fun cdv A outer s H vs Q E hr h => ?_)
  · obtain ⟨y, n, d, ns, rfl, _⟩ := h
    rfl
  · obtain ⟨y, n, d, ns, rfl, hd, hn, hlen, hD, hvs, hT, k⟩ := h
    obtain ⟨v, u, x, rfl⟩ := len3 hlen
    have W := (hD rfl).now
    have hv : v < d.now.length := hvs v (by simp)
    have hu : u < d.now.length := hvs u (by simp)
    have hx : x < d.now.length := hvs x (by simp)
    have nd := sc_va_nearer.nd
    refine ⟨_, pss_cons (ps_set (i := 2) nd rfl (Or.inl rfl) (pe_call (ok_distances (ts := ts) T) hr rfl T.d_distances.m T.d_distances.F.kp T.d_distances.b .nil pass0 (pa_cons (pe_fld (pv 0) rfl) (pa_cons (pe_ix ix_list (pv 1) pe_int (fun _ _ => rfl)) pa_nil))))
      (pss_one (ps_ret (pe_lst (pa_cons (pe_ifExp (pt_cmpR op_lt (pe_ix ix_list (pv 2) (pe_ix ix_list (pv 1) pe_int (fun _ _ => rfl)) (fun _ _ => rfl)) (pe_ix ix_list (pv 2) (pe_ix ix_list (pv 1) pe_int (fun _ _ => rfl)) (fun _ _ => rfl)) (nomark _)) pe_int pe_int) pa_nil)))), ?_⟩
    obtain ⟨dx, fs, l, hy, hf, hV, hb, hc⟩ := hd.obj (WFne W)
    refine ⟨_, rfl, y, _, dx, fs, _, rfl, hy, T.cl_Valley, T.no_Valley_villages, hf, _, rfl, n, _, _, _, rfl, rfl, SqL.of hn, atI_nat (j := 2) rfl, l, d.now, x, rfl, hV, W, hx, fun H1 p e1 hp h1 => ?_⟩
    refine ⟨_, rfl, _, rfl, n, _, _, _, rfl, rfl, SqL.of (e1.lst hn), atI_nat (j := 1) rfl, p, _, _, _, rfl, rfl, SqL.of h1, atI_nat (nts_all _ hu), ?_⟩
    refine ⟨_, rfl, _, rfl, n, _, _, _, rfl, rfl, SqL.of (e1.lst hn), atI_nat (j := 0) rfl, p, _, _, _, rfl, rfl, SqL.of h1, atI_nat (nts_all _ hv), _, _, rfl, rfl, _, rfl, ?_⟩
    have act0 : Km457.act d (.nearest v u x) = (d, Km457.only (if Km457.far d.now u x < Km457.far d.now v x then 1 else 0)) := congrArg (Prod.mk d) (if_neg (by omega))
    rw [far_comm W hu hx, far_comm W hv hx] at act0
    by_cases c : Km457.far d.now x u < Km457.far d.now x v
    · rw [decide_eq_true (by omega)]
      refine iteT ⟨szl, fun q hq => ?_⟩
      rw [if_pos c] at act0
      exact tell (c := .nearest v u x) k hd e1 (a := Km457.only 1) act0 rfl hq
    · rw [decide_eq_false (by omega)]
      refine iteF ⟨szl, fun q hq => ?_⟩
      rw [if_neg c] at act0
      exact tell (c := .nearest v u x) k hd e1 (a := Km457.only 0) act0 rfl hq

/-! ### va_line -/
theorem ok_va_line (T : Tx K mg t) : FnOk P w K mg base CX0 3 t.f_va_line t.g_va_line ["valley", "numbers"] (sp_va t ts 1 1 false fun ns => .line (ns.getD 0 0)) := by
  refine T.d_va_line.F.ok sc_va_line (fun vs H Q E h => ?_) (fun cdv A outer s H vs Q E hr h => ?_)
  · obtain ⟨y, n, d, ns, rfl, _⟩ := h
    rfl
  · obtain ⟨y, n, d, ns, rfl, hd, hn, hlen, hD, hvs, hT, k⟩ := h
    obtain ⟨v, rfl⟩ := len1 hlen
    have W := (hD rfl).now
    have hle := W.le
    have hv : v < d.now.length := hvs v (by simp)
    have nd := sc_va_line.nd
    refine ⟨_, pss_cons (ps_set (i := 2) nd rfl (Or.inl rfl) (pe_call (ok_line (ts := ts) T) (hr.mono (by decide)) rfl T.d_line.m T.d_line.F.kp T.d_line.b .nil pass0 (pa_cons (pe_fld (pv 0) rfl) (pa_cons (pe_ix ix_list (pv 1) pe_int (fun _ _ => rfl)) pa_nil))))
      (pss_one (ps_ret (pe_op op_cat (pe_lst (pa_cons (pe_callB call_len_seq rfl T.bl_len PySem.boot_len (pa_cons (pv 2) pa_nil)) pa_nil)) (pe_call (ok_row (ts := ts) T) hr rfl T.d_row.m T.d_row.F.kp T.d_row.b .nil pass0 (pa_cons (pv 2) pa_nil))))), ?_⟩
    obtain ⟨dx, fs, l, hy, hf, hV, hb, hc⟩ := hd.obj (WFne W)
    refine ⟨_, rfl, y, _, dx, fs, _, rfl, hy, T.cl_Valley, T.no_Valley_villages, hf, _, rfl, n, _, _, _, rfl, rfl, SqL.of hn, atI_nat (j := 0) rfl, l, d.now, v, rfl, hV, W, hv, fun H1 p e1 hp h1 => ?_⟩
    have hlen := line_len W v hv
    refine ⟨_, rfl, p, _, rfl, .inl (SqL.of h1), szl, fun q hq => ?_⟩
    have e2 := e1.trans (Ext.new (ts := ts) (o := .lst [.int ((nts (Km457.line d.now v)).length : Int)]) hq)
    refine ⟨_, rfl, p, _, rfl, (Ext.new (ts := ts) hq).lst h1, by omega, fun H4 r e4 hr4 h4 => ?_⟩
    have hp4 := e4.lst (upd_same (H := H1) (a := q) (o := .lst [.int ((nts (Km457.line d.now v)).length : Int)]))
    refine ⟨q, r, _, _, rfl, rfl, hp4, h4, sl (by simp [Km457.fill]; omega), fun z hz => ?_⟩
    refine tell (c := .line v) k hd (e2.trans e4) (a := ⟨((Km457.line d.now v).length : Nat), Km457.fill 12 ((Km457.line d.now v).map fun x => x + 1)⟩) (congrArg (Prod.mk d) (if_neg (by omega))) ?_ hz
    rw [← pad_told, List.length_map]
    rfl

/-! ### va_beside -/
theorem ok_va_beside (T : Tx K mg t) : FnOk P w K mg base CX0 3 t.f_va_beside t.g_va_beside ["valley", "numbers"] (sp_va t ts 1 1 false fun ns => .beside (ns.getD 0 0)) := by
  refine T.d_va_beside.F.ok sc_va_beside (fun vs H Q E h => ?_) (fun cdv A outer s H vs Q E hr h => ?_)
  · obtain ⟨y, n, d, ns, rfl, _⟩ := h
    rfl
  · obtain ⟨y, n, d, ns, rfl, hd, hn, hlen, hD, hvs, hT, k⟩ := h
    obtain ⟨v, rfl⟩ := len1 hlen
    have W := (hD rfl).now
    have hle := W.le
    have hv : v < d.now.length := hvs v (by simp)
    have nd := sc_va_beside.nd
    refine ⟨_, pss_cons (ps_set (i := 2) nd rfl (Or.inl rfl) (pe_call (ok_beside (ts := ts) T) hr rfl T.d_beside.m T.d_beside.F.kp T.d_beside.b .nil pass0 (pa_cons (pe_fld (pv 0) rfl) (pa_cons (pe_ix ix_list (pv 1) pe_int (fun _ _ => rfl)) pa_nil))))
      (pss_one (ps_ret (pe_lst (pa_cons (pe_callB call_len_seq rfl T.bl_len PySem.boot_len (pa_cons (pv 2) pa_nil)) (pa_cons (pe_call (ok_bits (ts := ts) T) (hr.mono (by decide)) rfl T.d_bits.m T.d_bits.F.kp T.d_bits.b .nil pass0 (pa_cons (pv 2) pa_nil)) pa_nil))))), ?_⟩
    obtain ⟨dx, fs, l, hy, hf, hV, hb, hc⟩ := hd.obj (WFne W)
    refine ⟨_, rfl, y, _, dx, fs, _, rfl, hy, T.cl_Valley, T.no_Valley_villages, hf, _, rfl, n, _, _, _, rfl, rfl, SqL.of hn, atI_nat (j := 0) rfl, l, d.now, v, rfl, hV, W, hv, fun H1 p e1 hp h1 => ?_⟩
    refine ⟨_, rfl, p, _, rfl, .inl (SqL.of h1), _, rfl, p, _, rfl, h1, sorted_filter, fun x hx => by have := all_mem.mp (List.mem_filter.mp hx).1; omega, szl, fun q hq => ?_⟩
    refine tell (c := .beside v) k hd e1 (a := ⟨((((Km457.all d.now).filter fun w => Km457.near d.now v w).length : Nat) : Int), [Km457.bits ((Km457.all d.now).filter fun w => Km457.near d.now v w)]⟩) (congrArg (Prod.mk d) (if_neg (by omega))) ?_ hq
    rw [List.length_map]
    rfl

/-! ### va_till -/
theorem ok_va_till (T : Tx K mg t) {c Pt : Addr} (M : LamH t ts base mg c Pt) : FnOk P w K mg base CX0 8 t.f_va_till t.g_va_till ["valley", "numbers"] (sp_va t ts 1 1 false fun ns => .till (ns.getD 0 0)) := by
  refine T.d_va_till.F.ok sc_va_till (fun vs H Q E h => ?_) (fun cdv A outer s H vs Q E hr h => ?_)
  · obtain ⟨y, n, d, ns, rfl, _⟩ := h
    rfl
  · obtain ⟨y, n, d, ns, rfl, hd, hn, hlen, hD, hvs, hT, k⟩ := h
    obtain ⟨v, rfl⟩ := len1 hlen
    have W := (hD rfl).now
    have hv : v < d.now.length := hvs v (by simp)
    refine ⟨_, pss_one (ps_ret (pe_lst (pa_cons (pe_call (ok_over_half (ts := ts) T M) hr rfl T.d_over_half.m T.d_over_half.F.kp T.d_over_half.b .nil pass0 (pa_cons (pe_fld (pv 0) rfl) (pa_cons (pe_ix ix_list (pv 1) pe_int (fun _ _ => rfl)) pa_nil))) pa_nil))), ?_⟩
    obtain ⟨dx, fs, l, hy, hf, hV, hb, hc⟩ := hd.obj (WFne W)
    refine ⟨_, rfl, y, _, dx, fs, _, rfl, hy, T.cl_Valley, T.no_Valley_villages, hf, _, rfl, n, _, _, _, rfl, rfl, SqL.of hn, atI_nat (j := 0) rfl, l, d.now, v, rfl, hV, W, hv, hT, fun H1 e1 => ⟨szl, fun q hq => ?_⟩⟩
    exact tell (c := .till v) k hd e1 (a := Km457.only ((Km457.till d.now v : Nat) : Int)) (congrArg (Prod.mk d) (if_neg (by omega))) rfl hq

/-! ### va_without -/
theorem ok_va_without (T : Tx K mg t) : FnOk P w K mg base CX0 5 t.f_va_without t.g_va_without ["valley", "numbers"] (sp_va t ts 1 1 false fun ns => .without (ns.getD 0 0)) := by
  refine T.d_va_without.F.ok sc_va_without (fun vs H Q E h => ?_) (fun cdv A outer s H vs Q E hr h => ?_)
  · obtain ⟨y, n, d, ns, rfl, _⟩ := h
    rfl
  · obtain ⟨y, n, d, ns, rfl, hd, hn, hlen, hD, hvs, hT, k⟩ := h
    obtain ⟨v, rfl⟩ := len1 hlen
    have W := (hD rfl).now
    have hv : v < d.now.length := hvs v (by simp)
    have nd := sc_va_without.nd
    refine ⟨_, pss_cons (ps_set (i := 2) nd rfl (Or.inl rfl) (pe_call (ok_with_children (ts := ts) T) (hr.mono (by decide)) rfl T.d_with_children.m T.d_with_children.F.kp T.d_with_children.b .nil pass0 (pa_cons (pe_fld (pv 0) rfl) (pa_cons (pe_ix ix_list (pv 1) pe_int (fun _ _ => rfl)) (pa_cons pe_int pa_nil)))))
      (pss_cons (ps_set (i := 3) nd rfl (Or.inl rfl) (pe_call (ok_best_places (ts := ts) T) hr rfl T.d_best_places.m T.d_best_places.F.kp T.d_best_places.b .nil pass0 (pa_cons (pv 2) pa_nil)))
      (pss_one (ps_ret (pe_lst (pa_cons (pe_call (ok_all_ways (ts := ts) T) (hr.mono (by decide)) rfl T.d_all_ways.m T.d_all_ways.F.kp T.d_all_ways.b .nil pass0 (pa_cons (pv 2) (pa_cons (pe_ix ix_list (pv 3) pe_int (fun _ _ => rfl)) pa_nil)))
        (pa_cons (pe_call (ok_bits (ts := ts) T) (hr.mono (by decide)) rfl T.d_bits.m T.d_bits.F.kp T.d_bits.b .nil pass0 (pa_cons (pv 3) pa_nil)) pa_nil)))))), ?_⟩
    obtain ⟨dx, fs, l, hy, hf, hV, hb, hc⟩ := hd.obj (WFne W)
    refine ⟨_, rfl, y, _, dx, fs, _, rfl, hy, T.cl_Valley, T.no_Valley_villages, hf, _, rfl, n, _, _, _, rfl, rfl, SqL.of hn, atI_nat (j := 0) rfl, l, d.now, v, 0, rfl, hV, W.le, hv, fun H0 l0 e0 hl0 hV0 => ?_⟩
    have W0 : WF (d.now.set v { Km457.at_ d.now v with many := 0 }) := wf_many W hv (by omega)
    have act0 : Km457.act d (.without v) = (d, ⟨((Km457.least (d.now.set v { Km457.at_ d.now v with many := 0 }) : Nat) : Int), [Km457.bits (Km457.best (d.now.set v { Km457.at_ d.now v with many := 0 }))]⟩) := congrArg (Prod.mk d) (if_neg (by omega))
    generalize d.now.set v { Km457.at_ d.now v with many := 0 } = s0 at hV0 W0 act0
    refine ⟨_, rfl, l0, s0, rfl, hV0, W0, fun H1 p e1 hp h1 => ?_⟩
    obtain ⟨v1, r, hb1, hv1, hw⟩ := best_is W0
    refine ⟨_, rfl, _, rfl, p, _, _, _, rfl, rfl, SqL.of h1, atI_nat (j := 0) (v := .int (v1 : Int)) (by rw [hb1]; rfl), l0, s0, v1, rfl, hV0.ext e1, W0, hv1, fun H2 e2 => ?_⟩
    refine ⟨_, rfl, p, _, rfl, e2.lst h1, best_sorted _, best_lt W0, szl, fun q hq => ?_⟩
    refine tell k hd ((e0.trans e1).trans e2) (a := ⟨((Km457.least s0 : Nat) : Int), [Km457.bits (Km457.best s0)]⟩) act0 ?_ hq
    rw [hw]
    rfl

/-! ### va_look -/
theorem ok_va_look (T : Tx K mg t) : FnOk P w K mg base CX0 1 t.f_va_look t.g_va_look ["valley", "numbers"] (sp_va t ts 1 1 false fun ns => .look (ns.getD 0 0)) := by
  refine T.d_va_look.F.ok sc_va_look (fun vs H Q E h => ?_) (fun cdv A outer s H vs Q E hr h => ?_)
  · obtain ⟨y, n, d, ns, rfl, _⟩ := h
    rfl
  · obtain ⟨y, n, d, ns, rfl, hd, hn, hlen, hD, hvs, hT, k⟩ := h
    obtain ⟨v, rfl⟩ := len1 hlen
    have W := (hD rfl).now
    have hv : v < d.now.length := hvs v (by simp)
    have nd := sc_va_look.nd
    refine ⟨_, pss_cons (ps_set (i := 2) nd rfl (Or.inl rfl) (pe_ix ix_list (pe_fld (pv 0) rfl) (pe_ix ix_list (pv 1) pe_int (fun _ _ => rfl)) (fun _ _ => rfl)))
      (pss_one (ps_ret (pe_lst (pa_cons (pe_fld (pv 2) rfl) (pa_cons (pe_fld (pv 2) rfl) (pa_cons (pe_fld (pv 2) rfl) pa_nil)))))), ?_⟩
    obtain ⟨dx, fs, l, hy, hf, hV, hb, hc⟩ := hd.obj (WFne W)
    obtain ⟨xs, b, db, g1, g2, g3, g4⟩ := hV.at hv
    refine ⟨_, rfl, y, _, dx, fs, _, rfl, hy, T.cl_Valley, T.no_Valley_villages, hf, _, rfl, n, _, _, _, rfl, rfl, SqL.of hn, atI_nat (j := 0) rfl, l, _, _, _, rfl, rfl, SqL.of g1, atI_nat g3, ?_⟩
    refine ⟨_, rfl, b, _, db, _, _, rfl, g4, T.cl_Village, T.no_Village_children, vf_children, ?_⟩
    refine ⟨_, rfl, b, _, db, _, _, rfl, g4, T.cl_Village, T.no_Village_up, vf_up, ?_⟩
    refine ⟨_, rfl, b, _, db, _, _, rfl, g4, T.cl_Village, T.no_Village_road, vf_road, szl, fun q hq => ?_⟩
    exact tell (c := .look v) k hd (Ext.refl H) (a := ⟨(((Km457.at_ d.now v).many : Nat) : Int), [(Km457.at_ d.now v).up, (Km457.at_ d.now v).long]⟩) (congrArg (Prod.mk d) (if_neg (by omega))) rfl hq

/-! ### va_sums -/
theorem ok_va_sums (T : Tx K mg t) : FnOk P w K mg base CX0 2 t.f_va_sums t.g_va_sums ["valley", "numbers"] (sp_va t ts 0 0 false fun _ => .sums) := by
  refine T.d_va_sums.F.ok sc_va_sums (fun vs H Q E h => ?_) (fun cdv A outer s H vs Q E hr h => ?_)
  · obtain ⟨y, n, d, ns, rfl, _⟩ := h
    rfl
  · obtain ⟨y, n, d, ns, rfl, hd, hn, hlen, hD, hvs, hT, k⟩ := h
    have W := (hD rfl).now
    refine ⟨_, pss_one (ps_ret (pe_lst (pa_cons (pe_call (ok_all_children (ts := ts) T) hr rfl T.d_all_children.m T.d_all_children.F.kp T.d_all_children.b .nil pass0 (pa_cons (pe_fld (pv 0) rfl) pa_nil))
      (pa_cons (pe_call (ok_all_roads (ts := ts) T) hr rfl T.d_all_roads.m T.d_all_roads.F.kp T.d_all_roads.b .nil pass0 (pa_cons (pe_fld (pv 0) rfl) pa_nil)) pa_nil)))), ?_⟩
    obtain ⟨dx, fs, l, hy, hf, hV, hb, hc⟩ := hd.obj (WFne W)
    refine ⟨_, rfl, y, _, dx, fs, _, rfl, hy, T.cl_Valley, T.no_Valley_villages, hf, l, d.now, rfl, hV, W, fun H1 e1 => ?_⟩
    refine ⟨_, rfl, y, _, dx, fs, _, rfl, e1.ins hy, T.cl_Valley, T.no_Valley_villages, hf, l, d.now, rfl, hV.ext e1, W, fun H2 e2 => ⟨szl, fun q hq => ?_⟩⟩
    exact tell (c := .sums) k hd (e1.trans e2) (a := ⟨((Km457.total d.now : Nat) : Int), [Km457.sum (d.now.map fun x => x.long)]⟩) rfl rfl hq

/-! ### va_back, va_again, va_state -/
theorem rlen (es : List Addr) : (es.reverse.map V.ref).length = es.length := by rw [List.length_map, List.length_reverse]
theorem ok_va_back (T : Tx K mg t) (D : Two t) : FnOk P w K mg base CX0 2 t.f_va_back t.g_va_back ["valley", "numbers"] (sp_va t ts 0 0 false fun _ => .back) := by
  refine T.d_va_back.F.ok sc_va_back (fun vs H Q E h => ?_) (fun cdv A outer s H vs Q E hr h => ?_)
  · obtain ⟨y, n, d, ns, rfl, _⟩ := h
    rfl
  · obtain ⟨y, n, d, ns, rfl, hd, hn, hlen, hD, hvs, hT, k⟩ := h
    obtain ⟨x1, m1⟩ := T.k_NO_CHANGE
    refine ⟨_, pss_cons (ps_if (pt_cmpR op_eq (pe_callB call_len_seq rfl T.bl_len PySem.boot_len (pa_cons (pe_fld (pv 0) rfl) pa_nil)) pe_int (nomark _)) (pss_one (ps_ret (pe_lst (pa_cons (pe_glob (v := .int (-2)) rfl m1 ⟨x1, rfl⟩) pa_nil)))) pss_nil)
      (pss_cons (ps_expr (pe_meth0 (pv 0) T.cl_Valley T.me_Valley_take_back (ok_Valley_take_back (ts := ts) T D) hr T.b_Valley_take_back .nil pass0))
      (pss_one (ps_ret (pe_lst (pa_cons (pe_callB call_len_seq rfl T.bl_len PySem.boot_len (pa_cons (pe_fld (pv 0) rfl) pa_nil)) pa_nil))))), ?_⟩
    obtain ⟨dx, l, e, f, es, fs, S⟩ := id hd
    refine ⟨_, rfl, y, _, dx, _, _, rfl, S.obj, T.cl_Valley, T.no_Valley_earlier, rfl, e, _, rfl, .inl (SqL.of S.ear), rfl, _, rfl, ?_⟩
    have elen : decide (V.int ((es.reverse.map V.ref).length : Int) = V.int 0) = decide (d.past.length = 0) := by
      rw [rlen, S.past.1]
      exact dec_nat (b := 0)
    rw [elen]
    have act0 : Km457.act d .back = match d.past with | [] => (d, Km457.only (-2)) | k :: r => (⟨k, r, d.now :: d.future⟩, Km457.only ((r.length : Nat) : Int)) := rfl
    cases hp : d.past with
    | nil =>
      rw [hp] at act0
      refine iteT ⟨szl, fun p hp => ?_⟩
      exact tell (c := .back) k hd (Ext.refl H) (a := Km457.only (-2)) act0 rfl hp
    | cons b r =>
      rw [hp] at act0
      refine iteF ⟨_, rfl, y, dx, _, rfl, S.obj, rfl, ?_⟩
      refine ⟨y, d, b, r, rfl, hd, hD rfl, hp, fun H3 st hD3 => ?_⟩
      obtain ⟨dx', l', e', f', es', fs', S'⟩ := id hD3
      refine ⟨_, rfl, y, _, dx', _, _, rfl, S'.obj, T.cl_Valley, T.no_Valley_earlier, rfl, e', _, rfl, .inl (SqL.of S'.ear), szl, fun q hq => ?_⟩
      refine tellC (c := .back) k st hD3 (a := Km457.only ((r.length : Nat) : Int)) act0 ?_ hq
      rw [rlen, S'.past.1]
      rfl
theorem ok_va_again (T : Tx K mg t) (D : Two t) : FnOk P w K mg base CX0 2 t.f_va_again t.g_va_again ["valley", "numbers"] (sp_va t ts 0 0 false fun _ => .again) := by
  refine T.d_va_again.F.ok sc_va_again (fun vs H Q E h => ?_) (fun cdv A outer s H vs Q E hr h => ?_)
  · obtain ⟨y, n, d, ns, rfl, _⟩ := h
    rfl
  · obtain ⟨y, n, d, ns, rfl, hd, hn, hlen, hD, hvs, hT, k⟩ := h
    obtain ⟨x1, m1⟩ := T.k_NO_CHANGE
    refine ⟨_, pss_cons (ps_if (pt_cmpR op_eq (pe_callB call_len_seq rfl T.bl_len PySem.boot_len (pa_cons (pe_fld (pv 0) rfl) pa_nil)) pe_int (nomark _)) (pss_one (ps_ret (pe_lst (pa_cons (pe_glob (v := .int (-2)) rfl m1 ⟨x1, rfl⟩) pa_nil)))) pss_nil)
      (pss_cons (ps_expr (pe_meth0 (pv 0) T.cl_Valley T.me_Valley_do_again (ok_Valley_do_again (ts := ts) T D) hr T.b_Valley_do_again .nil pass0))
      (pss_one (ps_ret (pe_lst (pa_cons (pe_callB call_len_seq rfl T.bl_len PySem.boot_len (pa_cons (pe_fld (pv 0) rfl) pa_nil)) pa_nil))))), ?_⟩
    obtain ⟨dx, l, e, f, es, fs, S⟩ := id hd
    refine ⟨_, rfl, y, _, dx, _, _, rfl, S.obj, T.cl_Valley, T.no_Valley_later, rfl, f, _, rfl, .inl (SqL.of S.lat), rfl, _, rfl, ?_⟩
    have elen : decide (V.int ((fs.reverse.map V.ref).length : Int) = V.int 0) = decide (d.future.length = 0) := by
      rw [rlen, S.fut.1]
      exact dec_nat (b := 0)
    rw [elen]
    have act0 : Km457.act d .again = match d.future with | [] => (d, Km457.only (-2)) | k :: r => (⟨k, (d.now :: d.past).take Km457.PAST, r⟩, Km457.only ((r.length : Nat) : Int)) := rfl
    cases hp : d.future with
    | nil =>
      rw [hp] at act0
      refine iteT ⟨szl, fun p hp => ?_⟩
      exact tell (c := .again) k hd (Ext.refl H) (a := Km457.only (-2)) act0 rfl hp
    | cons b r =>
      rw [hp] at act0
      refine iteF ⟨_, rfl, y, dx, _, rfl, S.obj, rfl, ?_⟩
      refine ⟨y, d, b, r, rfl, hd, hD rfl, hp, fun H3 st hD3 => ?_⟩
      obtain ⟨dx', l', e', f', es', fs', S'⟩ := id hD3
      refine ⟨_, rfl, y, _, dx', _, _, rfl, S'.obj, T.cl_Valley, T.no_Valley_later, rfl, f', _, rfl, .inl (SqL.of S'.lat), szl, fun q hq => ?_⟩
      refine tellC (c := .again) k st hD3 (a := Km457.only ((r.length : Nat) : Int)) act0 ?_ hq
      rw [rlen, S'.fut.1]
      rfl
theorem ok_va_state (T : Tx K mg t) : FnOk P w K mg base CX0 1 t.f_va_state t.g_va_state ["valley", "numbers"] (sp_va t ts 0 0 false fun _ => .state) := by
  refine T.d_va_state.F.ok sc_va_state (fun vs H Q E h => ?_) (fun cdv A outer s H vs Q E hr h => ?_)
  · obtain ⟨y, n, d, ns, rfl, _⟩ := h
    rfl
  · obtain ⟨y, n, d, ns, rfl, hd, hn, hlen, hD, hvs, hT, k⟩ := h
    have W := (hD rfl).now
    refine ⟨_, pss_one (ps_ret (pe_lst (pa_cons (pe_callB call_len_seq rfl T.bl_len PySem.boot_len (pa_cons (pe_fld (pv 0) rfl) pa_nil)) (pa_cons (pe_callB call_len_seq rfl T.bl_len PySem.boot_len (pa_cons (pe_fld (pv 0) rfl) pa_nil)) (pa_cons (pe_callB call_len_seq rfl T.bl_len PySem.boot_len (pa_cons (pe_fld (pv 0) rfl) pa_nil)) pa_nil))))), ?_⟩
    obtain ⟨dx, l, e, f, es, fs, S⟩ := id hd
    obtain ⟨xs, g1, g2⟩ := (S.now.resolve_left (WFne W)).lst
    refine ⟨_, rfl, y, _, dx, _, _, rfl, S.obj, T.cl_Valley, T.no_Valley_villages, rfl, l, _, rfl, .inl (SqL.of g1), ?_⟩
    refine ⟨_, rfl, y, _, dx, _, _, rfl, S.obj, T.cl_Valley, T.no_Valley_earlier, rfl, e, _, rfl, .inl (SqL.of S.ear), ?_⟩
    refine ⟨_, rfl, y, _, dx, _, _, rfl, S.obj, T.cl_Valley, T.no_Valley_later, rfl, f, _, rfl, .inl (SqL.of S.lat), szl, fun q hq => ?_⟩
    refine tell (c := .state) k hd (Ext.refl H) (a := ⟨((d.now.length : Nat) : Int), [d.past.length, d.future.length]⟩) rfl ?_ hq
    rw [rlen, rlen, S.past.1, S.fut.1, g2]
    rfl
end Sp

end
section
set_option Elab.async false
set_option linter.all false
set_option maxRecDepth 100000
set_option maxHeartbeats 2000000
namespace Sp
open PySem PySem.Spec PyProof.Rows L2 Mt
variable {P : Program} {w : World} {K : PySem.W.Frag} {mg : Str → Option Value} {base : Heap} {t : Ad} {ts : List TabI}
/-- f(e, ..), f a local name that holds a def of the text -/
def tCallV (ok : Addr → L2.Sp → Prop) (i : Nat) (ta : TA) : TE := fun σ H Q => ∃ (f : Addr) (sp : L2.Sp), σ[i]? = some (some (.ref f)) ∧ ok f sp ∧ ta σ H fun vs H1 => sp vs H1 Q E0
theorem pe_callV {X : Cx} {x : Str} {i : Nat} {p pos : Pos} {e : Expr} {es : List Expr} {ta : TA} {ok : Addr → L2.Sp → Prop} (hv : PE X (.Name x p) (tVar i))
    (hok : ∀ f sp, ok f sp → ∃ k fd ps, FnOk X.prog X.w X.K X.mg X.base CX0 k f fd ps sp ∧ Room k X.A ∧ PySem.W.keepIn X.K (.ref f) = true ∧ Binds X.K fd ps [])
    (ha : PA X (e :: es) ta) (he : starEach (e :: es) X.env = (false, eval e X.env) :: starEach es X.env := by rfl) (hpl : (backTo pos (starEach es X.env)).any (·.1) = false := by rfl) :
    PE X (.Call (.Name x p) (e :: es) [] pos) (tCallV ok i ta) := by
  intro pins s σ H Q I h
  obtain ⟨f, sp, hσ, hk, h⟩ := h
  obtain ⟨k, fd, ps, F, hr, hkp, hb⟩ := hok f sp hk
  refine wpAny_Call_Name_kw (thn (hv pins s σ H (fun v H' => v = .ref f ∧ H' = H) I ⟨_, hσ, rfl, rfl⟩) fun u s1 ⟨v, H1, I1, r1, e1, e2⟩ => ?_)
  subst e1 e2
  obtain rfl : u = .ref f := r1
  refine PySem.W.callWith_K (h₀ := X.base) I.ok.mod.kin hkp (thn (ha pos pins s1 σ _ _ I1 h) fun us s2 ⟨vs, H2, I2, r, q⟩ => ⟨I2.kIn, ?_⟩) he hpl
  have q : sp (vs ++ []) H2 Q E0 := by rw [List.append_nil]; exact q
  exact run_fn F hr hb .nil pass0 I2 r q

/-! ### the table of calls -/
structure Tab (K : PySem.W.Frag) (t : Ad) (N : Nat) (fO : Nat → Addr) (rows : List Addr) : Prop where
  all : ∀ H, SqT K H t.a_CALLS (rows.map V.ref)
  row : ∀ c, c < N → ∃ r, rows[c]? = some r ∧ ∀ H, SqT K H r [.ref (fO c), .int (ar c : Nat), .int (nv c : Nat)]
abbrev spO (t : Ad) (ts : List TabI) (c : Nat) : L2.Sp := sp_va t ts (ar c) (nv c) (c == 0) (mkc c)
def Fns (P : Program) (w : World) (K : PySem.W.Frag) (mg : Str → Option Value) (base : Heap) (t : Ad) (ts : List TabI) (N : Nat) (fO : Nat → Addr) : Prop :=
  ∀ c, c < N → ∃ k fd, k ≤ 12 ∧ FnOk P w K mg base CX0 k (fO c) fd ["valley", "numbers"] (spO t ts c) ∧ PySem.W.keepIn K (.ref (fO c)) = true ∧ Binds K fd ["valley", "numbers"] []
def sp_answer (t : Ad) (ts : List TabI) (N : Nat) : L2.Sp := fun vs H Q _ => ∃ (y n : Addr) (c : Nat) (d : Km457.Desk) (ns : List Nat), vs = [.ref y, .int (c : Int), .ref n] ∧ c < N ∧ c < 26 ∧ DeskAt t H y d ∧ H n = some (.lst (nts ns)) ∧ ns.length = ar c ∧ ((c == 0) = false → Dk d) ∧ d.now.length ≤ 12 ∧
  (∀ i ∈ ts, TabOk i H) ∧ ∀ (H' : Hp) (p : Addr), Stp ts y H H' → H p = none → H' p = some (.lst (tV (Km457.act d (mkc c ns)).2)) → DeskAt t H' y (Km457.act d (mkc c ns)).1 → Q (.ref p) H'
theorem nts_take (L : List Nat) (k : Nat) : (nts L).take k = nts (L.take k) := by simp
theorem ok_answer (T : Tx K mg t) {N : Nat} {fO : Nat → Addr} {rows : List Addr} (B : Tab K t N fO rows) (F : Fns P w K mg base t ts N fO) : FnOk P w K mg base CX0 13 t.f_answer t.g_answer ["valley", "call", "numbers"] (sp_answer t ts N) := by
  refine T.d_answer.F.ok sc_answer (fun vs H Q E h => ?_) (fun cdv A outer s H vs Q E hr h => ?_)
  · obtain ⟨y, n, c, d, ns, rfl, _⟩ := h
    rfl
  · obtain ⟨y, n, c, d, ns, rfl, hN, h26, hd, hn, hlen, hD, hle, hT, k⟩ := h
    have nd := sc_answer.nd
    obtain ⟨x1, m1⟩ := T.k_NO_VILLAGE
    obtain ⟨r, hr1, hr2⟩ := B.row c hN
    have hrow : atI (rows.map V.ref) (c : Int) = some (.ref r) := atI_nat (by rw [List.getElem?_map, hr1]; rfl)
    refine ⟨_, pss_cons (ps_for PassesOwn.never rfl (pi_list (pe_slice sl_list (pv 2) po_none (po_some (pe_ix ix_tup (pe_ix ix_tup (pe_glob (v := .ref t.a_CALLS) rfl T.m_CALLS rfl) (pv 1) (fun _ _ => rfl)) pe_int (fun _ _ => rfl))))) (pg_name (i := 3) nd rfl (Or.inl rfl))
        (pss_one (ps_if (pt_cmpR op_ge (pv 3) (pe_callB call_len_seq rfl T.bl_len PySem.boot_len (pa_cons (pe_fld (pv 0) rfl) pa_nil)) (nomark _)) (pss_one (ps_ret (pe_lst (pa_cons (pe_glob (v := .int (-2)) rfl m1 ⟨x1, rfl⟩) pa_nil)))) pss_nil)))
      (pss_cons (ps_set (i := 4) nd rfl (Or.inl rfl) (pe_ix ix_tup (pe_ix ix_tup (pe_glob (v := .ref t.a_CALLS) rfl T.m_CALLS rfl) (pv 1) (fun _ _ => rfl)) pe_int (fun _ _ => rfl)))
      (pss_one (ps_ret (pe_callV (i := 4) (ok := fun f sp => f = fO c ∧ sp = spO t ts c) (pv 4) (fun f sp ⟨e1, e2⟩ => by
        obtain ⟨k, fd, hk, G, kp, b⟩ := F c hN
        subst e1 e2
        exact ⟨k, fd, _, G, hr.mono hk, kp, b⟩) (pa_cons (pv 0) (pa_cons (pv 2) pa_nil)))))), ?_⟩
    refine ⟨_, rfl, _, rfl, t.a_CALLS, _, _, _, rfl, rfl, B.all H, hrow, r, _, _, _, rfl, rfl, hr2 H, atI_nat (j := 2) rfl, _, rfl, n, _, rfl, SqL.of hn, fun q hq => ⟨q, rfl, ⟨_, SqL.of upd_same⟩, ?_⟩⟩
    rw [cut_to, nts_take]
    have e1 : Ext ts H (upd H q (.lst (nts (ns.take (nv c))))) := Ext.new hq
    refine for_list (K := K) (a := q) (xs := nts (ns.take (nv c))) (fun i σ' H' => ∃ v3 : Option V, σ' = [some (.ref y), some (.int (c : Int)), some (.ref n), v3, none] ∧ H' = upd H q (.lst (nts (ns.take (nv c)))) ∧ ∀ v ∈ (ns.take (nv c)).take i, v < d.now.length)
      ⟨none, rfl, rfl, fun v hv => by simp at hv⟩ (fun i σ' H' _ ⟨_, _, e, _⟩ => by rw [e]; exact SqL.of upd_same) ?_ ?_
    · rintro i x σ' H' hi ⟨v3, rfl, rfl, hall⟩
      obtain ⟨v, hv, rfl⟩ := nts_at hi
      have hc0 : (c == 0) = false := by
        cases z : c == 0 with
        | false => rfl
        | true =>
          have z : c = 0 := by simpa using z
          subst z
          rw [show ns.take (nv 0) = [] from rfl] at hv
          cases hv
      obtain ⟨dx, fs, l, hy, hf, hV, _, _⟩ := hd.obj (WFne (hD hc0).now)
      obtain ⟨xs, g1, g2⟩ := hV.lst
      refine ⟨_, rfl, _, rfl, y, _, dx, fs, _, rfl, e1.ins hy, T.cl_Valley, T.no_Valley_villages, hf, l, _, rfl, .inl (SqL.of (e1.lst g1)), _, _, rfl, rfl, _, rfl, ?_⟩
      rw [g2]
      by_cases c1 : d.now.length ≤ v
      · rw [decide_eq_true (by omega)]
        refine iteT ⟨one, fun p hp => ?_⟩
        exact tell (c := mkc c ns) k hd e1 (a := Km457.only (-2)) (act_miss h26 hlen (List.mem_of_getElem? hv) c1) rfl hp
      · rw [decide_eq_false (by omega)]
        refine iteF ⟨_, rfl, rfl, fun u hu => ?_⟩
        rw [takeS hv] at hu
        rcases List.mem_append.mp hu with m | m
        · exact hall u m
        · have : u = v := by simpa using m
          omega
    · rintro σ' H' ⟨v3, rfl, rfl, hall⟩
      rw [List.length_map, List.take_length] at hall
      refine ⟨_, rfl, t.a_CALLS, _, _, _, rfl, rfl, B.all _, hrow, r, _, _, _, rfl, rfl, hr2 _, atI_nat (j := 0) rfl, ?_⟩
      refine ⟨fO c, _, rfl, ⟨rfl, rfl⟩, _, rfl, _, rfl, y, n, d, ns, rfl, hd.ext e1, e1.lst hn, hlen, hD, hall, fun i hi => e1.tab i hi (hT i hi), fun H2 p st hp h2 hD2 => ?_⟩
      exact k H2 p ((e1.stp hd.isin).trans st) (e1.has _ hp) h2 hD2
end Sp

end
section
set_option Elab.async false
set_option linter.all false
set_option maxRecDepth 100000
set_option maxHeartbeats 2000000
namespace Sp
open PySem PySem.Spec PyProof.Rows L2 Mt
variable {P : Program} {w : World} {K : PySem.W.Frag} {mg : Str → Option Value} {base : Heap} {t : Ad} {ts : List TabI}
def sp_answers (ts : List TabI) (K : PySem.W.Frag) : L2.Sp := fun vs H Q _ => ∃ (a : Addr) (zs : List Int), vs = [.ref a] ∧ SqL K H a (zs.map V.int) ∧ zs.length ≤ 6000 ∧ (∀ z ∈ zs, 0 ≤ z) ∧ PyKm457.answers_asked zs = true ∧ (∀ i ∈ ts, TabOk i H) ∧
  ∀ (H' : Hp) (p : Addr), H' p = some (.lst ((PyKm457.answers zs).map V.int)) → Q (.ref p) H'
theorem ints_nts {zs : List Int} (h : ∀ z ∈ zs, 0 ≤ z) : zs.map V.int = nts (zs.map Int.toNat) := by
  show _ = (zs.map Int.toNat).map fun (n : Nat) => V.int (n : Int)
  rw [List.map_map]
  refine List.map_congr_left fun z hz => ?_
  show V.int z = V.int (z.toNat : Int)
  rw [Int.toNat_of_nonneg (h z hz)]
/-- what the valley owns is new -/
abbrev New (H H1 : Hp) (y : Addr) : Prop := ∀ b, Own H1 y b → H b = none
theorem Ext.stp2 {H H1 H2 : Hp} {y : Addr} (e : Ext ts H H1) (s : Stp ts y H1 H2) (hy : New H H1 y) : Ext ts H H2 := ⟨fun b o t h => s.same b o (fun z => by rw [hy b z] at h; cases h) t (e.same b o t h), fun b h => e.has b (s.has b h), fun i m h => s.tab i m (e.tab i m h)⟩
theorem New.stp {H H1 H2 : Hp} {y : Addr} (n : New H H1 y) (e : Ext ts H H1) (s : Stp ts y H1 H2) : New H H2 y := fun b z => by
  rcases s.own b z with q | q
  · exact n b q
  · exact e.has b q
theorem own_upd {H : Hp} {y p b : Addr} {o : HO} (hn : y ≠ p) (h : Own (upd H p o) y b) : Own H y b := by
  rcases h with h | ⟨C, dx, fs, q, r⟩
  · exact .inl h
  · rw [upd_ne hn] at q
    exact .inr ⟨C, dx, fs, q, r⟩
theorem cut_mid (xs : List V) (i j : Nat) : cutV xs (some (i : Int)) (some ((i + j : Nat) : Int)) = (xs.drop i).take j := by
  unfold cutV
  rw [HT.sIx_nat, HT.sIx_nat]
  rcases Nat.le_total i xs.length with h | h
  · rw [Nat.min_eq_left h]
    rcases Nat.le_total (i + j) xs.length with h2 | h2
    · rw [Nat.min_eq_left h2, Nat.add_sub_cancel_left]
    · rw [Nat.min_eq_right h2, List.take_of_length_le (by rw [List.length_drop]; omega), List.take_of_length_le (by rw [List.length_drop]; omega)]
  · rw [Nat.min_eq_right h, Nat.min_eq_right (by omega), Nat.sub_self, List.take_zero, List.drop_of_length_le h, List.take_nil]
theorem told_len (a : Km457.Ans) : (tV a).length = (Km457Neutral.told a).length := List.length_map ..
/-- the valley does not stand in the list of what was told -/
theorem vs_told {H : Hp} {l p : Addr} {s : Km457.Valley} {acc : List Int} {o : HO} (hn : s ≠ []) (hV : VsAt t.c_Village H l s) (hp : H p = some (.lst (acc.map V.int))) : VsAt t.c_Village (upd H p o) l s := by
  obtain ⟨as, h1, h2, h3⟩ := hV
  refine ⟨as, ?_, h2, fun i x q => ?_⟩
  · rw [upd_ne fun z => ?_]
    · exact h1
    · rw [z, hp] at h1
      have h4 := HO.lst.inj (Option.some.inj h1)
      cases as with
      | nil => exact hn (List.length_eq_zero_iff.mp h2.symm)
      | cons b r =>
        cases acc with
        | nil => cases h4
        | cons z r2 => cases h4
  · obtain ⟨b, q1, db, q2⟩ := h3 i x q
    exact ⟨b, q1, db, by rw [upd_ne (ne_of q2 hp (by intro q; cases q))]; exact q2⟩
theorem DeskAt.told {H : Hp} {y p : Addr} {d : Km457.Desk} {acc : List Int} {o : HO} (h : DeskAt t H y d) (hp : H p = some (.lst (acc.map V.int))) (no : ¬ Own H y p) : DeskAt t (upd H p o) y d := by
  obtain ⟨dx, l, e, f, es, fs, S⟩ := h
  have hk : ∀ {es : List Addr} {ss : List Km457.Valley}, Kept t H es ss → Kept t (upd H p o) es ss := fun {es ss} k => ⟨k.1, fun i a s q r => let ⟨q1, q2⟩ := k.2 i a s q r; ⟨q1, vs_told q1 q2 hp⟩⟩
  have ep : e ≠ p := fun z => no (.inr ⟨_, _, _, S.obj, .inl (by rw [← z]; rfl)⟩)
  have fp : f ≠ p := fun z => no (.inr ⟨_, _, _, S.obj, .inr (by rw [← z]; rfl)⟩)
  refine ⟨dx, l, e, f, es, fs, by rw [upd_ne (ne_of S.obj hp (by intro q; cases q))]; exact S.obj, S.ne, by rw [upd_ne ep]; exact S.ear, by rw [upd_ne fp]; exact S.lat, hk S.past, hk S.fut, ?_⟩
  by_cases hn : d.now = []
  · exact .inl hn
  · exact .inr (vs_told hn (S.now.resolve_left hn) hp)
theorem ok_answers (T : Tx K mg t) (D : Two t) {fO : Nat → Addr} {rows : List Addr} (B : Tab K t 26 fO rows) (F : Fns P w K mg base t ts 26 fO) : FnOk P w K mg base CX0 14 t.f_answers t.g_answers ["calls"] (sp_answers ts K) := by
  refine T.d_answers.F.ok sc_answers (fun vs H Q E h => ?_) (fun cdv A outer s H vs Q E hr h => ?_)
  · obtain ⟨a, zs, rfl, _⟩ := h
    rfl
  · obtain ⟨a, zs, rfl, hS, hlen, hpos, hask, hT, k⟩ := h
    have nd := sc_answers.nd
    refine ⟨_, pss_cons (ps_set (i := 1) nd rfl (Or.inl rfl) (pe_make0 T.mk_Valley (ok_Valley_init (ts := ts) T D) (hr.mono (by decide)) rfl T.m_Valley T.b_Valley_init .nil pass0))
      (pss_cons (ps_set (i := 2) nd rfl (Or.inl rfl) (pe_lst pa_nil))
      (pss_cons (ps_set (i := 3) nd rfl (Or.inl rfl) pe_int)
      (pss_cons (ps_while PassesOwn.never (pt_cmpR op_lt (pv 3) (pe_callB call_len_seq rfl T.bl_len PySem.boot_len (pa_cons (pv 0) pa_nil)) (nomark _))
        (pss_cons (ps_set (i := 4) nd rfl (Or.inl rfl) (pe_op op_add (pe_op op_add (pv 3) pe_int) (pe_ix ix_tup (pe_ix ix_tup (pe_glob (v := .ref t.a_CALLS) rfl T.m_CALLS rfl) (pe_ix ix_list (pv 0) (pv 3) (fun _ _ => rfl)) (fun _ _ => rfl)) pe_int (fun _ _ => rfl))))
        (pss_cons (ps_set (i := 5) nd rfl (Or.inl rfl) (pe_call (ok_answer (ts := ts) T B F) hr rfl T.d_answer.m T.d_answer.F.kp T.d_answer.b .nil pass0 (pa_cons (pv 1) (pa_cons (pe_ix ix_list (pv 0) (pv 3) (fun _ _ => rfl)) (pa_cons (pe_slice sl_list (pv 0) (po_some (pe_op op_add (pv 3) pe_int)) (po_some (pv 4))) pa_nil)))))
        (pss_cons (ps_expr (pe_bm PySem.F.plainAttrs_list PySem.F.slot_list_append PySem.F.type_list_append mt_append (pv 2) (pa_cons (pe_callB call_len_seq rfl T.bl_len PySem.boot_len (pa_cons (pv 5) pa_nil)) pa_nil)))
        (pss_cons (ps_expr (pe_bm PySem.F.plainAttrs_list PySem.F.slot_list_extend PySem.F.type_list_extend mt_extend (pv 2) (pa_cons (pv 5) pa_nil)))
        (pss_one (ps_set (i := 3) nd rfl (Or.inl rfl) (pv 4))))))))
      (pss_one (ps_ret (pv 2)))))), ?_⟩
    -- valley = Valley()
    intro y dy ny ndy ney
    have e0 : Ext ts H (upd (upd H dy (.own y)) y (.ins t.c_Valley dy [])) := (Ext.new ndy).trans (Ext.new (by rw [upd_ne (Ne.symm ney)]; exact ny))
    refine ⟨y, dy, rfl, upd_same, fun H1 st1 hD1 => ⟨rfl, ?_⟩⟩
    have n0 : New H (upd (upd H dy (.own y)) y (.ins t.c_Valley dy [])) y := fun b z => by
      rcases z with z | ⟨C, dx, fs, q, r⟩
      · rw [z]; exact ny
      · rw [upd_same] at q
        cases q
        rcases r with r | r <;> cases r
    have e1 : Ext ts H H1 := e0.stp2 st1 n0
    have n1 : New H H1 y := n0.stp e0 st1
    -- told = []; at = 0
    refine ⟨Nat.zero_le _, fun p hp => ?_⟩
    have np : H p = none := e1.has _ hp
    have e2 : Ext ts H (upd H1 p (.lst [])) := e1.trans (Ext.new hp)
    have ypne : y ≠ p := by
      obtain ⟨C, dx, fs, q⟩ := hD1.isin
      exact ne_of_none q hp
    have np1 : ¬ Own H1 y p := fun z => by
      rcases hD1.owns z with z | ⟨as, z, _⟩
      · exact ypne z.symm
      · rw [hp] at z; cases z
    refine ⟨fun m σ' H' => ∃ (j : Nat) (st : Option Km457.Desk) (d : Km457.Desk) (acc : List Int) (b4 b5 : Option V), σ' = [some (.ref a), some (.ref y), some (.ref p), some (.int (j : Int)), b4, b5] ∧ zs.length - j = m ∧ j ≤ zs.length ∧ Ext ts H H' ∧ H' p = some (.lst (acc.map V.int)) ∧
      DeskAt t H' y d ∧ New H H' y ∧ ¬ Own H' y p ∧ RelS st d ∧ Rest zs j st acc, ⟨zs.length, 0, none, ⟨[], [], []⟩, [], none, none, rfl, rfl, Nat.zero_le _, e2, by rw [upd_same]; rfl, hD1.ext (ts := ts) (Ext.new hp), fun b z => n1 b (own_upd ypne z), fun z => np1 (own_upd ypne z), rfl, rest_start hask⟩, ?_⟩
    rintro m σ' H' ⟨j, st, d, acc, b4, b5, rfl, hm, hj, e, hacc, hd, hnew, hno, hR, hrest⟩
    have hS' := e.seq hS
    refine ⟨_, rfl, _, rfl, a, _, rfl, .inl hS', _, _, rfl, rfl, _, rfl, ?_⟩
    rw [List.length_map]
    by_cases hjl : j < zs.length
    · rw [decide_eq_true (by omega)]
      refine iteT ?_
      obtain ⟨c, xs, hc, hzc, hxs, hxl, hkl, hDk, st', hR', hrest'⟩ := hrest.next hR hjl
      obtain ⟨r, hr1, hr2⟩ := B.row c hc
      have hrow : atI (rows.map V.ref) (c : Int) = some (.ref r) := atI_nat (by rw [List.getElem?_map, hr1]; rfl)
      have hcall : atI (zs.map V.int) (j : Int) = some (.int (c : Int)) := atI_nat (by rw [List.getElem?_map, hzc]; rfl)
      refine ⟨fun σ2 H2 => ∃ (j : Nat) (st : Option Km457.Desk) (d : Km457.Desk) (acc : List Int) (b4 b5 : Option V), σ2 = [some (.ref a), some (.ref y), some (.ref p), some (.int (j : Int)), b4, b5] ∧ zs.length - j < m ∧ j ≤ zs.length ∧ Ext ts H H2 ∧ H2 p = some (.lst (acc.map V.int)) ∧
        DeskAt t H2 y d ∧ New H H2 y ∧ ¬ Own H2 y p ∧ RelS st d ∧ Rest zs j st acc, fun σ2 H2 ⟨j, st, d, acc, b4, b5, q0, q1, q2⟩ => ⟨zs.length - j, q1, j, st, d, acc, b4, b5, q0, rfl, q2⟩, ?_⟩
      -- behind = at + 1 + CALLS[calls[at]][1]
      refine ⟨_, rfl, _, _, rfl, rfl, ?_⟩
      refine ⟨_, rfl, _, rfl, a, _, _, _, rfl, rfl, hS', hcall, t.a_CALLS, _, _, _, rfl, rfl, B.all _, hrow, r, _, _, _, rfl, rfl, hr2 _, atI_nat (j := 1) rfl, _, _, rfl, rfl, ?_⟩
      have ebeh : (j : Int) + 1 + ((ar c : Nat) : Int) = ((j + 1 + ar c : Nat) : Int) := by omega
      -- numbers = answer(valley, calls[at], calls[at + 1:behind])
      refine ⟨_, rfl, _, rfl, _, rfl, a, _, _, _, rfl, rfl, hS', hcall, ?_⟩
      refine ⟨_, rfl, _, rfl, _, _, rfl, rfl, _, rfl, _, rfl, _, rfl, a, _, rfl, hS', fun n hn => ?_⟩
      have ecut : cutV (zs.map V.int) (some ((j : Int) + 1)) (some ((j : Int) + 1 + ((ar c : Nat) : Int))) = nts (xs.map Int.toNat) := by
        have ej : (j : Int) + 1 = ((j + 1 : Nat) : Int) := by omega
        rw [ebeh, ej, cut_mid, ← List.map_drop, ← List.map_take, ← hxs]
        exact ints_nts fun z hz => hpos z (by rw [hxs] at hz; exact List.mem_of_mem_drop (List.mem_of_mem_take hz))
      have hn2 : upd H' n (.lst (cutV (zs.map V.int) (some ((j : Int) + 1)) (some ((j : Int) + 1 + ((ar c : Nat) : Int))))) n = some (.lst (nts (xs.map Int.toNat))) := by rw [upd_same, ecut]
      have e3 : Ext ts H' (upd H' n (.lst (cutV (zs.map V.int) (some ((j : Int) + 1)) (some ((j : Int) + 1 + ((ar c : Nat) : Int)))))) := Ext.new hn
      have hle : d.now.length ≤ 12 := by
        cases st with
        | none => have : d = ⟨[], [], []⟩ := hR; subst this; simp
        | some d' => exact hR.2.now.le
      refine ⟨y, n, c, d, xs.map Int.toNat, rfl, hc, hc, hd.ext e3, hn2, by rw [List.length_map]; exact hxl, hDk, hle, fun i hi => e3.tab i hi (e.tab i hi (hT i hi)), fun H2 q st2 hq h2 hD2 => ?_⟩
      have st3 : Stp ts y H' _ := (e3.stp hd.isin).trans st2
      have hno3 : ¬ Own _ y p := (e3.stp hd.isin).notown hno hacc
      have hp2 : H2 p = some (.lst (acc.map V.int)) := st2.same _ _ hno3 rfl (e3.lst hacc)
      have e4 : Ext ts H H2 := e.stp2 st3 hnew
      generalize hans : Km457.act d (mkc c (xs.map Int.toNat)) = w2 at h2 hD2 hR' hrest'
      have hshort := asked_short hask
      have hfit : acc.length + 1 + (Km457Neutral.told w2.2).length ≤ 10000000 := by
        obtain ⟨f, raw, _, _, h5⟩ := hrest'.ex
        have h6 := congrArg List.length h5
        rw [List.length_append, List.length_append, List.length_cons] at h6
        omega
      have hsl : (10000000 : Nat) < sizeLine := by decide
      -- told.append(len(numbers))
      refine ⟨_, rfl, .inl ⟨rfl, _, SqL.of hp2⟩, _, rfl, q, _, rfl, .inl (SqL.of h2), p, _, _, rfl, rfl, hp2, by rw [List.length_map]; omega, ?_⟩
      have hpq : q ≠ p := fun z => by
        have z2 := e3.lst hacc
        rw [← z, hq] at z2
        cases z2
      have hq2 : upd H2 p (.lst (acc.map V.int ++ [V.int ((tV w2.2).length : Int)])) q = some (.lst (tV w2.2)) := by rw [upd_ne hpq]; exact h2
      -- told.extend(numbers)
      refine ⟨_, rfl, .inl ⟨rfl, _, SqL.of upd_same⟩, _, rfl, p, q, _, _, rfl, rfl, upd_same, hq2, ?_, ?_⟩
      · rw [List.length_append, List.length_map, told_len]
        simp only [List.length_cons, List.length_nil]
        omega
      · -- at = behind
        rw [upd_upd]
        have e5 : Ext ts H (upd H2 p (.lst (acc.map V.int ++ [V.int ((tV w2.2).length : Int)] ++ tV w2.2))) := e4.put np hp2 rfl (fun _ => by intro z; cases z)
        refine ⟨_, rfl, j + 1 + ar c, st', w2.1, _, some (.int (((j + 1 + ar c : Nat)) : Int)), some (.ref q), ?_, by omega, hkl, e5, ?_, ?_, ?_, ?_, hR', hrest'⟩
        · rw [← ebeh]
          rfl
        · rw [upd_same, told_len]
          simp
        · exact hD2.told hp2 (st3.notown hno hacc)
        · exact fun b z => (hnew.stp e st3) b (own_upd ypne z)
        · exact fun z => st3.notown hno hacc (own_upd ypne z)
    · rw [decide_eq_false (by omega)]
      refine iteF ⟨_, rfl, ?_⟩
      exact k H' p (by rw [hacc, hrest.done (by omega)])
end Sp

end
section
set_option Elab.async false
set_option linter.all false
set_option maxRecDepth 100000
set_option maxHeartbeats 2000000
namespace Sp
open PySem PySem.Spec PyProof.Rows L2
open PySem.W (WData Codec OpenSpec Well WellAll ReadsW ReadsAllW CodeHd tabObj tabIn)
/-! ### the row's head, where codes' tables grow -/
def tabH (tabs : List (Addr × Addr)) (H0 : Hp) : Hp := fun b => if b ∈ tabs.map (·.2) then some (.tbl #[]) else H0 b
theorem spec_callT {P : Program} {w : World} {K : PySem.W.Frag} {mg mb : Str → Option Value} {CX : CXT} {k : Nat} {fa : Addr} {fd : FuncData} {ps : List Str} {sp : L2.Sp} {s1 : Shared} {vals : List Value} {ds : List WData} {R : PySem.W.WRecords} {cl : Str → Option Addr} {d0 : WData} {tabs : List (Addr × Addr)}
    (KX : K.In s1.heap) (hns : s1.heap.Ns mainGlobals mg) (hb : s1.heap.Ns builtinsNs mb) (hbb : ∀ x : Str, x ≠ "__name__" → mb x = bootBuiltins x) (hlim : s1.heap.NoLimit) (hg : s1.gens = #[]) (hbm : BMain mg s1.heap)
    (htab : ∀ q ∈ tabs, CodeHd s1.heap q.1 q.2 ∧ s1.heap.get? q.2 = some (tabObj #[])) (hKt : ∀ q ∈ tabs, K.lookup q.2 = none)
    (hwl : WellAll w.params s1.heap vals ds) (hpl : plWs ds = true) (hwt : ∀ d ∈ ds, d.weight ≤ 1048576) (hr : Room k callerA)
    (F : ∀ base : Heap, K.In base → base.Ns mainGlobals mg → BMain mg base → FnOk P w K mg base CX k fa fd ps sp) (hbind : ∀ (s : Shared) (us : List Value), us.length = ps.length → BindsTo s fd ⟨us, []⟩ (ps.zip us)) (hlen : ds.length = ps.length)
    (hsp : ∀ (H H0 : Hp) (xs : List V), (∀ b o, H0 b = some o → H b = some o) → DwAll K H0 xs ds → (∀ q ∈ tabs, H q.2 = some (.tbl #[])) → sp xs H (fun v H' => Dw K H' v d0) fun _ _ _ => False)
    (hCX : ∀ H e s', CX [] H s1 (fun _ _ _ => False) e s' → False) :
    codeAny (model P w) callerA (.call (.ref fa) ⟨vals, []⟩) (fun r s' => ∃ u as, r = .ok (.ret u) ∧ ReadsW R cl s'.heap u d0 as ∧ OldK s1.heap s'.heap ∧ s'.os = s1.os ∧ AllBare s'.gens) s1 := by
  obtain ⟨A, ho, ar⟩ := area_all ds vals hwl hpl hwt
  have hO : OnlyF (argH K s1.heap A) := argH_only ar
  have hok0 : HOk P w (argH K s1.heap A) s1.heap := argH_ok ar
  have hS := dw_all KX ar ds vals hwl hpl ho
  have hV := vals_toV ho
  have hK0 : ∀ b u, argH K s1.heap A b = some u → K.lookup b = none := fun b u q => (argH_is ar q).1
  have seqs : ∀ {b : Addr} {u : HO}, argH K s1.heap A b = some u → ∃ o vs n, s1.heap.get? b = some o ∧ o.data = .seq vs n := fun {b u} q => by
    obtain ⟨_, vs, _, _, ⟨e2, _⟩ | ⟨e2, _⟩⟩ := argH_is ar q
    · exact ⟨_, _, _, e2, rfl⟩
    · exact ⟨_, _, _, e2, rfl⟩
  generalize argH K s1.heap A = H0 at hO hok0 hS hK0 seqs
  have tget : ∀ {b : Addr}, b ∈ tabs.map (·.2) → s1.heap.get? b = some (tabObj #[]) := fun {b} hb => by
    obtain ⟨q, hq, e⟩ := List.mem_map.mp hb
    exact e ▸ (htab q hq).2
  have tno : ∀ {b : Addr}, b ∈ tabs.map (·.2) → H0 b = none := fun {b} hb => by
    cases q : H0 b with
    | none => rfl
    | some u =>
      obtain ⟨o, vs, n, e1, e2⟩ := seqs q
      rw [tget hb] at e1
      cases e1
      cases e2
  have tin : ∀ {b : Addr}, b ∈ tabs.map (·.2) → tabH tabs H0 b = some (.tbl #[]) := fun {b} hb => if_pos hb
  have tout : ∀ {b : Addr}, b ∉ tabs.map (·.2) → tabH tabs H0 b = H0 b := fun {b} hb => if_neg hb
  have sub : ∀ b o, H0 b = some o → tabH tabs H0 b = some o := fun b o e => by
    rw [tout fun z => by rw [tno z] at e; cases e]
    exact e
  have hok : HOk P w (tabH tabs H0) s1.heap := fun b u e => by
    by_cases z : b ∈ tabs.map (·.2)
    · rw [tin z] at e
      cases e
      exact tget z
    · rw [tout z] at e
      exact (hok0 b u e).stay (fun _ _ _ q => q) (fun c q => sub _ _ q) fun c xs q => sub _ _ q
  have hK : ∀ b u, tabH tabs H0 b = some u → K.lookup b = none := fun b u e => by
    by_cases z : b ∈ tabs.map (·.2)
    · obtain ⟨q, hq, e2⟩ := List.mem_map.mp z
      exact e2 ▸ hKt q hq
    · rw [tout z] at e
      exact hK0 b u e
  have noA : ∀ {b : Addr} {o : Obj}, s1.heap.get? b = some o → (∀ vs n, o.data ≠ .seq vs n) → (∀ vs, o.data ≠ .fields vs) → tabH tabs H0 b = none := fun {b o} e n1 n2 => by
    by_cases z : b ∈ tabs.map (·.2)
    · rw [tget z] at e
      cases e
      exact absurd rfl (n2 _)
    · rw [tout z]
      cases q : H0 b with
      | none => rfl
      | some u =>
        obtain ⟨o', vs, n, e1, e2⟩ := seqs q
        rw [e] at e1
        cases e1
        exact absurd e2 (n1 _ _)
  have htb : ∀ q ∈ tabs, tabH tabs H0 q.2 = some (.tbl #[]) := fun q hq => tin (List.mem_map.mpr ⟨q, hq, rfl⟩)
  have only : ∀ b u, tabH tabs H0 b = some u → (∃ o v, u = .frz o v) ∨ (b ∈ tabs.map (·.2) ∧ u = .tbl #[]) := fun b u e => by
    by_cases z : b ∈ tabs.map (·.2)
    · rw [tin z] at e
      cases e
      exact .inr ⟨z, rfl⟩
    · rw [tout z] at e
      rcases hO b with q | ⟨o, v, q⟩
      · rw [q] at e; cases e
      · rw [q] at e; cases e; exact .inl ⟨o, v, rfl⟩
  generalize tabH tabs H0 = H at hok hK noA htb only sub
  have base_of : ∀ {b : Addr} {o : Obj}, s1.heap.get? b = some o → H b = none → (hidT s1.heap H).get? b = some o := fun e n => hidT_get e n
  have nsK : ∀ {b : Addr} {m : Str → Option Value}, s1.heap.Ns b m → (hidT s1.heap H).Ns b m := fun {b m} ⟨o, es, ep, e, d, r⟩ => ⟨o, es, ep, base_of e (noA e (fun vs n z => by rw [d] at z; cases z) fun vs z => by rw [d] at z; cases z), d, r⟩
  have nK : ∀ b o, K.lookup b = some o → H b = none := fun b o e => by
    cases q : H b with
    | none => rfl
    | some u =>
      rw [hK b u q] at e
      cases e
  have hKb : K.In (hidT s1.heap H) := fun b o e => base_of (KX b o e) (nK b o e)
  have hbmB : BMain mg (hidT s1.heap H) := by
    obtain ⟨bm, ob, b1, b2, b3, b4, b5, b6⟩ := hbm
    exact ⟨bm, ob, b1, b2, base_of b3 (noA b3 (fun vs n z => by rw [b6] at z; cases z) fun vs z => by rw [b6] at z; cases z), b4, b5, b6⟩
  have hM : Mod K mg (hidT s1.heap H) := ⟨hKb, nsK hns, ⟨mb, nsK hb, hbb⟩, let ⟨mc, h1, h2⟩ := hlim; ⟨mc, nsK h1, h2⟩⟩
  have e0 : Env0 P w K mg (hidT s1.heap H) callerA [] s1 H := ⟨rfl, hM, fun b o e => of_hidT e, Nat.le_of_eq (hidT_size _ _), trivial, fun b hb => absurd (show b ∈ ([] : List Addr) from hb) (by simp), hok, .of_eq hg⟩
  have hl : vals.length = ps.length := by rw [wellAll_len hwl]; exact hlen
  refine codeAny_mono ((F _ hKb (nsK hns) hbmB).run callerA [] s1 H ⟨vals, []⟩ vals (vals.map toV) _ _ hr e0 (hbind s1 vals hl) hV (hsp H H0 _ sub hS htb)) fun r s' x => ?_
  cases r with
  | error e => exact (hCX H e s' x).elim
  | ok fl =>
    cases fl with
    | next => exact False.elim x
    | brk => exact False.elim x
    | cont => exact False.elim x
    | ret u =>
      obtain ⟨v, H', os, bare, un, hok', r', q⟩ := x
      have kept : ∀ b o, b ∉ tabs.map (·.2) → s1.heap.get? b = some o → s'.heap.get? b = some o := fun b o hbt e => by
        cases q2 : H b with
        | none => exact un.keep b o e q2 (by intro z; exact absurd (show b ∈ ([] : List Addr) from z) (by simp)) (by simp)
        | some u2 =>
          rcases only b u2 q2 with ⟨ob, u3, rfl⟩ | ⟨z, _⟩
          · have z2 := un.frzs b ob _ q2
            obtain ⟨e1, _⟩ := hok b _ q2
            obtain ⟨e2, _⟩ := hok' b _ z2
            rw [e] at e1
            cases e1
            exact e2
          · exact absurd z hbt
      have grown : ∀ b, b ∈ tabs.map (·.2) → ∃ more, s'.heap.get? b = some (tabObj (#[] ++ more)) := fun b hbt => by
        obtain ⟨q3, hq3, e3⟩ := List.mem_map.mp hbt
        obtain ⟨more, z2⟩ := un.tbls b _ (e3 ▸ htb q3 hq3)
        exact ⟨more, hok' b _ z2⟩
      have KX' : K.In s'.heap := fun b o e => kept b o (fun z => by
        obtain ⟨q3, hq3, e3⟩ := List.mem_map.mp z
        rw [← e3, hKt q3 hq3] at e
        cases e) (KX b o e)
      obtain ⟨as, hrd⟩ := Dw.reads (R := R) (cl := cl) hok' KX' d0 v u q r'
      refine ⟨u, as, rfl, hrd, ⟨fun b o e => ?_, fun b o e => ?_⟩, os, bare⟩
      · by_cases z : b ∈ tabs.map (·.2)
        · obtain ⟨more, g⟩ := grown b z
          obtain ⟨q3, hq3, e3⟩ := List.mem_map.mp z
          have e4 := tget z
          rw [e4] at e
          cases e
          refine .inr (.inl ⟨?_, rfl, #[], more, rfl, g⟩)
          have ta := (htab q3 hq3).1.tab (htab q3 hq3).2
          rw [e3] at ta
          exact ta.isCodeTable
        · exact .inl (kept b o z e)
      · by_cases z : b ∈ tabs.map (·.2)
        · obtain ⟨more, g⟩ := grown b z
          exact ⟨_, g⟩
        · exact ⟨o, kept b o z e⟩
theorem walk_specT {r : OpenSpec} {k : Nat} {q : Program} {loose : List Str} {XP : (Str → Option Value) → Heap → Prop} {YP : World → Heap → Prop} {d : DefRec} {K : Params → PySem.W.Frag} {CX : CXT} {ps : List Str} {sp : PySem.W.Frag → L2.Sp} {names : List Str}
    (hwell : r.wellSaid = true) (hdf : d.params.defaults = []) (hlen : r.args.length = ps.length) (hr : Room k callerA)
    (hY : ∀ (w : World) (h : Heap), YP w h → (K w.params).In h)
    (hrec : ∀ x ∈ names, ∃ e, (recsOf q).find? (fun e => e.name == x) = some e)
    (htab : ∀ w : World, ∀ x ∈ names, ∃ c P, tabIn (K w.params) x = some (c, P) ∧ (K w.params).lookup P = none)
    (F : ∀ (w : World) (mg : Str → Option Value) (fa : Addr) (h : Heap), YP w h → (K w.params).In h → h.Ns mainGlobals mg → mg d.name = some (.ref fa) →
      ∃ fd : FuncData, (∀ (s : Shared) (us : List Value), us.length = ps.length → BindsTo s fd ⟨us, []⟩ (ps.zip us)) ∧
        ∀ base : Heap, (K w.params).In base → base.Ns mainGlobals mg → BMain mg base → FnOk r.prog w (K w.params) mg base CX k fa fd ps (sp (K w.params)))
    (hsp : ∀ (K : PySem.W.Frag) (H H0 : Hp) (xs : List V) (a : Codec.denoteAll r.args), (∀ b o, H0 b = some o → H b = some o) → (∀ x ∈ names, ∀ c P, tabIn K x = some (c, P) → H P = some (.tbl #[])) → Codec.withinAll r.args a = true → Codec.app r.args r.asked a = true → DwAll K H0 xs (Codec.encAll r.args a) →
      sp K xs H (fun v H' => Dw K H' v (r.ret.enc (Codec.app r.args r.f a))) fun _ _ _ => False)
    (hCX : ∀ (H : Hp) (s : Shared) (e : Value) (s' : Shared), CX [] H s (fun _ _ _ => False) e s' → False) :
    PySem.W.WalkOS q loose XP YP r d [] (fun f vs => PySem.call f vs) := by
  intro w s_0 s1 mg mb G Y fa o pm cd doc dV kV ho hd hcd hD hmg hg args vals as hpre hlay hrd hwl hlo
  obtain ⟨a, e1, e2⟩ := PySem.W.os_pre_some hpre
  obtain ⟨e3, hwi⟩ := Codec.encAll_of_decAll r.args args a e1
  subst e3
  have KX := hY w _ Y
  obtain ⟨fd, hb, hF⟩ := F w mg fa _ Y KX G.T.g hmg
  have tabAt : ∀ x ∈ names, ∀ c P, tabIn (K w.params) x = some (c, P) → CodeHd s1.heap c P ∧ s1.heap.get? P = some (tabObj #[]) := fun x hx c P e => by
    obtain ⟨rec, hrec⟩ := hrec x hx
    exact PySem.W.tab_of G.T KX hrec e
  refine PySem.W.enter_call (codeAny_mono (spec_callT (R := []) (cl := classAt s_0.heap) (d0 := r.ret.enc (Codec.app r.args r.f a)) (tabs := names.filterMap fun x => tabIn (K w.params) x) KX G.T.g G.T.b G.T.builtins G.T.nolimit hg G.T.bmain
    (fun q hq => ?_) (fun q hq => ?_) hwl (pl_encAll _ _) (layable_weight hlay) hr hF hb (by rw [encAll_len]; exact hlen)
    (fun H H0 xs hsub hS ht => hsp (K w.params) H H0 xs a hsub (fun x hx c P e => ht (c, P) (List.mem_filterMap.mpr ⟨x, hx, e⟩)) hwi e2 hS) fun H e s' => hCX H s1 e s') fun r' s' hq => ?_)
  · obtain ⟨x, hx, e⟩ := List.mem_filterMap.mp hq
    exact tabAt x hx q.1 q.2 e
  · obtain ⟨x, hx, e⟩ := List.mem_filterMap.mp hq
    obtain ⟨c, P, e4, e5⟩ := htab w x hx
    rw [e] at e4
    have e6 := Option.some.inj e4
    rw [e6]
    exact e5
  · obtain ⟨u, as', rfl, h1, h2, h3, h4⟩ := hq
    exact ⟨.inl ⟨u, _, as', rfl, fun _ => rfl, h1, (OpenSpec.post_iff hwell hwi _ _).mpr rfl, fun z => Bool.noConfusion (show false = true from z)⟩, h2, h3, h4⟩
end Sp

end
section
set_option Elab.async false
set_option linter.all false
set_option maxRecDepth 100000
set_option maxHeartbeats 4000000
namespace Sp
open PySem PySem.Spec PyProof.Rows L2 Mt
/-! ### a def's code and its table, from the written part -/
def codeT (vs : Array Value) (c P : Addr) : Bool := (match (vs[11]? : Option Value) with | some (.ref Q) => Q == P | _ => false) && (match vs.getD 18 .none with | .str _ _ => true | _ => false) && (match vs.getD 7 .none with | .int _ _ => true | _ => false) && (match vs.getD 9 .none with | .bool _ => true | _ => false) && (match vs.getD 10 .none with | .int _ _ => true | _ => false) && c != P
theorem codeT_hd {K : PySem.W.Frag} {c P : Addr} {od : Option Addr} {vs : Array Value} {sl : Array (Option Value)} (l : K.lookup c = some ⟨.type "code", od, .fields vs, sl⟩) (h : codeT vs c P = true) : PySem.W.codeHdIn K c P = true := by
  unfold PySem.W.codeHdIn
  rw [l]
  exact h
theorem sq_mono {K : PySem.W.Frag} {H H0 : Hp} {b : Addr} {xs : List V} (hsub : ∀ b o, H0 b = some o → H b = some o) (hs : SqL K H0 b xs) : SqL K H b xs := by
  rcases hs with (h | ⟨o, h⟩) | h
  · exact .inl (.inl (hsub _ _ h))
  · exact .inl (.inr ⟨o, hsub _ _ h⟩)
  · exact .inr h
theorem tab_mk {K : PySem.W.Frag} {x : Str} {f c P : Addr} {oc oc2 : Value} {od od2 : Option Addr} {fd : FuncData} {vs : Array Value} {sl sl2 : Array (Option Value)} (a : PySem.W.nsIn K mainGlobals x = some (some (.ref f))) (l : K.lookup f = some ⟨oc, od, .func fd, sl⟩) (g : fd.code = .ref c)
    (lc : K.lookup c = some ⟨oc2, od2, .fields vs, sl2⟩) (hv : (vs[11]? : Option Value) = some (.ref P)) : PySem.W.tabIn K x = some (c, P) := by
  unfold PySem.W.tabIn
  simp only [a, l, g, lc, hv]
/-- the functions by the numbers of the calls -/
def fO (t : Ad) (c : Nat) : Addr := [t.f_va_start, t.f_va_village, t.f_va_many, t.f_va_road, t.f_va_drop, t.f_va_far, t.f_va_ways, t.f_va_best, t.f_va_all, t.f_va_heavy, t.f_va_branch, t.f_va_toward, t.f_va_gain, t.f_va_two, t.f_va_both, t.f_va_farthest, t.f_va_nearer, t.f_va_line, t.f_va_beside, t.f_va_till, t.f_va_without, t.f_va_look, t.f_va_sums, t.f_va_back, t.f_va_again, t.f_va_state].getD c 0
/-- the tables that grow -/
def tsK (K : PySem.W.Frag) : List TabI := (match PySem.W.tabIn K "best_two" with | some q => [la_best_two q.2] | none => []) ++ (match PySem.W.tabIn K "heaviest" with | some q => [la_heaviest q.2] | none => [])
theorem tabs_ok {K : PySem.W.Frag} {H : Hp} (h : ∀ x, x ∈ (["best_two", "heaviest"] : List Str) → ∀ c P, PySem.W.tabIn K x = some (c, P) → H P = some (.tbl #[])) : ∀ i ∈ tsK K, TabOk i H := by
  intro i hi
  unfold tsK at hi
  simp only [List.mem_append] at hi
  rcases hi with hi | hi
  · cases e : PySem.W.tabIn K "best_two" with
    | none => rw [e] at hi; simp at hi
    | some q => rw [e] at hi; have hi : i = la_best_two q.2 := by simpa using hi
                subst hi; exact .inl (h "best_two" (by simp) q.1 q.2 e)
  · cases e : PySem.W.tabIn K "heaviest" with
    | none => rw [e] at hi; simp at hi
    | some q => rw [e] at hi; have hi : i = la_heaviest q.2 := by simpa using hi
                subst hi; exact .inl (h "heaviest" (by simp) q.1 q.2 e)
theorem lt_rows {k : Nat} (hk : k < 26) : k = 0 ∨ k = 1 ∨ k = 2 ∨ k = 3 ∨ k = 4 ∨ k = 5 ∨ k = 6 ∨ k = 7 ∨ k = 8 ∨ k = 9 ∨ k = 10 ∨ k = 11 ∨ k = 12 ∨ k = 13 ∨ k = 14 ∨ k = 15 ∨ k = 16 ∨ k = 17 ∨ k = 18 ∨ k = 19 ∨ k = 20 ∨ k = 21 ∨ k = 22 ∨ k = 23 ∨ k = 24 ∨ k = 25 := by omega
theorem all_mk {P : Program} {w : World} {K : PySem.W.Frag} {h : Heap} {mg : Str → Option Value} {fa : Addr} (X : K.In h) (G : h.Ns mainGlobals mg) (hfa : mg "answers" = some (.ref fa))
    {c_Village : Addr}
    {f_Village_init : Addr}
    {oc_Village_init kV_Village_init dc_Village_init pm_Village_init cd_Village_init ct_Village_init : Value} {od_Village_init an_Village_init : Option Addr} {sl_Village_init : Array (Option Value)}
    {c_Valley : Addr}
    {f_Valley_init : Addr}
    {oc_Valley_init kV_Valley_init dc_Valley_init pm_Valley_init cd_Valley_init ct_Valley_init : Value} {od_Valley_init an_Valley_init : Option Addr} {sl_Valley_init : Array (Option Value)}
    {f_Valley_begin : Addr}
    {oc_Valley_begin kV_Valley_begin dc_Valley_begin pm_Valley_begin cd_Valley_begin ct_Valley_begin : Value} {od_Valley_begin an_Valley_begin : Option Addr} {sl_Valley_begin : Array (Option Value)}
    {f_Valley_change : Addr}
    {oc_Valley_change kV_Valley_change dc_Valley_change pm_Valley_change cd_Valley_change ct_Valley_change : Value} {od_Valley_change an_Valley_change : Option Addr} {sl_Valley_change : Array (Option Value)}
    {f_Valley_take_back : Addr}
    {oc_Valley_take_back kV_Valley_take_back dc_Valley_take_back pm_Valley_take_back cd_Valley_take_back ct_Valley_take_back : Value} {od_Valley_take_back an_Valley_take_back : Option Addr} {sl_Valley_take_back : Array (Option Value)}
    {f_Valley_do_again : Addr}
    {oc_Valley_do_again kV_Valley_do_again dc_Valley_do_again pm_Valley_do_again cd_Valley_do_again ct_Valley_do_again : Value} {od_Valley_do_again an_Valley_do_again : Option Addr} {sl_Valley_do_again : Array (Option Value)}
    {f_replaced : Addr}
    {oc_replaced kV_replaced dc_replaced pm_replaced cd_replaced ct_replaced : Value} {od_replaced an_replaced : Option Addr} {sl_replaced : Array (Option Value)}
    {f_with_children : Addr}
    {oc_with_children kV_with_children dc_with_children pm_with_children cd_with_children ct_with_children : Value} {od_with_children an_with_children : Option Addr} {sl_with_children : Array (Option Value)}
    {f_with_road : Addr}
    {oc_with_road kV_with_road dc_with_road pm_with_road cd_with_road ct_with_road : Value} {od_with_road an_with_road : Option Addr} {sl_with_road : Array (Option Value)}
    {f_line : Addr}
    {oc_line kV_line dc_line pm_line cd_line ct_line : Value} {od_line an_line : Option Addr} {sl_line : Array (Option Value)}
    {f_meeting : Addr}
    {oc_meeting kV_meeting dc_meeting pm_meeting cd_meeting ct_meeting : Value} {od_meeting an_meeting : Option Addr} {sl_meeting : Array (Option Value)}
    {f_distances : Addr}
    {oc_distances kV_distances dc_distances pm_distances cd_distances ct_distances : Value} {od_distances an_distances : Option Addr} {sl_distances : Array (Option Value)}
    {f_farthest : Addr}
    {oc_farthest kV_farthest dc_farthest pm_farthest cd_farthest ct_farthest : Value} {od_farthest an_farthest : Option Addr} {sl_farthest : Array (Option Value)}
    {f_ways_over : Addr}
    {oc_ways_over kV_ways_over dc_ways_over pm_ways_over cd_ways_over ct_ways_over : Value} {od_ways_over an_ways_over : Option Addr} {sl_ways_over : Array (Option Value)}
    {f_all_ways : Addr}
    {oc_all_ways kV_all_ways dc_all_ways pm_all_ways cd_all_ways ct_all_ways : Value} {od_all_ways an_all_ways : Option Addr} {sl_all_ways : Array (Option Value)}
    {f_best_places : Addr}
    {oc_best_places kV_best_places dc_best_places pm_best_places cd_best_places ct_best_places : Value} {od_best_places an_best_places : Option Addr} {sl_best_places : Array (Option Value)}
    {f_nearer_ways : Addr}
    {oc_nearer_ways kV_nearer_ways dc_nearer_ways pm_nearer_ways cd_nearer_ways ct_nearer_ways : Value} {od_nearer_ways an_nearer_ways : Option Addr} {sl_nearer_ways : Array (Option Value)}
    {f_ways_to_either : Addr}
    {oc_ways_to_either kV_ways_to_either dc_ways_to_either pm_ways_to_either cd_ways_to_either ct_ways_to_either : Value} {od_ways_to_either an_ways_to_either : Option Addr} {sl_ways_to_either : Array (Option Value)}
    {f_best_two : Addr}
    {oc_best_two kV_best_two dc_best_two pm_best_two cd_best_two ct_best_two : Value} {od_best_two an_best_two : Option Addr} {sl_best_two : Array (Option Value)}
    {f_are_beside : Addr}
    {oc_are_beside kV_are_beside dc_are_beside pm_are_beside cd_are_beside ct_are_beside : Value} {od_are_beside an_are_beside : Option Addr} {sl_are_beside : Array (Option Value)}
    {f_beside : Addr}
    {oc_beside kV_beside dc_beside pm_beside cd_beside ct_beside : Value} {od_beside an_beside : Option Addr} {sl_beside : Array (Option Value)}
    {f_branch : Addr}
    {oc_branch kV_branch dc_branch pm_branch cd_branch ct_branch : Value} {od_branch an_branch : Option Addr} {sl_branch : Array (Option Value)}
    {f_all_roads : Addr}
    {oc_all_roads kV_all_roads dc_all_roads pm_all_roads cd_all_roads ct_all_roads : Value} {od_all_roads an_all_roads : Option Addr} {sl_all_roads : Array (Option Value)}
    {f_children_in : Addr}
    {oc_children_in kV_children_in dc_children_in pm_children_in cd_children_in ct_children_in : Value} {od_children_in an_children_in : Option Addr} {sl_children_in : Array (Option Value)}
    {f_all_children : Addr}
    {oc_all_children kV_all_children dc_all_children pm_all_children cd_all_children ct_all_children : Value} {od_all_children an_all_children : Option Addr} {sl_all_children : Array (Option Value)}
    {f_branch_children : Addr}
    {oc_branch_children kV_branch_children dc_branch_children pm_branch_children cd_branch_children ct_branch_children : Value} {od_branch_children an_branch_children : Option Addr} {sl_branch_children : Array (Option Value)}
    {f_heaviest : Addr}
    {oc_heaviest kV_heaviest dc_heaviest pm_heaviest cd_heaviest ct_heaviest : Value} {od_heaviest an_heaviest : Option Addr} {sl_heaviest : Array (Option Value)}
    {f_over_half : Addr}
    {oc_over_half kV_over_half dc_over_half pm_over_half cd_over_half ct_over_half : Value} {od_over_half an_over_half : Option Addr} {sl_over_half : Array (Option Value)}
    {f_step_to_half : Addr}
    {oc_step_to_half kV_step_to_half dc_step_to_half pm_step_to_half cd_step_to_half ct_step_to_half : Value} {od_step_to_half an_step_to_half : Option Addr} {sl_step_to_half : Array (Option Value)}
    {f_way_to_half : Addr}
    {oc_way_to_half kV_way_to_half dc_way_to_half pm_way_to_half cd_way_to_half ct_way_to_half : Value} {od_way_to_half an_way_to_half : Option Addr} {sl_way_to_half : Array (Option Value)}
    {f_is_road : Addr}
    {oc_is_road kV_is_road dc_is_road pm_is_road cd_is_road ct_is_road : Value} {od_is_road an_is_road : Option Addr} {sl_is_road : Array (Option Value)}
    {f_bits : Addr}
    {oc_bits kV_bits dc_bits pm_bits cd_bits ct_bits : Value} {od_bits an_bits : Option Addr} {sl_bits : Array (Option Value)}
    {f_padded : Addr}
    {oc_padded kV_padded dc_padded pm_padded cd_padded ct_padded : Value} {od_padded an_padded : Option Addr} {sl_padded : Array (Option Value)}
    {f_row : Addr}
    {oc_row kV_row dc_row pm_row cd_row ct_row : Value} {od_row an_row : Option Addr} {sl_row : Array (Option Value)}
    {f_va_start : Addr}
    {oc_va_start kV_va_start dc_va_start pm_va_start cd_va_start ct_va_start : Value} {od_va_start an_va_start : Option Addr} {sl_va_start : Array (Option Value)}
    {f_va_village : Addr}
    {oc_va_village kV_va_village dc_va_village pm_va_village cd_va_village ct_va_village : Value} {od_va_village an_va_village : Option Addr} {sl_va_village : Array (Option Value)}
    {f_va_many : Addr}
    {oc_va_many kV_va_many dc_va_many pm_va_many cd_va_many ct_va_many : Value} {od_va_many an_va_many : Option Addr} {sl_va_many : Array (Option Value)}
    {f_va_road : Addr}
    {oc_va_road kV_va_road dc_va_road pm_va_road cd_va_road ct_va_road : Value} {od_va_road an_va_road : Option Addr} {sl_va_road : Array (Option Value)}
    {f_va_drop : Addr}
    {oc_va_drop kV_va_drop dc_va_drop pm_va_drop cd_va_drop ct_va_drop : Value} {od_va_drop an_va_drop : Option Addr} {sl_va_drop : Array (Option Value)}
    {f_va_far : Addr}
    {oc_va_far kV_va_far dc_va_far pm_va_far cd_va_far ct_va_far : Value} {od_va_far an_va_far : Option Addr} {sl_va_far : Array (Option Value)}
    {f_va_ways : Addr}
    {oc_va_ways kV_va_ways dc_va_ways pm_va_ways cd_va_ways ct_va_ways : Value} {od_va_ways an_va_ways : Option Addr} {sl_va_ways : Array (Option Value)}
    {f_va_best : Addr}
    {oc_va_best kV_va_best dc_va_best pm_va_best cd_va_best ct_va_best : Value} {od_va_best an_va_best : Option Addr} {sl_va_best : Array (Option Value)}
    {f_va_all : Addr}
    {oc_va_all kV_va_all dc_va_all pm_va_all cd_va_all ct_va_all : Value} {od_va_all an_va_all : Option Addr} {sl_va_all : Array (Option Value)}
    {f_va_heavy : Addr}
    {oc_va_heavy kV_va_heavy dc_va_heavy pm_va_heavy cd_va_heavy ct_va_heavy : Value} {od_va_heavy an_va_heavy : Option Addr} {sl_va_heavy : Array (Option Value)}
    {f_va_branch : Addr}
    {oc_va_branch kV_va_branch dc_va_branch pm_va_branch cd_va_branch ct_va_branch : Value} {od_va_branch an_va_branch : Option Addr} {sl_va_branch : Array (Option Value)}
    {f_va_toward : Addr}
    {oc_va_toward kV_va_toward dc_va_toward pm_va_toward cd_va_toward ct_va_toward : Value} {od_va_toward an_va_toward : Option Addr} {sl_va_toward : Array (Option Value)}
    {f_va_gain : Addr}
    {oc_va_gain kV_va_gain dc_va_gain pm_va_gain cd_va_gain ct_va_gain : Value} {od_va_gain an_va_gain : Option Addr} {sl_va_gain : Array (Option Value)}
    {f_va_two : Addr}
    {oc_va_two kV_va_two dc_va_two pm_va_two cd_va_two ct_va_two : Value} {od_va_two an_va_two : Option Addr} {sl_va_two : Array (Option Value)}
    {f_va_both : Addr}
    {oc_va_both kV_va_both dc_va_both pm_va_both cd_va_both ct_va_both : Value} {od_va_both an_va_both : Option Addr} {sl_va_both : Array (Option Value)}
    {f_va_farthest : Addr}
    {oc_va_farthest kV_va_farthest dc_va_farthest pm_va_farthest cd_va_farthest ct_va_farthest : Value} {od_va_farthest an_va_farthest : Option Addr} {sl_va_farthest : Array (Option Value)}
    {f_va_nearer : Addr}
    {oc_va_nearer kV_va_nearer dc_va_nearer pm_va_nearer cd_va_nearer ct_va_nearer : Value} {od_va_nearer an_va_nearer : Option Addr} {sl_va_nearer : Array (Option Value)}
    {f_va_line : Addr}
    {oc_va_line kV_va_line dc_va_line pm_va_line cd_va_line ct_va_line : Value} {od_va_line an_va_line : Option Addr} {sl_va_line : Array (Option Value)}
    {f_va_beside : Addr}
    {oc_va_beside kV_va_beside dc_va_beside pm_va_beside cd_va_beside ct_va_beside : Value} {od_va_beside an_va_beside : Option Addr} {sl_va_beside : Array (Option Value)}
    {f_va_till : Addr}
    {oc_va_till kV_va_till dc_va_till pm_va_till cd_va_till ct_va_till : Value} {od_va_till an_va_till : Option Addr} {sl_va_till : Array (Option Value)}
    {f_va_without : Addr}
    {oc_va_without kV_va_without dc_va_without pm_va_without cd_va_without ct_va_without : Value} {od_va_without an_va_without : Option Addr} {sl_va_without : Array (Option Value)}
    {f_va_look : Addr}
    {oc_va_look kV_va_look dc_va_look pm_va_look cd_va_look ct_va_look : Value} {od_va_look an_va_look : Option Addr} {sl_va_look : Array (Option Value)}
    {f_va_sums : Addr}
    {oc_va_sums kV_va_sums dc_va_sums pm_va_sums cd_va_sums ct_va_sums : Value} {od_va_sums an_va_sums : Option Addr} {sl_va_sums : Array (Option Value)}
    {f_va_back : Addr}
    {oc_va_back kV_va_back dc_va_back pm_va_back cd_va_back ct_va_back : Value} {od_va_back an_va_back : Option Addr} {sl_va_back : Array (Option Value)}
    {f_va_again : Addr}
    {oc_va_again kV_va_again dc_va_again pm_va_again cd_va_again ct_va_again : Value} {od_va_again an_va_again : Option Addr} {sl_va_again : Array (Option Value)}
    {f_va_state : Addr}
    {oc_va_state kV_va_state dc_va_state pm_va_state cd_va_state ct_va_state : Value} {od_va_state an_va_state : Option Addr} {sl_va_state : Array (Option Value)}
    {f_answer : Addr}
    {oc_answer kV_answer dc_answer pm_answer cd_answer ct_answer : Value} {od_answer an_answer : Option Addr} {sl_answer : Array (Option Value)}
    {f_answers : Addr}
    {oc_answers kV_answers dc_answers pm_answers cd_answers ct_answers : Value} {od_answers an_answers : Option Addr} {sl_answers : Array (Option Value)}
    {x_NO_VILLAGE : Tok}
    {x_NO_CHANGE : Tok}
    {x_ALONE : Tok}
    {x_OUT_OF_BOUNDS : Tok}
    {x_FULL : Tok}
    {x_NOT_THIS_ONE : Tok}
    {x_MOST_VILLAGES : Tok}
    {x_MOST_CHILDREN : Tok}
    {x_LONGEST_ROAD : Tok}
    {x_MOST_TAKEN_BACK : Tok}
    {a_CALLS : Addr}
    {od_T : Option Addr} {n_T : Nat} {sl_T : Array (Option Value)}
    {r_0 r_1 r_2 r_3 r_4 r_5 r_6 r_7 r_8 r_9 r_10 r_11 r_12 r_13 r_14 r_15 r_16 r_17 r_18 r_19 r_20 r_21 r_22 r_23 r_24 r_25 : Addr}
    {od_T0 : Option Addr} {n_T0 : Nat} {sl_T0 : Array (Option Value)} {xa_0 xb_0 : Tok}
    {od_T1 : Option Addr} {n_T1 : Nat} {sl_T1 : Array (Option Value)} {xa_1 xb_1 : Tok}
    {od_T2 : Option Addr} {n_T2 : Nat} {sl_T2 : Array (Option Value)} {xa_2 xb_2 : Tok}
    {od_T3 : Option Addr} {n_T3 : Nat} {sl_T3 : Array (Option Value)} {xa_3 xb_3 : Tok}
    {od_T4 : Option Addr} {n_T4 : Nat} {sl_T4 : Array (Option Value)} {xa_4 xb_4 : Tok}
    {od_T5 : Option Addr} {n_T5 : Nat} {sl_T5 : Array (Option Value)} {xa_5 xb_5 : Tok}
    {od_T6 : Option Addr} {n_T6 : Nat} {sl_T6 : Array (Option Value)} {xa_6 xb_6 : Tok}
    {od_T7 : Option Addr} {n_T7 : Nat} {sl_T7 : Array (Option Value)} {xa_7 xb_7 : Tok}
    {od_T8 : Option Addr} {n_T8 : Nat} {sl_T8 : Array (Option Value)} {xa_8 xb_8 : Tok}
    {od_T9 : Option Addr} {n_T9 : Nat} {sl_T9 : Array (Option Value)} {xa_9 xb_9 : Tok}
    {od_T10 : Option Addr} {n_T10 : Nat} {sl_T10 : Array (Option Value)} {xa_10 xb_10 : Tok}
    {od_T11 : Option Addr} {n_T11 : Nat} {sl_T11 : Array (Option Value)} {xa_11 xb_11 : Tok}
    {od_T12 : Option Addr} {n_T12 : Nat} {sl_T12 : Array (Option Value)} {xa_12 xb_12 : Tok}
    {od_T13 : Option Addr} {n_T13 : Nat} {sl_T13 : Array (Option Value)} {xa_13 xb_13 : Tok}
    {od_T14 : Option Addr} {n_T14 : Nat} {sl_T14 : Array (Option Value)} {xa_14 xb_14 : Tok}
    {od_T15 : Option Addr} {n_T15 : Nat} {sl_T15 : Array (Option Value)} {xa_15 xb_15 : Tok}
    {od_T16 : Option Addr} {n_T16 : Nat} {sl_T16 : Array (Option Value)} {xa_16 xb_16 : Tok}
    {od_T17 : Option Addr} {n_T17 : Nat} {sl_T17 : Array (Option Value)} {xa_17 xb_17 : Tok}
    {od_T18 : Option Addr} {n_T18 : Nat} {sl_T18 : Array (Option Value)} {xa_18 xb_18 : Tok}
    {od_T19 : Option Addr} {n_T19 : Nat} {sl_T19 : Array (Option Value)} {xa_19 xb_19 : Tok}
    {od_T20 : Option Addr} {n_T20 : Nat} {sl_T20 : Array (Option Value)} {xa_20 xb_20 : Tok}
    {od_T21 : Option Addr} {n_T21 : Nat} {sl_T21 : Array (Option Value)} {xa_21 xb_21 : Tok}
    {od_T22 : Option Addr} {n_T22 : Nat} {sl_T22 : Array (Option Value)} {xa_22 xb_22 : Tok}
    {od_T23 : Option Addr} {n_T23 : Nat} {sl_T23 : Array (Option Value)} {xa_23 xb_23 : Tok}
    {od_T24 : Option Addr} {n_T24 : Nat} {sl_T24 : Array (Option Value)} {xa_24 xb_24 : Tok}
    {od_T25 : Option Addr} {n_T25 : Nat} {sl_T25 : Array (Option Value)} {xa_25 xb_25 : Tok}
    {ct_best_two_ P_best_two : Addr} {odc_best_two : Option Addr} {vs_best_two : Array Value} {slc_best_two : Array (Option Value)}
    {ct_heaviest_ P_heaviest : Addr} {odc_heaviest : Option Addr} {vs_heaviest : Array Value} {slc_heaviest : Array (Option Value)}
    (a_Village : PySem.W.nsIn K mainGlobals "Village" = some (some (.ref c_Village)))
    (a_Village_init : PySem.W.findIn K (.ref c_Village) "__init__" = some (some (.ref f_Village_init)))
    (i_Village_init : PySem.W.isFn K (.ref f_Village_init) = true)
    (l_Village_init : K.lookup f_Village_init = some ⟨oc_Village_init, od_Village_init, .func (PySem.W.fnOf "__init__" "Village.__init__" (defArgs s_Village_init) (defBody s_Village_init) (defScope s_Village_init) .none kV_Village_init dc_Village_init pm_Village_init an_Village_init cd_Village_init ct_Village_init), sl_Village_init⟩)
    (c_Village_init : PySem.W.codeIn K cd_Village_init "Village.__init__" = true)
    (k_Village_init : PySem.W.keepIn K (.ref f_Village_init) = true)
    (pg_Village : PySem.W.plainGet K c_Village Str.empty = true)
    (hd_Village : PySem.W.hasDictIn K c_Village = true)
    (po_Village : PySem.W.plainOver K c_Village = true)
    (sa_Village : PySem.W.findIn K (.ref c_Village) "__setattr__" = some (some (.builtin "object.__setattr__")))
    (mk_Village : PySem.W.makesIn K c_Village = true)
    (kc_Village : PySem.W.keepIn K (.ref c_Village) = true)
    (n_Village_children : PySem.W.findIn K (.ref c_Village) "children" = some none)
    (n_Village_road : PySem.W.findIn K (.ref c_Village) "road" = some none)
    (n_Village_up : PySem.W.findIn K (.ref c_Village) "up" = some none)
    (a_Valley : PySem.W.nsIn K mainGlobals "Valley" = some (some (.ref c_Valley)))
    (a_Valley_init : PySem.W.findIn K (.ref c_Valley) "__init__" = some (some (.ref f_Valley_init)))
    (i_Valley_init : PySem.W.isFn K (.ref f_Valley_init) = true)
    (l_Valley_init : K.lookup f_Valley_init = some ⟨oc_Valley_init, od_Valley_init, .func (PySem.W.fnOf "__init__" "Valley.__init__" (defArgs s_Valley_init) (defBody s_Valley_init) (defScope s_Valley_init) .none kV_Valley_init dc_Valley_init pm_Valley_init an_Valley_init cd_Valley_init ct_Valley_init), sl_Valley_init⟩)
    (c_Valley_init : PySem.W.codeIn K cd_Valley_init "Valley.__init__" = true)
    (k_Valley_init : PySem.W.keepIn K (.ref f_Valley_init) = true)
    (a_Valley_begin : PySem.W.findIn K (.ref c_Valley) "begin" = some (some (.ref f_Valley_begin)))
    (i_Valley_begin : PySem.W.isFn K (.ref f_Valley_begin) = true)
    (l_Valley_begin : K.lookup f_Valley_begin = some ⟨oc_Valley_begin, od_Valley_begin, .func (PySem.W.fnOf "begin" "Valley.begin" (defArgs s_Valley_begin) (defBody s_Valley_begin) (defScope s_Valley_begin) .none kV_Valley_begin dc_Valley_begin pm_Valley_begin an_Valley_begin cd_Valley_begin ct_Valley_begin), sl_Valley_begin⟩)
    (c_Valley_begin : PySem.W.codeIn K cd_Valley_begin "Valley.begin" = true)
    (k_Valley_begin : PySem.W.keepIn K (.ref f_Valley_begin) = true)
    (a_Valley_change : PySem.W.findIn K (.ref c_Valley) "change" = some (some (.ref f_Valley_change)))
    (i_Valley_change : PySem.W.isFn K (.ref f_Valley_change) = true)
    (l_Valley_change : K.lookup f_Valley_change = some ⟨oc_Valley_change, od_Valley_change, .func (PySem.W.fnOf "change" "Valley.change" (defArgs s_Valley_change) (defBody s_Valley_change) (defScope s_Valley_change) .none kV_Valley_change dc_Valley_change pm_Valley_change an_Valley_change cd_Valley_change ct_Valley_change), sl_Valley_change⟩)
    (c_Valley_change : PySem.W.codeIn K cd_Valley_change "Valley.change" = true)
    (k_Valley_change : PySem.W.keepIn K (.ref f_Valley_change) = true)
    (a_Valley_take_back : PySem.W.findIn K (.ref c_Valley) "take_back" = some (some (.ref f_Valley_take_back)))
    (i_Valley_take_back : PySem.W.isFn K (.ref f_Valley_take_back) = true)
    (l_Valley_take_back : K.lookup f_Valley_take_back = some ⟨oc_Valley_take_back, od_Valley_take_back, .func (PySem.W.fnOf "take_back" "Valley.take_back" (defArgs s_Valley_take_back) (defBody s_Valley_take_back) (defScope s_Valley_take_back) .none kV_Valley_take_back dc_Valley_take_back pm_Valley_take_back an_Valley_take_back cd_Valley_take_back ct_Valley_take_back), sl_Valley_take_back⟩)
    (c_Valley_take_back : PySem.W.codeIn K cd_Valley_take_back "Valley.take_back" = true)
    (k_Valley_take_back : PySem.W.keepIn K (.ref f_Valley_take_back) = true)
    (a_Valley_do_again : PySem.W.findIn K (.ref c_Valley) "do_again" = some (some (.ref f_Valley_do_again)))
    (i_Valley_do_again : PySem.W.isFn K (.ref f_Valley_do_again) = true)
    (l_Valley_do_again : K.lookup f_Valley_do_again = some ⟨oc_Valley_do_again, od_Valley_do_again, .func (PySem.W.fnOf "do_again" "Valley.do_again" (defArgs s_Valley_do_again) (defBody s_Valley_do_again) (defScope s_Valley_do_again) .none kV_Valley_do_again dc_Valley_do_again pm_Valley_do_again an_Valley_do_again cd_Valley_do_again ct_Valley_do_again), sl_Valley_do_again⟩)
    (c_Valley_do_again : PySem.W.codeIn K cd_Valley_do_again "Valley.do_again" = true)
    (k_Valley_do_again : PySem.W.keepIn K (.ref f_Valley_do_again) = true)
    (pg_Valley : PySem.W.plainGet K c_Valley Str.empty = true)
    (hd_Valley : PySem.W.hasDictIn K c_Valley = true)
    (po_Valley : PySem.W.plainOver K c_Valley = true)
    (sa_Valley : PySem.W.findIn K (.ref c_Valley) "__setattr__" = some (some (.builtin "object.__setattr__")))
    (mk_Valley : PySem.W.makesIn K c_Valley = true)
    (kc_Valley : PySem.W.keepIn K (.ref c_Valley) = true)
    (n_Valley_earlier : PySem.W.findIn K (.ref c_Valley) "earlier" = some none)
    (n_Valley_later : PySem.W.findIn K (.ref c_Valley) "later" = some none)
    (n_Valley_villages : PySem.W.findIn K (.ref c_Valley) "villages" = some none)
    (a_replaced : PySem.W.nsIn K mainGlobals "replaced" = some (some (.ref f_replaced)))
    (l_replaced : K.lookup f_replaced = some ⟨oc_replaced, od_replaced, .func (PySem.W.fnOf "replaced" "replaced" (defArgs s_replaced) (defBody s_replaced) (defScope s_replaced) .none kV_replaced dc_replaced pm_replaced an_replaced cd_replaced ct_replaced), sl_replaced⟩)
    (c_replaced : PySem.W.codeIn K cd_replaced "replaced" = true)
    (k_replaced : PySem.W.keepIn K (.ref f_replaced) = true)
    (a_with_children : PySem.W.nsIn K mainGlobals "with_children" = some (some (.ref f_with_children)))
    (l_with_children : K.lookup f_with_children = some ⟨oc_with_children, od_with_children, .func (PySem.W.fnOf "with_children" "with_children" (defArgs s_with_children) (defBody s_with_children) (defScope s_with_children) .none kV_with_children dc_with_children pm_with_children an_with_children cd_with_children ct_with_children), sl_with_children⟩)
    (c_with_children : PySem.W.codeIn K cd_with_children "with_children" = true)
    (k_with_children : PySem.W.keepIn K (.ref f_with_children) = true)
    (a_with_road : PySem.W.nsIn K mainGlobals "with_road" = some (some (.ref f_with_road)))
    (l_with_road : K.lookup f_with_road = some ⟨oc_with_road, od_with_road, .func (PySem.W.fnOf "with_road" "with_road" (defArgs s_with_road) (defBody s_with_road) (defScope s_with_road) .none kV_with_road dc_with_road pm_with_road an_with_road cd_with_road ct_with_road), sl_with_road⟩)
    (c_with_road : PySem.W.codeIn K cd_with_road "with_road" = true)
    (k_with_road : PySem.W.keepIn K (.ref f_with_road) = true)
    (a_line : PySem.W.nsIn K mainGlobals "line" = some (some (.ref f_line)))
    (l_line : K.lookup f_line = some ⟨oc_line, od_line, .func (PySem.W.fnOf "line" "line" (defArgs s_line) (defBody s_line) (defScope s_line) .none kV_line dc_line pm_line an_line cd_line ct_line), sl_line⟩)
    (c_line : PySem.W.codeIn K cd_line "line" = true)
    (k_line : PySem.W.keepIn K (.ref f_line) = true)
    (a_meeting : PySem.W.nsIn K mainGlobals "meeting" = some (some (.ref f_meeting)))
    (l_meeting : K.lookup f_meeting = some ⟨oc_meeting, od_meeting, .func (PySem.W.fnOf "meeting" "meeting" (defArgs s_meeting) (defBody s_meeting) (defScope s_meeting) .none kV_meeting dc_meeting pm_meeting an_meeting cd_meeting ct_meeting), sl_meeting⟩)
    (c_meeting : PySem.W.codeIn K cd_meeting "meeting" = true)
    (k_meeting : PySem.W.keepIn K (.ref f_meeting) = true)
    (a_distances : PySem.W.nsIn K mainGlobals "distances" = some (some (.ref f_distances)))
    (l_distances : K.lookup f_distances = some ⟨oc_distances, od_distances, .func (PySem.W.fnOf "distances" "distances" (defArgs s_distances) (defBody s_distances) (defScope s_distances) .none kV_distances dc_distances pm_distances an_distances cd_distances ct_distances), sl_distances⟩)
    (c_distances : PySem.W.codeIn K cd_distances "distances" = true)
    (k_distances : PySem.W.keepIn K (.ref f_distances) = true)
    (a_farthest : PySem.W.nsIn K mainGlobals "farthest" = some (some (.ref f_farthest)))
    (l_farthest : K.lookup f_farthest = some ⟨oc_farthest, od_farthest, .func (PySem.W.fnOf "farthest" "farthest" (defArgs s_farthest) (defBody s_farthest) (defScope s_farthest) .none kV_farthest dc_farthest pm_farthest an_farthest cd_farthest ct_farthest), sl_farthest⟩)
    (c_farthest : PySem.W.codeIn K cd_farthest "farthest" = true)
    (k_farthest : PySem.W.keepIn K (.ref f_farthest) = true)
    (a_ways_over : PySem.W.nsIn K mainGlobals "ways_over" = some (some (.ref f_ways_over)))
    (l_ways_over : K.lookup f_ways_over = some ⟨oc_ways_over, od_ways_over, .func (PySem.W.fnOf "ways_over" "ways_over" (defArgs s_ways_over) (defBody s_ways_over) (defScope s_ways_over) .none kV_ways_over dc_ways_over pm_ways_over an_ways_over cd_ways_over ct_ways_over), sl_ways_over⟩)
    (c_ways_over : PySem.W.codeIn K cd_ways_over "ways_over" = true)
    (k_ways_over : PySem.W.keepIn K (.ref f_ways_over) = true)
    (a_all_ways : PySem.W.nsIn K mainGlobals "all_ways" = some (some (.ref f_all_ways)))
    (l_all_ways : K.lookup f_all_ways = some ⟨oc_all_ways, od_all_ways, .func (PySem.W.fnOf "all_ways" "all_ways" (defArgs s_all_ways) (defBody s_all_ways) (defScope s_all_ways) .none kV_all_ways dc_all_ways pm_all_ways an_all_ways cd_all_ways ct_all_ways), sl_all_ways⟩)
    (c_all_ways : PySem.W.codeIn K cd_all_ways "all_ways" = true)
    (k_all_ways : PySem.W.keepIn K (.ref f_all_ways) = true)
    (a_best_places : PySem.W.nsIn K mainGlobals "best_places" = some (some (.ref f_best_places)))
    (l_best_places : K.lookup f_best_places = some ⟨oc_best_places, od_best_places, .func (PySem.W.fnOf "best_places" "best_places" (defArgs s_best_places) (defBody s_best_places) (defScope s_best_places) .none kV_best_places dc_best_places pm_best_places an_best_places cd_best_places ct_best_places), sl_best_places⟩)
    (c_best_places : PySem.W.codeIn K cd_best_places "best_places" = true)
    (k_best_places : PySem.W.keepIn K (.ref f_best_places) = true)
    (a_nearer_ways : PySem.W.nsIn K mainGlobals "nearer_ways" = some (some (.ref f_nearer_ways)))
    (l_nearer_ways : K.lookup f_nearer_ways = some ⟨oc_nearer_ways, od_nearer_ways, .func (PySem.W.fnOf "nearer_ways" "nearer_ways" (defArgs s_nearer_ways) (defBody s_nearer_ways) (defScope s_nearer_ways) .none kV_nearer_ways dc_nearer_ways pm_nearer_ways an_nearer_ways cd_nearer_ways ct_nearer_ways), sl_nearer_ways⟩)
    (c_nearer_ways : PySem.W.codeIn K cd_nearer_ways "nearer_ways" = true)
    (k_nearer_ways : PySem.W.keepIn K (.ref f_nearer_ways) = true)
    (a_ways_to_either : PySem.W.nsIn K mainGlobals "ways_to_either" = some (some (.ref f_ways_to_either)))
    (l_ways_to_either : K.lookup f_ways_to_either = some ⟨oc_ways_to_either, od_ways_to_either, .func (PySem.W.fnOf "ways_to_either" "ways_to_either" (defArgs s_ways_to_either) (defBody s_ways_to_either) (defScope s_ways_to_either) .none kV_ways_to_either dc_ways_to_either pm_ways_to_either an_ways_to_either cd_ways_to_either ct_ways_to_either), sl_ways_to_either⟩)
    (c_ways_to_either : PySem.W.codeIn K cd_ways_to_either "ways_to_either" = true)
    (k_ways_to_either : PySem.W.keepIn K (.ref f_ways_to_either) = true)
    (a_best_two : PySem.W.nsIn K mainGlobals "best_two" = some (some (.ref f_best_two)))
    (l_best_two : K.lookup f_best_two = some ⟨oc_best_two, od_best_two, .func (PySem.W.fnOf "best_two" "best_two" (defArgs s_best_two) (defBody s_best_two) (defScope s_best_two) .none kV_best_two dc_best_two pm_best_two an_best_two cd_best_two ct_best_two), sl_best_two⟩)
    (c_best_two : PySem.W.codeIn K cd_best_two "best_two" = true)
    (k_best_two : PySem.W.keepIn K (.ref f_best_two) = true)
    (a_are_beside : PySem.W.nsIn K mainGlobals "are_beside" = some (some (.ref f_are_beside)))
    (l_are_beside : K.lookup f_are_beside = some ⟨oc_are_beside, od_are_beside, .func (PySem.W.fnOf "are_beside" "are_beside" (defArgs s_are_beside) (defBody s_are_beside) (defScope s_are_beside) .none kV_are_beside dc_are_beside pm_are_beside an_are_beside cd_are_beside ct_are_beside), sl_are_beside⟩)
    (c_are_beside : PySem.W.codeIn K cd_are_beside "are_beside" = true)
    (k_are_beside : PySem.W.keepIn K (.ref f_are_beside) = true)
    (a_beside : PySem.W.nsIn K mainGlobals "beside" = some (some (.ref f_beside)))
    (l_beside : K.lookup f_beside = some ⟨oc_beside, od_beside, .func (PySem.W.fnOf "beside" "beside" (defArgs s_beside) (defBody s_beside) (defScope s_beside) .none kV_beside dc_beside pm_beside an_beside cd_beside ct_beside), sl_beside⟩)
    (c_beside : PySem.W.codeIn K cd_beside "beside" = true)
    (k_beside : PySem.W.keepIn K (.ref f_beside) = true)
    (a_branch : PySem.W.nsIn K mainGlobals "branch" = some (some (.ref f_branch)))
    (l_branch : K.lookup f_branch = some ⟨oc_branch, od_branch, .func (PySem.W.fnOf "branch" "branch" (defArgs s_branch) (defBody s_branch) (defScope s_branch) .none kV_branch dc_branch pm_branch an_branch cd_branch ct_branch), sl_branch⟩)
    (c_branch : PySem.W.codeIn K cd_branch "branch" = true)
    (k_branch : PySem.W.keepIn K (.ref f_branch) = true)
    (a_all_roads : PySem.W.nsIn K mainGlobals "all_roads" = some (some (.ref f_all_roads)))
    (l_all_roads : K.lookup f_all_roads = some ⟨oc_all_roads, od_all_roads, .func (PySem.W.fnOf "all_roads" "all_roads" (defArgs s_all_roads) (defBody s_all_roads) (defScope s_all_roads) .none kV_all_roads dc_all_roads pm_all_roads an_all_roads cd_all_roads ct_all_roads), sl_all_roads⟩)
    (c_all_roads : PySem.W.codeIn K cd_all_roads "all_roads" = true)
    (k_all_roads : PySem.W.keepIn K (.ref f_all_roads) = true)
    (a_children_in : PySem.W.nsIn K mainGlobals "children_in" = some (some (.ref f_children_in)))
    (l_children_in : K.lookup f_children_in = some ⟨oc_children_in, od_children_in, .func (PySem.W.fnOf "children_in" "children_in" (defArgs s_children_in) (defBody s_children_in) (defScope s_children_in) .none kV_children_in dc_children_in pm_children_in an_children_in cd_children_in ct_children_in), sl_children_in⟩)
    (c_children_in : PySem.W.codeIn K cd_children_in "children_in" = true)
    (k_children_in : PySem.W.keepIn K (.ref f_children_in) = true)
    (a_all_children : PySem.W.nsIn K mainGlobals "all_children" = some (some (.ref f_all_children)))
    (l_all_children : K.lookup f_all_children = some ⟨oc_all_children, od_all_children, .func (PySem.W.fnOf "all_children" "all_children" (defArgs s_all_children) (defBody s_all_children) (defScope s_all_children) .none kV_all_children dc_all_children pm_all_children an_all_children cd_all_children ct_all_children), sl_all_children⟩)
    (c_all_children : PySem.W.codeIn K cd_all_children "all_children" = true)
    (k_all_children : PySem.W.keepIn K (.ref f_all_children) = true)
    (a_branch_children : PySem.W.nsIn K mainGlobals "branch_children" = some (some (.ref f_branch_children)))
    (l_branch_children : K.lookup f_branch_children = some ⟨oc_branch_children, od_branch_children, .func (PySem.W.fnOf "branch_children" "branch_children" (defArgs s_branch_children) (defBody s_branch_children) (defScope s_branch_children) .none kV_branch_children dc_branch_children pm_branch_children an_branch_children cd_branch_children ct_branch_children), sl_branch_children⟩)
    (c_branch_children : PySem.W.codeIn K cd_branch_children "branch_children" = true)
    (k_branch_children : PySem.W.keepIn K (.ref f_branch_children) = true)
    (a_heaviest : PySem.W.nsIn K mainGlobals "heaviest" = some (some (.ref f_heaviest)))
    (l_heaviest : K.lookup f_heaviest = some ⟨oc_heaviest, od_heaviest, .func (PySem.W.fnOf "heaviest" "heaviest" (defArgs s_heaviest) (defBody s_heaviest) (defScope s_heaviest) .none kV_heaviest dc_heaviest pm_heaviest an_heaviest cd_heaviest ct_heaviest), sl_heaviest⟩)
    (c_heaviest : PySem.W.codeIn K cd_heaviest "heaviest" = true)
    (k_heaviest : PySem.W.keepIn K (.ref f_heaviest) = true)
    (a_over_half : PySem.W.nsIn K mainGlobals "over_half" = some (some (.ref f_over_half)))
    (l_over_half : K.lookup f_over_half = some ⟨oc_over_half, od_over_half, .func (PySem.W.fnOf "over_half" "over_half" (defArgs s_over_half) (defBody s_over_half) (defScope s_over_half) .none kV_over_half dc_over_half pm_over_half an_over_half cd_over_half ct_over_half), sl_over_half⟩)
    (c_over_half : PySem.W.codeIn K cd_over_half "over_half" = true)
    (k_over_half : PySem.W.keepIn K (.ref f_over_half) = true)
    (a_step_to_half : PySem.W.nsIn K mainGlobals "step_to_half" = some (some (.ref f_step_to_half)))
    (l_step_to_half : K.lookup f_step_to_half = some ⟨oc_step_to_half, od_step_to_half, .func (PySem.W.fnOf "step_to_half" "step_to_half" (defArgs s_step_to_half) (defBody s_step_to_half) (defScope s_step_to_half) .none kV_step_to_half dc_step_to_half pm_step_to_half an_step_to_half cd_step_to_half ct_step_to_half), sl_step_to_half⟩)
    (c_step_to_half : PySem.W.codeIn K cd_step_to_half "step_to_half" = true)
    (k_step_to_half : PySem.W.keepIn K (.ref f_step_to_half) = true)
    (a_way_to_half : PySem.W.nsIn K mainGlobals "way_to_half" = some (some (.ref f_way_to_half)))
    (l_way_to_half : K.lookup f_way_to_half = some ⟨oc_way_to_half, od_way_to_half, .func (PySem.W.fnOf "way_to_half" "way_to_half" (defArgs s_way_to_half) (defBody s_way_to_half) (defScope s_way_to_half) .none kV_way_to_half dc_way_to_half pm_way_to_half an_way_to_half cd_way_to_half ct_way_to_half), sl_way_to_half⟩)
    (c_way_to_half : PySem.W.codeIn K cd_way_to_half "way_to_half" = true)
    (k_way_to_half : PySem.W.keepIn K (.ref f_way_to_half) = true)
    (a_is_road : PySem.W.nsIn K mainGlobals "is_road" = some (some (.ref f_is_road)))
    (l_is_road : K.lookup f_is_road = some ⟨oc_is_road, od_is_road, .func (PySem.W.fnOf "is_road" "is_road" (defArgs s_is_road) (defBody s_is_road) (defScope s_is_road) .none kV_is_road dc_is_road pm_is_road an_is_road cd_is_road ct_is_road), sl_is_road⟩)
    (c_is_road : PySem.W.codeIn K cd_is_road "is_road" = true)
    (k_is_road : PySem.W.keepIn K (.ref f_is_road) = true)
    (a_bits : PySem.W.nsIn K mainGlobals "bits" = some (some (.ref f_bits)))
    (l_bits : K.lookup f_bits = some ⟨oc_bits, od_bits, .func (PySem.W.fnOf "bits" "bits" (defArgs s_bits) (defBody s_bits) (defScope s_bits) .none kV_bits dc_bits pm_bits an_bits cd_bits ct_bits), sl_bits⟩)
    (c_bits : PySem.W.codeIn K cd_bits "bits" = true)
    (k_bits : PySem.W.keepIn K (.ref f_bits) = true)
    (a_padded : PySem.W.nsIn K mainGlobals "padded" = some (some (.ref f_padded)))
    (l_padded : K.lookup f_padded = some ⟨oc_padded, od_padded, .func (PySem.W.fnOf "padded" "padded" (defArgs s_padded) (defBody s_padded) (defScope s_padded) .none kV_padded dc_padded pm_padded an_padded cd_padded ct_padded), sl_padded⟩)
    (c_padded : PySem.W.codeIn K cd_padded "padded" = true)
    (k_padded : PySem.W.keepIn K (.ref f_padded) = true)
    (a_row : PySem.W.nsIn K mainGlobals "row" = some (some (.ref f_row)))
    (l_row : K.lookup f_row = some ⟨oc_row, od_row, .func (PySem.W.fnOf "row" "row" (defArgs s_row) (defBody s_row) (defScope s_row) .none kV_row dc_row pm_row an_row cd_row ct_row), sl_row⟩)
    (c_row : PySem.W.codeIn K cd_row "row" = true)
    (k_row : PySem.W.keepIn K (.ref f_row) = true)
    (a_va_start : PySem.W.nsIn K mainGlobals "va_start" = some (some (.ref f_va_start)))
    (l_va_start : K.lookup f_va_start = some ⟨oc_va_start, od_va_start, .func (PySem.W.fnOf "va_start" "va_start" (defArgs s_va_start) (defBody s_va_start) (defScope s_va_start) .none kV_va_start dc_va_start pm_va_start an_va_start cd_va_start ct_va_start), sl_va_start⟩)
    (c_va_start : PySem.W.codeIn K cd_va_start "va_start" = true)
    (k_va_start : PySem.W.keepIn K (.ref f_va_start) = true)
    (a_va_village : PySem.W.nsIn K mainGlobals "va_village" = some (some (.ref f_va_village)))
    (l_va_village : K.lookup f_va_village = some ⟨oc_va_village, od_va_village, .func (PySem.W.fnOf "va_village" "va_village" (defArgs s_va_village) (defBody s_va_village) (defScope s_va_village) .none kV_va_village dc_va_village pm_va_village an_va_village cd_va_village ct_va_village), sl_va_village⟩)
    (c_va_village : PySem.W.codeIn K cd_va_village "va_village" = true)
    (k_va_village : PySem.W.keepIn K (.ref f_va_village) = true)
    (a_va_many : PySem.W.nsIn K mainGlobals "va_many" = some (some (.ref f_va_many)))
    (l_va_many : K.lookup f_va_many = some ⟨oc_va_many, od_va_many, .func (PySem.W.fnOf "va_many" "va_many" (defArgs s_va_many) (defBody s_va_many) (defScope s_va_many) .none kV_va_many dc_va_many pm_va_many an_va_many cd_va_many ct_va_many), sl_va_many⟩)
    (c_va_many : PySem.W.codeIn K cd_va_many "va_many" = true)
    (k_va_many : PySem.W.keepIn K (.ref f_va_many) = true)
    (a_va_road : PySem.W.nsIn K mainGlobals "va_road" = some (some (.ref f_va_road)))
    (l_va_road : K.lookup f_va_road = some ⟨oc_va_road, od_va_road, .func (PySem.W.fnOf "va_road" "va_road" (defArgs s_va_road) (defBody s_va_road) (defScope s_va_road) .none kV_va_road dc_va_road pm_va_road an_va_road cd_va_road ct_va_road), sl_va_road⟩)
    (c_va_road : PySem.W.codeIn K cd_va_road "va_road" = true)
    (k_va_road : PySem.W.keepIn K (.ref f_va_road) = true)
    (a_va_drop : PySem.W.nsIn K mainGlobals "va_drop" = some (some (.ref f_va_drop)))
    (l_va_drop : K.lookup f_va_drop = some ⟨oc_va_drop, od_va_drop, .func (PySem.W.fnOf "va_drop" "va_drop" (defArgs s_va_drop) (defBody s_va_drop) (defScope s_va_drop) .none kV_va_drop dc_va_drop pm_va_drop an_va_drop cd_va_drop ct_va_drop), sl_va_drop⟩)
    (c_va_drop : PySem.W.codeIn K cd_va_drop "va_drop" = true)
    (k_va_drop : PySem.W.keepIn K (.ref f_va_drop) = true)
    (a_va_far : PySem.W.nsIn K mainGlobals "va_far" = some (some (.ref f_va_far)))
    (l_va_far : K.lookup f_va_far = some ⟨oc_va_far, od_va_far, .func (PySem.W.fnOf "va_far" "va_far" (defArgs s_va_far) (defBody s_va_far) (defScope s_va_far) .none kV_va_far dc_va_far pm_va_far an_va_far cd_va_far ct_va_far), sl_va_far⟩)
    (c_va_far : PySem.W.codeIn K cd_va_far "va_far" = true)
    (k_va_far : PySem.W.keepIn K (.ref f_va_far) = true)
    (a_va_ways : PySem.W.nsIn K mainGlobals "va_ways" = some (some (.ref f_va_ways)))
    (l_va_ways : K.lookup f_va_ways = some ⟨oc_va_ways, od_va_ways, .func (PySem.W.fnOf "va_ways" "va_ways" (defArgs s_va_ways) (defBody s_va_ways) (defScope s_va_ways) .none kV_va_ways dc_va_ways pm_va_ways an_va_ways cd_va_ways ct_va_ways), sl_va_ways⟩)
    (c_va_ways : PySem.W.codeIn K cd_va_ways "va_ways" = true)
    (k_va_ways : PySem.W.keepIn K (.ref f_va_ways) = true)
    (a_va_best : PySem.W.nsIn K mainGlobals "va_best" = some (some (.ref f_va_best)))
    (l_va_best : K.lookup f_va_best = some ⟨oc_va_best, od_va_best, .func (PySem.W.fnOf "va_best" "va_best" (defArgs s_va_best) (defBody s_va_best) (defScope s_va_best) .none kV_va_best dc_va_best pm_va_best an_va_best cd_va_best ct_va_best), sl_va_best⟩)
    (c_va_best : PySem.W.codeIn K cd_va_best "va_best" = true)
    (k_va_best : PySem.W.keepIn K (.ref f_va_best) = true)
    (a_va_all : PySem.W.nsIn K mainGlobals "va_all" = some (some (.ref f_va_all)))
    (l_va_all : K.lookup f_va_all = some ⟨oc_va_all, od_va_all, .func (PySem.W.fnOf "va_all" "va_all" (defArgs s_va_all) (defBody s_va_all) (defScope s_va_all) .none kV_va_all dc_va_all pm_va_all an_va_all cd_va_all ct_va_all), sl_va_all⟩)
    (c_va_all : PySem.W.codeIn K cd_va_all "va_all" = true)
    (k_va_all : PySem.W.keepIn K (.ref f_va_all) = true)
    (a_va_heavy : PySem.W.nsIn K mainGlobals "va_heavy" = some (some (.ref f_va_heavy)))
    (l_va_heavy : K.lookup f_va_heavy = some ⟨oc_va_heavy, od_va_heavy, .func (PySem.W.fnOf "va_heavy" "va_heavy" (defArgs s_va_heavy) (defBody s_va_heavy) (defScope s_va_heavy) .none kV_va_heavy dc_va_heavy pm_va_heavy an_va_heavy cd_va_heavy ct_va_heavy), sl_va_heavy⟩)
    (c_va_heavy : PySem.W.codeIn K cd_va_heavy "va_heavy" = true)
    (k_va_heavy : PySem.W.keepIn K (.ref f_va_heavy) = true)
    (a_va_branch : PySem.W.nsIn K mainGlobals "va_branch" = some (some (.ref f_va_branch)))
    (l_va_branch : K.lookup f_va_branch = some ⟨oc_va_branch, od_va_branch, .func (PySem.W.fnOf "va_branch" "va_branch" (defArgs s_va_branch) (defBody s_va_branch) (defScope s_va_branch) .none kV_va_branch dc_va_branch pm_va_branch an_va_branch cd_va_branch ct_va_branch), sl_va_branch⟩)
    (c_va_branch : PySem.W.codeIn K cd_va_branch "va_branch" = true)
    (k_va_branch : PySem.W.keepIn K (.ref f_va_branch) = true)
    (a_va_toward : PySem.W.nsIn K mainGlobals "va_toward" = some (some (.ref f_va_toward)))
    (l_va_toward : K.lookup f_va_toward = some ⟨oc_va_toward, od_va_toward, .func (PySem.W.fnOf "va_toward" "va_toward" (defArgs s_va_toward) (defBody s_va_toward) (defScope s_va_toward) .none kV_va_toward dc_va_toward pm_va_toward an_va_toward cd_va_toward ct_va_toward), sl_va_toward⟩)
    (c_va_toward : PySem.W.codeIn K cd_va_toward "va_toward" = true)
    (k_va_toward : PySem.W.keepIn K (.ref f_va_toward) = true)
    (a_va_gain : PySem.W.nsIn K mainGlobals "va_gain" = some (some (.ref f_va_gain)))
    (l_va_gain : K.lookup f_va_gain = some ⟨oc_va_gain, od_va_gain, .func (PySem.W.fnOf "va_gain" "va_gain" (defArgs s_va_gain) (defBody s_va_gain) (defScope s_va_gain) .none kV_va_gain dc_va_gain pm_va_gain an_va_gain cd_va_gain ct_va_gain), sl_va_gain⟩)
    (c_va_gain : PySem.W.codeIn K cd_va_gain "va_gain" = true)
    (k_va_gain : PySem.W.keepIn K (.ref f_va_gain) = true)
    (a_va_two : PySem.W.nsIn K mainGlobals "va_two" = some (some (.ref f_va_two)))
    (l_va_two : K.lookup f_va_two = some ⟨oc_va_two, od_va_two, .func (PySem.W.fnOf "va_two" "va_two" (defArgs s_va_two) (defBody s_va_two) (defScope s_va_two) .none kV_va_two dc_va_two pm_va_two an_va_two cd_va_two ct_va_two), sl_va_two⟩)
    (c_va_two : PySem.W.codeIn K cd_va_two "va_two" = true)
    (k_va_two : PySem.W.keepIn K (.ref f_va_two) = true)
    (a_va_both : PySem.W.nsIn K mainGlobals "va_both" = some (some (.ref f_va_both)))
    (l_va_both : K.lookup f_va_both = some ⟨oc_va_both, od_va_both, .func (PySem.W.fnOf "va_both" "va_both" (defArgs s_va_both) (defBody s_va_both) (defScope s_va_both) .none kV_va_both dc_va_both pm_va_both an_va_both cd_va_both ct_va_both), sl_va_both⟩)
    (c_va_both : PySem.W.codeIn K cd_va_both "va_both" = true)
    (k_va_both : PySem.W.keepIn K (.ref f_va_both) = true)
    (a_va_farthest : PySem.W.nsIn K mainGlobals "va_farthest" = some (some (.ref f_va_farthest)))
    (l_va_farthest : K.lookup f_va_farthest = some ⟨oc_va_farthest, od_va_farthest, .func (PySem.W.fnOf "va_farthest" "va_farthest" (defArgs s_va_farthest) (defBody s_va_farthest) (defScope s_va_farthest) .none kV_va_farthest dc_va_farthest pm_va_farthest an_va_farthest cd_va_farthest ct_va_farthest), sl_va_farthest⟩)
    (c_va_farthest : PySem.W.codeIn K cd_va_farthest "va_farthest" = true)
    (k_va_farthest : PySem.W.keepIn K (.ref f_va_farthest) = true)
    (a_va_nearer : PySem.W.nsIn K mainGlobals "va_nearer" = some (some (.ref f_va_nearer)))
    (l_va_nearer : K.lookup f_va_nearer = some ⟨oc_va_nearer, od_va_nearer, .func (PySem.W.fnOf "va_nearer" "va_nearer" (defArgs s_va_nearer) (defBody s_va_nearer) (defScope s_va_nearer) .none kV_va_nearer dc_va_nearer pm_va_nearer an_va_nearer cd_va_nearer ct_va_nearer), sl_va_nearer⟩)
    (c_va_nearer : PySem.W.codeIn K cd_va_nearer "va_nearer" = true)
    (k_va_nearer : PySem.W.keepIn K (.ref f_va_nearer) = true)
    (a_va_line : PySem.W.nsIn K mainGlobals "va_line" = some (some (.ref f_va_line)))
    (l_va_line : K.lookup f_va_line = some ⟨oc_va_line, od_va_line, .func (PySem.W.fnOf "va_line" "va_line" (defArgs s_va_line) (defBody s_va_line) (defScope s_va_line) .none kV_va_line dc_va_line pm_va_line an_va_line cd_va_line ct_va_line), sl_va_line⟩)
    (c_va_line : PySem.W.codeIn K cd_va_line "va_line" = true)
    (k_va_line : PySem.W.keepIn K (.ref f_va_line) = true)
    (a_va_beside : PySem.W.nsIn K mainGlobals "va_beside" = some (some (.ref f_va_beside)))
    (l_va_beside : K.lookup f_va_beside = some ⟨oc_va_beside, od_va_beside, .func (PySem.W.fnOf "va_beside" "va_beside" (defArgs s_va_beside) (defBody s_va_beside) (defScope s_va_beside) .none kV_va_beside dc_va_beside pm_va_beside an_va_beside cd_va_beside ct_va_beside), sl_va_beside⟩)
    (c_va_beside : PySem.W.codeIn K cd_va_beside "va_beside" = true)
    (k_va_beside : PySem.W.keepIn K (.ref f_va_beside) = true)
    (a_va_till : PySem.W.nsIn K mainGlobals "va_till" = some (some (.ref f_va_till)))
    (l_va_till : K.lookup f_va_till = some ⟨oc_va_till, od_va_till, .func (PySem.W.fnOf "va_till" "va_till" (defArgs s_va_till) (defBody s_va_till) (defScope s_va_till) .none kV_va_till dc_va_till pm_va_till an_va_till cd_va_till ct_va_till), sl_va_till⟩)
    (c_va_till : PySem.W.codeIn K cd_va_till "va_till" = true)
    (k_va_till : PySem.W.keepIn K (.ref f_va_till) = true)
    (a_va_without : PySem.W.nsIn K mainGlobals "va_without" = some (some (.ref f_va_without)))
    (l_va_without : K.lookup f_va_without = some ⟨oc_va_without, od_va_without, .func (PySem.W.fnOf "va_without" "va_without" (defArgs s_va_without) (defBody s_va_without) (defScope s_va_without) .none kV_va_without dc_va_without pm_va_without an_va_without cd_va_without ct_va_without), sl_va_without⟩)
    (c_va_without : PySem.W.codeIn K cd_va_without "va_without" = true)
    (k_va_without : PySem.W.keepIn K (.ref f_va_without) = true)
    (a_va_look : PySem.W.nsIn K mainGlobals "va_look" = some (some (.ref f_va_look)))
    (l_va_look : K.lookup f_va_look = some ⟨oc_va_look, od_va_look, .func (PySem.W.fnOf "va_look" "va_look" (defArgs s_va_look) (defBody s_va_look) (defScope s_va_look) .none kV_va_look dc_va_look pm_va_look an_va_look cd_va_look ct_va_look), sl_va_look⟩)
    (c_va_look : PySem.W.codeIn K cd_va_look "va_look" = true)
    (k_va_look : PySem.W.keepIn K (.ref f_va_look) = true)
    (a_va_sums : PySem.W.nsIn K mainGlobals "va_sums" = some (some (.ref f_va_sums)))
    (l_va_sums : K.lookup f_va_sums = some ⟨oc_va_sums, od_va_sums, .func (PySem.W.fnOf "va_sums" "va_sums" (defArgs s_va_sums) (defBody s_va_sums) (defScope s_va_sums) .none kV_va_sums dc_va_sums pm_va_sums an_va_sums cd_va_sums ct_va_sums), sl_va_sums⟩)
    (c_va_sums : PySem.W.codeIn K cd_va_sums "va_sums" = true)
    (k_va_sums : PySem.W.keepIn K (.ref f_va_sums) = true)
    (a_va_back : PySem.W.nsIn K mainGlobals "va_back" = some (some (.ref f_va_back)))
    (l_va_back : K.lookup f_va_back = some ⟨oc_va_back, od_va_back, .func (PySem.W.fnOf "va_back" "va_back" (defArgs s_va_back) (defBody s_va_back) (defScope s_va_back) .none kV_va_back dc_va_back pm_va_back an_va_back cd_va_back ct_va_back), sl_va_back⟩)
    (c_va_back : PySem.W.codeIn K cd_va_back "va_back" = true)
    (k_va_back : PySem.W.keepIn K (.ref f_va_back) = true)
    (a_va_again : PySem.W.nsIn K mainGlobals "va_again" = some (some (.ref f_va_again)))
    (l_va_again : K.lookup f_va_again = some ⟨oc_va_again, od_va_again, .func (PySem.W.fnOf "va_again" "va_again" (defArgs s_va_again) (defBody s_va_again) (defScope s_va_again) .none kV_va_again dc_va_again pm_va_again an_va_again cd_va_again ct_va_again), sl_va_again⟩)
    (c_va_again : PySem.W.codeIn K cd_va_again "va_again" = true)
    (k_va_again : PySem.W.keepIn K (.ref f_va_again) = true)
    (a_va_state : PySem.W.nsIn K mainGlobals "va_state" = some (some (.ref f_va_state)))
    (l_va_state : K.lookup f_va_state = some ⟨oc_va_state, od_va_state, .func (PySem.W.fnOf "va_state" "va_state" (defArgs s_va_state) (defBody s_va_state) (defScope s_va_state) .none kV_va_state dc_va_state pm_va_state an_va_state cd_va_state ct_va_state), sl_va_state⟩)
    (c_va_state : PySem.W.codeIn K cd_va_state "va_state" = true)
    (k_va_state : PySem.W.keepIn K (.ref f_va_state) = true)
    (a_answer : PySem.W.nsIn K mainGlobals "answer" = some (some (.ref f_answer)))
    (l_answer : K.lookup f_answer = some ⟨oc_answer, od_answer, .func (PySem.W.fnOf "answer" "answer" (defArgs s_answer) (defBody s_answer) (defScope s_answer) .none kV_answer dc_answer pm_answer an_answer cd_answer ct_answer), sl_answer⟩)
    (c_answer : PySem.W.codeIn K cd_answer "answer" = true)
    (k_answer : PySem.W.keepIn K (.ref f_answer) = true)
    (a_answers : PySem.W.nsIn K mainGlobals "answers" = some (some (.ref f_answers)))
    (l_answers : K.lookup f_answers = some ⟨oc_answers, od_answers, .func (PySem.W.fnOf "answers" "answers" (defArgs s_answers) (defBody s_answers) (defScope s_answers) .none kV_answers dc_answers pm_answers an_answers cd_answers ct_answers), sl_answers⟩)
    (c_answers : PySem.W.codeIn K cd_answers "answers" = true)
    (k_answers : PySem.W.keepIn K (.ref f_answers) = true)
    (v_NO_VILLAGE : PySem.W.nsIn K mainGlobals "NO_VILLAGE" = some (some (.int (-2) x_NO_VILLAGE)))
    (v_NO_CHANGE : PySem.W.nsIn K mainGlobals "NO_CHANGE" = some (some (.int (-2) x_NO_CHANGE)))
    (v_ALONE : PySem.W.nsIn K mainGlobals "ALONE" = some (some (.int (-6) x_ALONE)))
    (v_OUT_OF_BOUNDS : PySem.W.nsIn K mainGlobals "OUT_OF_BOUNDS" = some (some (.int (-22) x_OUT_OF_BOUNDS)))
    (v_FULL : PySem.W.nsIn K mainGlobals "FULL" = some (some (.int (-28) x_FULL)))
    (v_NOT_THIS_ONE : PySem.W.nsIn K mainGlobals "NOT_THIS_ONE" = some (some (.int (-33) x_NOT_THIS_ONE)))
    (v_MOST_VILLAGES : PySem.W.nsIn K mainGlobals "MOST_VILLAGES" = some (some (.int (12) x_MOST_VILLAGES)))
    (v_MOST_CHILDREN : PySem.W.nsIn K mainGlobals "MOST_CHILDREN" = some (some (.int (1000) x_MOST_CHILDREN)))
    (v_LONGEST_ROAD : PySem.W.nsIn K mainGlobals "LONGEST_ROAD" = some (some (.int (1000) x_LONGEST_ROAD)))
    (v_MOST_TAKEN_BACK : PySem.W.nsIn K mainGlobals "MOST_TAKEN_BACK" = some (some (.int (20) x_MOST_TAKEN_BACK)))
    (v_CALLS : PySem.W.nsIn K mainGlobals "CALLS" = some (some (.ref a_CALLS)))
    (b_len : PySem.W.nsIn K mainGlobals "len" = some none)
    (b_max : PySem.W.nsIn K mainGlobals "max" = some none)
    (b_min : PySem.W.nsIn K mainGlobals "min" = some none)
    (b_range : PySem.W.nsIn K mainGlobals "range" = some none)
    (b_sum : PySem.W.nsIn K mainGlobals "sum" = some none)
    (l_T : K.lookup a_CALLS = some ⟨.type "tuple", od_T, .seq #[.ref r_0, .ref r_1, .ref r_2, .ref r_3, .ref r_4, .ref r_5, .ref r_6, .ref r_7, .ref r_8, .ref r_9, .ref r_10, .ref r_11, .ref r_12, .ref r_13, .ref r_14, .ref r_15, .ref r_16, .ref r_17, .ref r_18, .ref r_19, .ref r_20, .ref r_21, .ref r_22, .ref r_23, .ref r_24, .ref r_25] n_T, sl_T⟩)
    (l_T0 : K.lookup r_0 = some ⟨.type "tuple", od_T0, .seq #[.ref f_va_start, .int 1 xa_0, .int 0 xb_0] n_T0, sl_T0⟩)
    (l_T1 : K.lookup r_1 = some ⟨.type "tuple", od_T1, .seq #[.ref f_va_village, .int 3 xa_1, .int 1 xb_1] n_T1, sl_T1⟩)
    (l_T2 : K.lookup r_2 = some ⟨.type "tuple", od_T2, .seq #[.ref f_va_many, .int 2 xa_2, .int 1 xb_2] n_T2, sl_T2⟩)
    (l_T3 : K.lookup r_3 = some ⟨.type "tuple", od_T3, .seq #[.ref f_va_road, .int 2 xa_3, .int 1 xb_3] n_T3, sl_T3⟩)
    (l_T4 : K.lookup r_4 = some ⟨.type "tuple", od_T4, .seq #[.ref f_va_drop, .int 0 xa_4, .int 0 xb_4] n_T4, sl_T4⟩)
    (l_T5 : K.lookup r_5 = some ⟨.type "tuple", od_T5, .seq #[.ref f_va_far, .int 2 xa_5, .int 2 xb_5] n_T5, sl_T5⟩)
    (l_T6 : K.lookup r_6 = some ⟨.type "tuple", od_T6, .seq #[.ref f_va_ways, .int 1 xa_6, .int 1 xb_6] n_T6, sl_T6⟩)
    (l_T7 : K.lookup r_7 = some ⟨.type "tuple", od_T7, .seq #[.ref f_va_best, .int 0 xa_7, .int 0 xb_7] n_T7, sl_T7⟩)
    (l_T8 : K.lookup r_8 = some ⟨.type "tuple", od_T8, .seq #[.ref f_va_all, .int 0 xa_8, .int 0 xb_8] n_T8, sl_T8⟩)
    (l_T9 : K.lookup r_9 = some ⟨.type "tuple", od_T9, .seq #[.ref f_va_heavy, .int 1 xa_9, .int 1 xb_9] n_T9, sl_T9⟩)
    (l_T10 : K.lookup r_10 = some ⟨.type "tuple", od_T10, .seq #[.ref f_va_branch, .int 2 xa_10, .int 2 xb_10] n_T10, sl_T10⟩)
    (l_T11 : K.lookup r_11 = some ⟨.type "tuple", od_T11, .seq #[.ref f_va_toward, .int 1 xa_11, .int 1 xb_11] n_T11, sl_T11⟩)
    (l_T12 : K.lookup r_12 = some ⟨.type "tuple", od_T12, .seq #[.ref f_va_gain, .int 2 xa_12, .int 2 xb_12] n_T12, sl_T12⟩)
    (l_T13 : K.lookup r_13 = some ⟨.type "tuple", od_T13, .seq #[.ref f_va_two, .int 0 xa_13, .int 0 xb_13] n_T13, sl_T13⟩)
    (l_T14 : K.lookup r_14 = some ⟨.type "tuple", od_T14, .seq #[.ref f_va_both, .int 2 xa_14, .int 2 xb_14] n_T14, sl_T14⟩)
    (l_T15 : K.lookup r_15 = some ⟨.type "tuple", od_T15, .seq #[.ref f_va_farthest, .int 1 xa_15, .int 1 xb_15] n_T15, sl_T15⟩)
    (l_T16 : K.lookup r_16 = some ⟨.type "tuple", od_T16, .seq #[.ref f_va_nearer, .int 3 xa_16, .int 3 xb_16] n_T16, sl_T16⟩)
    (l_T17 : K.lookup r_17 = some ⟨.type "tuple", od_T17, .seq #[.ref f_va_line, .int 1 xa_17, .int 1 xb_17] n_T17, sl_T17⟩)
    (l_T18 : K.lookup r_18 = some ⟨.type "tuple", od_T18, .seq #[.ref f_va_beside, .int 1 xa_18, .int 1 xb_18] n_T18, sl_T18⟩)
    (l_T19 : K.lookup r_19 = some ⟨.type "tuple", od_T19, .seq #[.ref f_va_till, .int 1 xa_19, .int 1 xb_19] n_T19, sl_T19⟩)
    (l_T20 : K.lookup r_20 = some ⟨.type "tuple", od_T20, .seq #[.ref f_va_without, .int 1 xa_20, .int 1 xb_20] n_T20, sl_T20⟩)
    (l_T21 : K.lookup r_21 = some ⟨.type "tuple", od_T21, .seq #[.ref f_va_look, .int 1 xa_21, .int 1 xb_21] n_T21, sl_T21⟩)
    (l_T22 : K.lookup r_22 = some ⟨.type "tuple", od_T22, .seq #[.ref f_va_sums, .int 0 xa_22, .int 0 xb_22] n_T22, sl_T22⟩)
    (l_T23 : K.lookup r_23 = some ⟨.type "tuple", od_T23, .seq #[.ref f_va_back, .int 0 xa_23, .int 0 xb_23] n_T23, sl_T23⟩)
    (l_T24 : K.lookup r_24 = some ⟨.type "tuple", od_T24, .seq #[.ref f_va_again, .int 0 xa_24, .int 0 xb_24] n_T24, sl_T24⟩)
    (l_T25 : K.lookup r_25 = some ⟨.type "tuple", od_T25, .seq #[.ref f_va_state, .int 0 xa_25, .int 0 xb_25] n_T25, sl_T25⟩)
    (g_best_two : cd_best_two = .ref ct_best_two_)
    (lc_best_two : K.lookup ct_best_two_ = some ⟨.type "code", odc_best_two, .fields vs_best_two, slc_best_two⟩)
    (hv_best_two : (vs_best_two[11]? : Option Value) = some (.ref P_best_two))
    (hh_best_two : codeT vs_best_two ct_best_two_ P_best_two = true)
    (g_heaviest : cd_heaviest = .ref ct_heaviest_)
    (lc_heaviest : K.lookup ct_heaviest_ = some ⟨.type "code", odc_heaviest, .fields vs_heaviest, slc_heaviest⟩)
    (hv_heaviest : (vs_heaviest[11]? : Option Value) = some (.ref P_heaviest))
    (hh_heaviest : codeT vs_heaviest ct_heaviest_ P_heaviest = true)
    (two : (c_Village == c_Valley) = false)
    (ne_best_two_heaviest : (P_best_two == P_heaviest) = false)
    : ∃ t : Ad, Tx K mg t ∧ Two t ∧ t.f_answers = fa ∧ (∃ rows, Tab K t 26 (fO t) rows) ∧ (∀ base : Heap, K.In base → BMain mg base → (∃ c Pt, Lam la_best_two t.g_best_two (tsK K) base mg c Pt) ∧ (∃ c Pt, Lam la_heaviest t.g_heaviest (tsK K) base mg c Pt)) := by
  have e := (PySem.W.mg_of X G a_answers).symm.trans hfa
  have e : f_answers = fa := Value.ref.inj (Option.some.inj e)
  subst e
  have F_Village_init := fun_mk (st := s_Village_init) l_Village_init c_Village_init k_Village_init
  have F_Valley_init := fun_mk (st := s_Valley_init) l_Valley_init c_Valley_init k_Valley_init
  have F_Valley_begin := fun_mk (st := s_Valley_begin) l_Valley_begin c_Valley_begin k_Valley_begin
  have F_Valley_change := fun_mk (st := s_Valley_change) l_Valley_change c_Valley_change k_Valley_change
  have F_Valley_take_back := fun_mk (st := s_Valley_take_back) l_Valley_take_back c_Valley_take_back k_Valley_take_back
  have F_Valley_do_again := fun_mk (st := s_Valley_do_again) l_Valley_do_again c_Valley_do_again k_Valley_do_again
  have F_replaced := fun_mk (st := s_replaced) l_replaced c_replaced k_replaced
  have F_with_children := fun_mk (st := s_with_children) l_with_children c_with_children k_with_children
  have F_with_road := fun_mk (st := s_with_road) l_with_road c_with_road k_with_road
  have F_line := fun_mk (st := s_line) l_line c_line k_line
  have F_meeting := fun_mk (st := s_meeting) l_meeting c_meeting k_meeting
  have F_distances := fun_mk (st := s_distances) l_distances c_distances k_distances
  have F_farthest := fun_mk (st := s_farthest) l_farthest c_farthest k_farthest
  have F_ways_over := fun_mk (st := s_ways_over) l_ways_over c_ways_over k_ways_over
  have F_all_ways := fun_mk (st := s_all_ways) l_all_ways c_all_ways k_all_ways
  have F_best_places := fun_mk (st := s_best_places) l_best_places c_best_places k_best_places
  have F_nearer_ways := fun_mk (st := s_nearer_ways) l_nearer_ways c_nearer_ways k_nearer_ways
  have F_ways_to_either := fun_mk (st := s_ways_to_either) l_ways_to_either c_ways_to_either k_ways_to_either
  have F_best_two := fun_mk (st := s_best_two) l_best_two c_best_two k_best_two
  have F_are_beside := fun_mk (st := s_are_beside) l_are_beside c_are_beside k_are_beside
  have F_beside := fun_mk (st := s_beside) l_beside c_beside k_beside
  have F_branch := fun_mk (st := s_branch) l_branch c_branch k_branch
  have F_all_roads := fun_mk (st := s_all_roads) l_all_roads c_all_roads k_all_roads
  have F_children_in := fun_mk (st := s_children_in) l_children_in c_children_in k_children_in
  have F_all_children := fun_mk (st := s_all_children) l_all_children c_all_children k_all_children
  have F_branch_children := fun_mk (st := s_branch_children) l_branch_children c_branch_children k_branch_children
  have F_heaviest := fun_mk (st := s_heaviest) l_heaviest c_heaviest k_heaviest
  have F_over_half := fun_mk (st := s_over_half) l_over_half c_over_half k_over_half
  have F_step_to_half := fun_mk (st := s_step_to_half) l_step_to_half c_step_to_half k_step_to_half
  have F_way_to_half := fun_mk (st := s_way_to_half) l_way_to_half c_way_to_half k_way_to_half
  have F_is_road := fun_mk (st := s_is_road) l_is_road c_is_road k_is_road
  have F_bits := fun_mk (st := s_bits) l_bits c_bits k_bits
  have F_padded := fun_mk (st := s_padded) l_padded c_padded k_padded
  have F_row := fun_mk (st := s_row) l_row c_row k_row
  have F_va_start := fun_mk (st := s_va_start) l_va_start c_va_start k_va_start
  have F_va_village := fun_mk (st := s_va_village) l_va_village c_va_village k_va_village
  have F_va_many := fun_mk (st := s_va_many) l_va_many c_va_many k_va_many
  have F_va_road := fun_mk (st := s_va_road) l_va_road c_va_road k_va_road
  have F_va_drop := fun_mk (st := s_va_drop) l_va_drop c_va_drop k_va_drop
  have F_va_far := fun_mk (st := s_va_far) l_va_far c_va_far k_va_far
  have F_va_ways := fun_mk (st := s_va_ways) l_va_ways c_va_ways k_va_ways
  have F_va_best := fun_mk (st := s_va_best) l_va_best c_va_best k_va_best
  have F_va_all := fun_mk (st := s_va_all) l_va_all c_va_all k_va_all
  have F_va_heavy := fun_mk (st := s_va_heavy) l_va_heavy c_va_heavy k_va_heavy
  have F_va_branch := fun_mk (st := s_va_branch) l_va_branch c_va_branch k_va_branch
  have F_va_toward := fun_mk (st := s_va_toward) l_va_toward c_va_toward k_va_toward
  have F_va_gain := fun_mk (st := s_va_gain) l_va_gain c_va_gain k_va_gain
  have F_va_two := fun_mk (st := s_va_two) l_va_two c_va_two k_va_two
  have F_va_both := fun_mk (st := s_va_both) l_va_both c_va_both k_va_both
  have F_va_farthest := fun_mk (st := s_va_farthest) l_va_farthest c_va_farthest k_va_farthest
  have F_va_nearer := fun_mk (st := s_va_nearer) l_va_nearer c_va_nearer k_va_nearer
  have F_va_line := fun_mk (st := s_va_line) l_va_line c_va_line k_va_line
  have F_va_beside := fun_mk (st := s_va_beside) l_va_beside c_va_beside k_va_beside
  have F_va_till := fun_mk (st := s_va_till) l_va_till c_va_till k_va_till
  have F_va_without := fun_mk (st := s_va_without) l_va_without c_va_without k_va_without
  have F_va_look := fun_mk (st := s_va_look) l_va_look c_va_look k_va_look
  have F_va_sums := fun_mk (st := s_va_sums) l_va_sums c_va_sums k_va_sums
  have F_va_back := fun_mk (st := s_va_back) l_va_back c_va_back k_va_back
  have F_va_again := fun_mk (st := s_va_again) l_va_again c_va_again k_va_again
  have F_va_state := fun_mk (st := s_va_state) l_va_state c_va_state k_va_state
  have F_answer := fun_mk (st := s_answer) l_answer c_answer k_answer
  have F_answers := fun_mk (st := s_answers) l_answers c_answers k_answers
  have t_best_two := tab_mk a_best_two l_best_two g_best_two lc_best_two hv_best_two
  have h_best_two := codeT_hd lc_best_two hh_best_two
  have t_heaviest := tab_mk a_heaviest l_heaviest g_heaviest lc_heaviest hv_heaviest
  have h_heaviest := codeT_hd lc_heaviest hh_heaviest
  refine ⟨⟨c_Village, f_Village_init, (PySem.W.fnOf "__init__" "Village.__init__" (defArgs s_Village_init) (defBody s_Village_init) (defScope s_Village_init) .none kV_Village_init dc_Village_init pm_Village_init an_Village_init cd_Village_init ct_Village_init), c_Valley, f_Valley_init, (PySem.W.fnOf "__init__" "Valley.__init__" (defArgs s_Valley_init) (defBody s_Valley_init) (defScope s_Valley_init) .none kV_Valley_init dc_Valley_init pm_Valley_init an_Valley_init cd_Valley_init ct_Valley_init), f_Valley_begin, (PySem.W.fnOf "begin" "Valley.begin" (defArgs s_Valley_begin) (defBody s_Valley_begin) (defScope s_Valley_begin) .none kV_Valley_begin dc_Valley_begin pm_Valley_begin an_Valley_begin cd_Valley_begin ct_Valley_begin), f_Valley_change, (PySem.W.fnOf "change" "Valley.change" (defArgs s_Valley_change) (defBody s_Valley_change) (defScope s_Valley_change) .none kV_Valley_change dc_Valley_change pm_Valley_change an_Valley_change cd_Valley_change ct_Valley_change), f_Valley_take_back, (PySem.W.fnOf "take_back" "Valley.take_back" (defArgs s_Valley_take_back) (defBody s_Valley_take_back) (defScope s_Valley_take_back) .none kV_Valley_take_back dc_Valley_take_back pm_Valley_take_back an_Valley_take_back cd_Valley_take_back ct_Valley_take_back), f_Valley_do_again, (PySem.W.fnOf "do_again" "Valley.do_again" (defArgs s_Valley_do_again) (defBody s_Valley_do_again) (defScope s_Valley_do_again) .none kV_Valley_do_again dc_Valley_do_again pm_Valley_do_again an_Valley_do_again cd_Valley_do_again ct_Valley_do_again), f_replaced, (PySem.W.fnOf "replaced" "replaced" (defArgs s_replaced) (defBody s_replaced) (defScope s_replaced) .none kV_replaced dc_replaced pm_replaced an_replaced cd_replaced ct_replaced), f_with_children, (PySem.W.fnOf "with_children" "with_children" (defArgs s_with_children) (defBody s_with_children) (defScope s_with_children) .none kV_with_children dc_with_children pm_with_children an_with_children cd_with_children ct_with_children), f_with_road, (PySem.W.fnOf "with_road" "with_road" (defArgs s_with_road) (defBody s_with_road) (defScope s_with_road) .none kV_with_road dc_with_road pm_with_road an_with_road cd_with_road ct_with_road), f_line, (PySem.W.fnOf "line" "line" (defArgs s_line) (defBody s_line) (defScope s_line) .none kV_line dc_line pm_line an_line cd_line ct_line), f_meeting, (PySem.W.fnOf "meeting" "meeting" (defArgs s_meeting) (defBody s_meeting) (defScope s_meeting) .none kV_meeting dc_meeting pm_meeting an_meeting cd_meeting ct_meeting), f_distances, (PySem.W.fnOf "distances" "distances" (defArgs s_distances) (defBody s_distances) (defScope s_distances) .none kV_distances dc_distances pm_distances an_distances cd_distances ct_distances), f_farthest, (PySem.W.fnOf "farthest" "farthest" (defArgs s_farthest) (defBody s_farthest) (defScope s_farthest) .none kV_farthest dc_farthest pm_farthest an_farthest cd_farthest ct_farthest), f_ways_over, (PySem.W.fnOf "ways_over" "ways_over" (defArgs s_ways_over) (defBody s_ways_over) (defScope s_ways_over) .none kV_ways_over dc_ways_over pm_ways_over an_ways_over cd_ways_over ct_ways_over), f_all_ways, (PySem.W.fnOf "all_ways" "all_ways" (defArgs s_all_ways) (defBody s_all_ways) (defScope s_all_ways) .none kV_all_ways dc_all_ways pm_all_ways an_all_ways cd_all_ways ct_all_ways), f_best_places, (PySem.W.fnOf "best_places" "best_places" (defArgs s_best_places) (defBody s_best_places) (defScope s_best_places) .none kV_best_places dc_best_places pm_best_places an_best_places cd_best_places ct_best_places), f_nearer_ways, (PySem.W.fnOf "nearer_ways" "nearer_ways" (defArgs s_nearer_ways) (defBody s_nearer_ways) (defScope s_nearer_ways) .none kV_nearer_ways dc_nearer_ways pm_nearer_ways an_nearer_ways cd_nearer_ways ct_nearer_ways), f_ways_to_either, (PySem.W.fnOf "ways_to_either" "ways_to_either" (defArgs s_ways_to_either) (defBody s_ways_to_either) (defScope s_ways_to_either) .none kV_ways_to_either dc_ways_to_either pm_ways_to_either an_ways_to_either cd_ways_to_either ct_ways_to_either), f_best_two, (PySem.W.fnOf "best_two" "best_two" (defArgs s_best_two) (defBody s_best_two) (defScope s_best_two) .none kV_best_two dc_best_two pm_best_two an_best_two cd_best_two ct_best_two), f_are_beside, (PySem.W.fnOf "are_beside" "are_beside" (defArgs s_are_beside) (defBody s_are_beside) (defScope s_are_beside) .none kV_are_beside dc_are_beside pm_are_beside an_are_beside cd_are_beside ct_are_beside), f_beside, (PySem.W.fnOf "beside" "beside" (defArgs s_beside) (defBody s_beside) (defScope s_beside) .none kV_beside dc_beside pm_beside an_beside cd_beside ct_beside), f_branch, (PySem.W.fnOf "branch" "branch" (defArgs s_branch) (defBody s_branch) (defScope s_branch) .none kV_branch dc_branch pm_branch an_branch cd_branch ct_branch), f_all_roads, (PySem.W.fnOf "all_roads" "all_roads" (defArgs s_all_roads) (defBody s_all_roads) (defScope s_all_roads) .none kV_all_roads dc_all_roads pm_all_roads an_all_roads cd_all_roads ct_all_roads), f_children_in, (PySem.W.fnOf "children_in" "children_in" (defArgs s_children_in) (defBody s_children_in) (defScope s_children_in) .none kV_children_in dc_children_in pm_children_in an_children_in cd_children_in ct_children_in), f_all_children, (PySem.W.fnOf "all_children" "all_children" (defArgs s_all_children) (defBody s_all_children) (defScope s_all_children) .none kV_all_children dc_all_children pm_all_children an_all_children cd_all_children ct_all_children), f_branch_children, (PySem.W.fnOf "branch_children" "branch_children" (defArgs s_branch_children) (defBody s_branch_children) (defScope s_branch_children) .none kV_branch_children dc_branch_children pm_branch_children an_branch_children cd_branch_children ct_branch_children), f_heaviest, (PySem.W.fnOf "heaviest" "heaviest" (defArgs s_heaviest) (defBody s_heaviest) (defScope s_heaviest) .none kV_heaviest dc_heaviest pm_heaviest an_heaviest cd_heaviest ct_heaviest), f_over_half, (PySem.W.fnOf "over_half" "over_half" (defArgs s_over_half) (defBody s_over_half) (defScope s_over_half) .none kV_over_half dc_over_half pm_over_half an_over_half cd_over_half ct_over_half), f_step_to_half, (PySem.W.fnOf "step_to_half" "step_to_half" (defArgs s_step_to_half) (defBody s_step_to_half) (defScope s_step_to_half) .none kV_step_to_half dc_step_to_half pm_step_to_half an_step_to_half cd_step_to_half ct_step_to_half), f_way_to_half, (PySem.W.fnOf "way_to_half" "way_to_half" (defArgs s_way_to_half) (defBody s_way_to_half) (defScope s_way_to_half) .none kV_way_to_half dc_way_to_half pm_way_to_half an_way_to_half cd_way_to_half ct_way_to_half), f_is_road, (PySem.W.fnOf "is_road" "is_road" (defArgs s_is_road) (defBody s_is_road) (defScope s_is_road) .none kV_is_road dc_is_road pm_is_road an_is_road cd_is_road ct_is_road), f_bits, (PySem.W.fnOf "bits" "bits" (defArgs s_bits) (defBody s_bits) (defScope s_bits) .none kV_bits dc_bits pm_bits an_bits cd_bits ct_bits), f_padded, (PySem.W.fnOf "padded" "padded" (defArgs s_padded) (defBody s_padded) (defScope s_padded) .none kV_padded dc_padded pm_padded an_padded cd_padded ct_padded), f_row, (PySem.W.fnOf "row" "row" (defArgs s_row) (defBody s_row) (defScope s_row) .none kV_row dc_row pm_row an_row cd_row ct_row), f_va_start, (PySem.W.fnOf "va_start" "va_start" (defArgs s_va_start) (defBody s_va_start) (defScope s_va_start) .none kV_va_start dc_va_start pm_va_start an_va_start cd_va_start ct_va_start), f_va_village, (PySem.W.fnOf "va_village" "va_village" (defArgs s_va_village) (defBody s_va_village) (defScope s_va_village) .none kV_va_village dc_va_village pm_va_village an_va_village cd_va_village ct_va_village), f_va_many, (PySem.W.fnOf "va_many" "va_many" (defArgs s_va_many) (defBody s_va_many) (defScope s_va_many) .none kV_va_many dc_va_many pm_va_many an_va_many cd_va_many ct_va_many), f_va_road, (PySem.W.fnOf "va_road" "va_road" (defArgs s_va_road) (defBody s_va_road) (defScope s_va_road) .none kV_va_road dc_va_road pm_va_road an_va_road cd_va_road ct_va_road), f_va_drop, (PySem.W.fnOf "va_drop" "va_drop" (defArgs s_va_drop) (defBody s_va_drop) (defScope s_va_drop) .none kV_va_drop dc_va_drop pm_va_drop an_va_drop cd_va_drop ct_va_drop), f_va_far, (PySem.W.fnOf "va_far" "va_far" (defArgs s_va_far) (defBody s_va_far) (defScope s_va_far) .none kV_va_far dc_va_far pm_va_far an_va_far cd_va_far ct_va_far), f_va_ways, (PySem.W.fnOf "va_ways" "va_ways" (defArgs s_va_ways) (defBody s_va_ways) (defScope s_va_ways) .none kV_va_ways dc_va_ways pm_va_ways an_va_ways cd_va_ways ct_va_ways), f_va_best, (PySem.W.fnOf "va_best" "va_best" (defArgs s_va_best) (defBody s_va_best) (defScope s_va_best) .none kV_va_best dc_va_best pm_va_best an_va_best cd_va_best ct_va_best), f_va_all, (PySem.W.fnOf "va_all" "va_all" (defArgs s_va_all) (defBody s_va_all) (defScope s_va_all) .none kV_va_all dc_va_all pm_va_all an_va_all cd_va_all ct_va_all), f_va_heavy, (PySem.W.fnOf "va_heavy" "va_heavy" (defArgs s_va_heavy) (defBody s_va_heavy) (defScope s_va_heavy) .none kV_va_heavy dc_va_heavy pm_va_heavy an_va_heavy cd_va_heavy ct_va_heavy), f_va_branch, (PySem.W.fnOf "va_branch" "va_branch" (defArgs s_va_branch) (defBody s_va_branch) (defScope s_va_branch) .none kV_va_branch dc_va_branch pm_va_branch an_va_branch cd_va_branch ct_va_branch), f_va_toward, (PySem.W.fnOf "va_toward" "va_toward" (defArgs s_va_toward) (defBody s_va_toward) (defScope s_va_toward) .none kV_va_toward dc_va_toward pm_va_toward an_va_toward cd_va_toward ct_va_toward), f_va_gain, (PySem.W.fnOf "va_gain" "va_gain" (defArgs s_va_gain) (defBody s_va_gain) (defScope s_va_gain) .none kV_va_gain dc_va_gain pm_va_gain an_va_gain cd_va_gain ct_va_gain), f_va_two, (PySem.W.fnOf "va_two" "va_two" (defArgs s_va_two) (defBody s_va_two) (defScope s_va_two) .none kV_va_two dc_va_two pm_va_two an_va_two cd_va_two ct_va_two), f_va_both, (PySem.W.fnOf "va_both" "va_both" (defArgs s_va_both) (defBody s_va_both) (defScope s_va_both) .none kV_va_both dc_va_both pm_va_both an_va_both cd_va_both ct_va_both), f_va_farthest, (PySem.W.fnOf "va_farthest" "va_farthest" (defArgs s_va_farthest) (defBody s_va_farthest) (defScope s_va_farthest) .none kV_va_farthest dc_va_farthest pm_va_farthest an_va_farthest cd_va_farthest ct_va_farthest), f_va_nearer, (PySem.W.fnOf "va_nearer" "va_nearer" (defArgs s_va_nearer) (defBody s_va_nearer) (defScope s_va_nearer) .none kV_va_nearer dc_va_nearer pm_va_nearer an_va_nearer cd_va_nearer ct_va_nearer), f_va_line, (PySem.W.fnOf "va_line" "va_line" (defArgs s_va_line) (defBody s_va_line) (defScope s_va_line) .none kV_va_line dc_va_line pm_va_line an_va_line cd_va_line ct_va_line), f_va_beside, (PySem.W.fnOf "va_beside" "va_beside" (defArgs s_va_beside) (defBody s_va_beside) (defScope s_va_beside) .none kV_va_beside dc_va_beside pm_va_beside an_va_beside cd_va_beside ct_va_beside), f_va_till, (PySem.W.fnOf "va_till" "va_till" (defArgs s_va_till) (defBody s_va_till) (defScope s_va_till) .none kV_va_till dc_va_till pm_va_till an_va_till cd_va_till ct_va_till), f_va_without, (PySem.W.fnOf "va_without" "va_without" (defArgs s_va_without) (defBody s_va_without) (defScope s_va_without) .none kV_va_without dc_va_without pm_va_without an_va_without cd_va_without ct_va_without), f_va_look, (PySem.W.fnOf "va_look" "va_look" (defArgs s_va_look) (defBody s_va_look) (defScope s_va_look) .none kV_va_look dc_va_look pm_va_look an_va_look cd_va_look ct_va_look), f_va_sums, (PySem.W.fnOf "va_sums" "va_sums" (defArgs s_va_sums) (defBody s_va_sums) (defScope s_va_sums) .none kV_va_sums dc_va_sums pm_va_sums an_va_sums cd_va_sums ct_va_sums), f_va_back, (PySem.W.fnOf "va_back" "va_back" (defArgs s_va_back) (defBody s_va_back) (defScope s_va_back) .none kV_va_back dc_va_back pm_va_back an_va_back cd_va_back ct_va_back), f_va_again, (PySem.W.fnOf "va_again" "va_again" (defArgs s_va_again) (defBody s_va_again) (defScope s_va_again) .none kV_va_again dc_va_again pm_va_again an_va_again cd_va_again ct_va_again), f_va_state, (PySem.W.fnOf "va_state" "va_state" (defArgs s_va_state) (defBody s_va_state) (defScope s_va_state) .none kV_va_state dc_va_state pm_va_state an_va_state cd_va_state ct_va_state), f_answer, (PySem.W.fnOf "answer" "answer" (defArgs s_answer) (defBody s_answer) (defScope s_answer) .none kV_answer dc_answer pm_answer an_answer cd_answer ct_answer), f_answers, (PySem.W.fnOf "answers" "answers" (defArgs s_answers) (defBody s_answers) (defScope s_answers) .none kV_answers dc_answers pm_answers an_answers cd_answers ct_answers), a_CALLS⟩, ?T, ⟨fun z => by have z : c_Village = c_Valley := z; rw [z] at two; simp at two⟩, rfl, ⟨[r_0, r_1, r_2, r_3, r_4, r_5, r_6, r_7, r_8, r_9, r_10, r_11, r_12, r_13, r_14, r_15, r_16, r_17, r_18, r_19, r_20, r_21, r_22, r_23, r_24, r_25], fun H => ?_, fun c hc => ?_⟩, fun base kb bm => ?_⟩
  case T => exact ⟨⟨pg_Village, hd_Village, po_Village, sa_Village⟩,
    PySem.W.mg_of X G a_Village,
    n_Village_children,
    n_Village_road,
    n_Village_up,
    ⟨mk_Village, a_Village_init, i_Village_init, kc_Village⟩,
    F_Village_init,
    F_Village_init.binds (ps := ["self", "up", "road", "children"]) fun _ _ _ _ _ _ us hl => match us, hl with | [_, _, _, _], _ => rfl,
    ⟨pg_Valley, hd_Valley, po_Valley, sa_Valley⟩,
    PySem.W.mg_of X G a_Valley,
    n_Valley_earlier,
    n_Valley_later,
    n_Valley_villages,
    ⟨mk_Valley, a_Valley_init, i_Valley_init, kc_Valley⟩,
    F_Valley_init,
    F_Valley_init.binds (ps := ["self"]) fun _ _ _ _ _ _ us hl => match us, hl with | [_], _ => rfl,
    ⟨a_Valley_begin, i_Valley_begin, k_Valley_begin⟩,
    F_Valley_begin,
    F_Valley_begin.binds (ps := ["self", "villages"]) fun _ _ _ _ _ _ us hl => match us, hl with | [_, _], _ => rfl,
    ⟨a_Valley_change, i_Valley_change, k_Valley_change⟩,
    F_Valley_change,
    F_Valley_change.binds (ps := ["self", "villages"]) fun _ _ _ _ _ _ us hl => match us, hl with | [_, _], _ => rfl,
    ⟨a_Valley_take_back, i_Valley_take_back, k_Valley_take_back⟩,
    F_Valley_take_back,
    F_Valley_take_back.binds (ps := ["self"]) fun _ _ _ _ _ _ us hl => match us, hl with | [_], _ => rfl,
    ⟨a_Valley_do_again, i_Valley_do_again, k_Valley_do_again⟩,
    F_Valley_do_again,
    F_Valley_do_again.binds (ps := ["self"]) fun _ _ _ _ _ _ us hl => match us, hl with | [_], _ => rfl,
    ⟨F_replaced, F_replaced.binds (ps := ["villages", "v", "village"]) fun _ _ _ _ _ _ us hl => match us, hl with | [_, _, _], _ => rfl, PySem.W.mg_of X G a_replaced⟩,
    ⟨F_with_children, F_with_children.binds (ps := ["villages", "v", "many"]) fun _ _ _ _ _ _ us hl => match us, hl with | [_, _, _], _ => rfl, PySem.W.mg_of X G a_with_children⟩,
    ⟨F_with_road, F_with_road.binds (ps := ["villages", "v", "far"]) fun _ _ _ _ _ _ us hl => match us, hl with | [_, _, _], _ => rfl, PySem.W.mg_of X G a_with_road⟩,
    ⟨F_line, F_line.binds (ps := ["villages", "v"]) fun _ _ _ _ _ _ us hl => match us, hl with | [_, _], _ => rfl, PySem.W.mg_of X G a_line⟩,
    ⟨F_meeting, F_meeting.binds (ps := ["villages", "v", "w"]) fun _ _ _ _ _ _ us hl => match us, hl with | [_, _, _], _ => rfl, PySem.W.mg_of X G a_meeting⟩,
    ⟨F_distances, F_distances.binds (ps := ["villages", "v"]) fun _ _ _ _ _ _ us hl => match us, hl with | [_, _], _ => rfl, PySem.W.mg_of X G a_distances⟩,
    ⟨F_farthest, F_farthest.binds (ps := ["villages", "v"]) fun _ _ _ _ _ _ us hl => match us, hl with | [_, _], _ => rfl, PySem.W.mg_of X G a_farthest⟩,
    ⟨F_ways_over, F_ways_over.binds (ps := ["villages", "far"]) fun _ _ _ _ _ _ us hl => match us, hl with | [_, _], _ => rfl, PySem.W.mg_of X G a_ways_over⟩,
    ⟨F_all_ways, F_all_ways.binds (ps := ["villages", "v"]) fun _ _ _ _ _ _ us hl => match us, hl with | [_, _], _ => rfl, PySem.W.mg_of X G a_all_ways⟩,
    ⟨F_best_places, F_best_places.binds (ps := ["villages"]) fun _ _ _ _ _ _ us hl => match us, hl with | [_], _ => rfl, PySem.W.mg_of X G a_best_places⟩,
    ⟨F_nearer_ways, F_nearer_ways.binds (ps := ["villages", "far", "other"]) fun _ _ _ _ _ _ us hl => match us, hl with | [_, _, _], _ => rfl, PySem.W.mg_of X G a_nearer_ways⟩,
    ⟨F_ways_to_either, F_ways_to_either.binds (ps := ["villages", "v", "w"]) fun _ _ _ _ _ _ us hl => match us, hl with | [_, _, _], _ => rfl, PySem.W.mg_of X G a_ways_to_either⟩,
    ⟨F_best_two, F_best_two.binds (ps := ["villages"]) fun _ _ _ _ _ _ us hl => match us, hl with | [_], _ => rfl, PySem.W.mg_of X G a_best_two⟩,
    ⟨F_are_beside, F_are_beside.binds (ps := ["villages", "v", "w"]) fun _ _ _ _ _ _ us hl => match us, hl with | [_, _, _], _ => rfl, PySem.W.mg_of X G a_are_beside⟩,
    ⟨F_beside, F_beside.binds (ps := ["villages", "v"]) fun _ _ _ _ _ _ us hl => match us, hl with | [_, _], _ => rfl, PySem.W.mg_of X G a_beside⟩,
    ⟨F_branch, F_branch.binds (ps := ["villages", "v", "w"]) fun _ _ _ _ _ _ us hl => match us, hl with | [_, _, _], _ => rfl, PySem.W.mg_of X G a_branch⟩,
    ⟨F_all_roads, F_all_roads.binds (ps := ["villages"]) fun _ _ _ _ _ _ us hl => match us, hl with | [_], _ => rfl, PySem.W.mg_of X G a_all_roads⟩,
    ⟨F_children_in, F_children_in.binds (ps := ["villages", "places"]) fun _ _ _ _ _ _ us hl => match us, hl with | [_, _], _ => rfl, PySem.W.mg_of X G a_children_in⟩,
    ⟨F_all_children, F_all_children.binds (ps := ["villages"]) fun _ _ _ _ _ _ us hl => match us, hl with | [_], _ => rfl, PySem.W.mg_of X G a_all_children⟩,
    ⟨F_branch_children, F_branch_children.binds (ps := ["villages", "v", "w"]) fun _ _ _ _ _ _ us hl => match us, hl with | [_, _, _], _ => rfl, PySem.W.mg_of X G a_branch_children⟩,
    ⟨F_heaviest, F_heaviest.binds (ps := ["villages", "v"]) fun _ _ _ _ _ _ us hl => match us, hl with | [_, _], _ => rfl, PySem.W.mg_of X G a_heaviest⟩,
    ⟨F_over_half, F_over_half.binds (ps := ["villages", "v"]) fun _ _ _ _ _ _ us hl => match us, hl with | [_, _], _ => rfl, PySem.W.mg_of X G a_over_half⟩,
    ⟨F_step_to_half, F_step_to_half.binds (ps := ["villages", "v"]) fun _ _ _ _ _ _ us hl => match us, hl with | [_, _], _ => rfl, PySem.W.mg_of X G a_step_to_half⟩,
    ⟨F_way_to_half, F_way_to_half.binds (ps := ["villages", "v"]) fun _ _ _ _ _ _ us hl => match us, hl with | [_, _], _ => rfl, PySem.W.mg_of X G a_way_to_half⟩,
    ⟨F_is_road, F_is_road.binds (ps := ["far"]) fun _ _ _ _ _ _ us hl => match us, hl with | [_], _ => rfl, PySem.W.mg_of X G a_is_road⟩,
    ⟨F_bits, F_bits.binds (ps := ["places"]) fun _ _ _ _ _ _ us hl => match us, hl with | [_], _ => rfl, PySem.W.mg_of X G a_bits⟩,
    ⟨F_padded, F_padded.binds (ps := ["numbers"]) fun _ _ _ _ _ _ us hl => match us, hl with | [_], _ => rfl, PySem.W.mg_of X G a_padded⟩,
    ⟨F_row, F_row.binds (ps := ["places"]) fun _ _ _ _ _ _ us hl => match us, hl with | [_], _ => rfl, PySem.W.mg_of X G a_row⟩,
    ⟨F_va_start, F_va_start.binds (ps := ["valley", "numbers"]) fun _ _ _ _ _ _ us hl => match us, hl with | [_, _], _ => rfl, PySem.W.mg_of X G a_va_start⟩,
    ⟨F_va_village, F_va_village.binds (ps := ["valley", "numbers"]) fun _ _ _ _ _ _ us hl => match us, hl with | [_, _], _ => rfl, PySem.W.mg_of X G a_va_village⟩,
    ⟨F_va_many, F_va_many.binds (ps := ["valley", "numbers"]) fun _ _ _ _ _ _ us hl => match us, hl with | [_, _], _ => rfl, PySem.W.mg_of X G a_va_many⟩,
    ⟨F_va_road, F_va_road.binds (ps := ["valley", "numbers"]) fun _ _ _ _ _ _ us hl => match us, hl with | [_, _], _ => rfl, PySem.W.mg_of X G a_va_road⟩,
    ⟨F_va_drop, F_va_drop.binds (ps := ["valley", "numbers"]) fun _ _ _ _ _ _ us hl => match us, hl with | [_, _], _ => rfl, PySem.W.mg_of X G a_va_drop⟩,
    ⟨F_va_far, F_va_far.binds (ps := ["valley", "numbers"]) fun _ _ _ _ _ _ us hl => match us, hl with | [_, _], _ => rfl, PySem.W.mg_of X G a_va_far⟩,
    ⟨F_va_ways, F_va_ways.binds (ps := ["valley", "numbers"]) fun _ _ _ _ _ _ us hl => match us, hl with | [_, _], _ => rfl, PySem.W.mg_of X G a_va_ways⟩,
    ⟨F_va_best, F_va_best.binds (ps := ["valley", "numbers"]) fun _ _ _ _ _ _ us hl => match us, hl with | [_, _], _ => rfl, PySem.W.mg_of X G a_va_best⟩,
    ⟨F_va_all, F_va_all.binds (ps := ["valley", "numbers"]) fun _ _ _ _ _ _ us hl => match us, hl with | [_, _], _ => rfl, PySem.W.mg_of X G a_va_all⟩,
    ⟨F_va_heavy, F_va_heavy.binds (ps := ["valley", "numbers"]) fun _ _ _ _ _ _ us hl => match us, hl with | [_, _], _ => rfl, PySem.W.mg_of X G a_va_heavy⟩,
    ⟨F_va_branch, F_va_branch.binds (ps := ["valley", "numbers"]) fun _ _ _ _ _ _ us hl => match us, hl with | [_, _], _ => rfl, PySem.W.mg_of X G a_va_branch⟩,
    ⟨F_va_toward, F_va_toward.binds (ps := ["valley", "numbers"]) fun _ _ _ _ _ _ us hl => match us, hl with | [_, _], _ => rfl, PySem.W.mg_of X G a_va_toward⟩,
    ⟨F_va_gain, F_va_gain.binds (ps := ["valley", "numbers"]) fun _ _ _ _ _ _ us hl => match us, hl with | [_, _], _ => rfl, PySem.W.mg_of X G a_va_gain⟩,
    ⟨F_va_two, F_va_two.binds (ps := ["valley", "numbers"]) fun _ _ _ _ _ _ us hl => match us, hl with | [_, _], _ => rfl, PySem.W.mg_of X G a_va_two⟩,
    ⟨F_va_both, F_va_both.binds (ps := ["valley", "numbers"]) fun _ _ _ _ _ _ us hl => match us, hl with | [_, _], _ => rfl, PySem.W.mg_of X G a_va_both⟩,
    ⟨F_va_farthest, F_va_farthest.binds (ps := ["valley", "numbers"]) fun _ _ _ _ _ _ us hl => match us, hl with | [_, _], _ => rfl, PySem.W.mg_of X G a_va_farthest⟩,
    ⟨F_va_nearer, F_va_nearer.binds (ps := ["valley", "numbers"]) fun _ _ _ _ _ _ us hl => match us, hl with | [_, _], _ => rfl, PySem.W.mg_of X G a_va_nearer⟩,
    ⟨F_va_line, F_va_line.binds (ps := ["valley", "numbers"]) fun _ _ _ _ _ _ us hl => match us, hl with | [_, _], _ => rfl, PySem.W.mg_of X G a_va_line⟩,
    ⟨F_va_beside, F_va_beside.binds (ps := ["valley", "numbers"]) fun _ _ _ _ _ _ us hl => match us, hl with | [_, _], _ => rfl, PySem.W.mg_of X G a_va_beside⟩,
    ⟨F_va_till, F_va_till.binds (ps := ["valley", "numbers"]) fun _ _ _ _ _ _ us hl => match us, hl with | [_, _], _ => rfl, PySem.W.mg_of X G a_va_till⟩,
    ⟨F_va_without, F_va_without.binds (ps := ["valley", "numbers"]) fun _ _ _ _ _ _ us hl => match us, hl with | [_, _], _ => rfl, PySem.W.mg_of X G a_va_without⟩,
    ⟨F_va_look, F_va_look.binds (ps := ["valley", "numbers"]) fun _ _ _ _ _ _ us hl => match us, hl with | [_, _], _ => rfl, PySem.W.mg_of X G a_va_look⟩,
    ⟨F_va_sums, F_va_sums.binds (ps := ["valley", "numbers"]) fun _ _ _ _ _ _ us hl => match us, hl with | [_, _], _ => rfl, PySem.W.mg_of X G a_va_sums⟩,
    ⟨F_va_back, F_va_back.binds (ps := ["valley", "numbers"]) fun _ _ _ _ _ _ us hl => match us, hl with | [_, _], _ => rfl, PySem.W.mg_of X G a_va_back⟩,
    ⟨F_va_again, F_va_again.binds (ps := ["valley", "numbers"]) fun _ _ _ _ _ _ us hl => match us, hl with | [_, _], _ => rfl, PySem.W.mg_of X G a_va_again⟩,
    ⟨F_va_state, F_va_state.binds (ps := ["valley", "numbers"]) fun _ _ _ _ _ _ us hl => match us, hl with | [_, _], _ => rfl, PySem.W.mg_of X G a_va_state⟩,
    ⟨F_answer, F_answer.binds (ps := ["valley", "call", "numbers"]) fun _ _ _ _ _ _ us hl => match us, hl with | [_, _, _], _ => rfl, PySem.W.mg_of X G a_answer⟩,
    ⟨F_answers, F_answers.binds (ps := ["calls"]) fun _ _ _ _ _ _ us hl => match us, hl with | [_], _ => rfl, PySem.W.mg_of X G a_answers⟩,
    ⟨x_NO_VILLAGE, PySem.W.mg_of X G v_NO_VILLAGE⟩,
    ⟨x_NO_CHANGE, PySem.W.mg_of X G v_NO_CHANGE⟩,
    ⟨x_ALONE, PySem.W.mg_of X G v_ALONE⟩,
    ⟨x_OUT_OF_BOUNDS, PySem.W.mg_of X G v_OUT_OF_BOUNDS⟩,
    ⟨x_FULL, PySem.W.mg_of X G v_FULL⟩,
    ⟨x_NOT_THIS_ONE, PySem.W.mg_of X G v_NOT_THIS_ONE⟩,
    ⟨x_MOST_VILLAGES, PySem.W.mg_of X G v_MOST_VILLAGES⟩,
    ⟨x_MOST_CHILDREN, PySem.W.mg_of X G v_MOST_CHILDREN⟩,
    ⟨x_LONGEST_ROAD, PySem.W.mg_of X G v_LONGEST_ROAD⟩,
    ⟨x_MOST_TAKEN_BACK, PySem.W.mg_of X G v_MOST_TAKEN_BACK⟩,
    PySem.W.mg_of X G v_CALLS,
    PySem.W.mg_none_of X G b_len,
    PySem.W.mg_none_of X G b_max,
    PySem.W.mg_none_of X G b_min,
    PySem.W.mg_none_of X G b_range,
    PySem.W.mg_none_of X G b_sum⟩
  · exact .inr ⟨_, _, _, l_T, rfl, rfl, by show 26 ≤ sizeLine; decide, (.cons rfl <| .cons rfl <| .cons rfl <| .cons rfl <| .cons rfl <| .cons rfl <| .cons rfl <| .cons rfl <| .cons rfl <| .cons rfl <| .cons rfl <| .cons rfl <| .cons rfl <| .cons rfl <| .cons rfl <| .cons rfl <| .cons rfl <| .cons rfl <| .cons rfl <| .cons rfl <| .cons rfl <| .cons rfl <| .cons rfl <| .cons rfl <| .cons rfl <| .cons rfl <| .nil)⟩
  · rcases lt_rows hc with rfl | rfl | rfl | rfl | rfl | rfl | rfl | rfl | rfl | rfl | rfl | rfl | rfl | rfl | rfl | rfl | rfl | rfl | rfl | rfl | rfl | rfl | rfl | rfl | rfl | rfl
    · exact ⟨r_0, rfl, fun H => .inr ⟨_, _, _, l_T0, rfl, rfl, by show 3 ≤ sizeLine; decide, .cons rfl (.cons ⟨_, rfl⟩ (.cons ⟨_, rfl⟩ .nil))⟩⟩
    · exact ⟨r_1, rfl, fun H => .inr ⟨_, _, _, l_T1, rfl, rfl, by show 3 ≤ sizeLine; decide, .cons rfl (.cons ⟨_, rfl⟩ (.cons ⟨_, rfl⟩ .nil))⟩⟩
    · exact ⟨r_2, rfl, fun H => .inr ⟨_, _, _, l_T2, rfl, rfl, by show 3 ≤ sizeLine; decide, .cons rfl (.cons ⟨_, rfl⟩ (.cons ⟨_, rfl⟩ .nil))⟩⟩
    · exact ⟨r_3, rfl, fun H => .inr ⟨_, _, _, l_T3, rfl, rfl, by show 3 ≤ sizeLine; decide, .cons rfl (.cons ⟨_, rfl⟩ (.cons ⟨_, rfl⟩ .nil))⟩⟩
    · exact ⟨r_4, rfl, fun H => .inr ⟨_, _, _, l_T4, rfl, rfl, by show 3 ≤ sizeLine; decide, .cons rfl (.cons ⟨_, rfl⟩ (.cons ⟨_, rfl⟩ .nil))⟩⟩
    · exact ⟨r_5, rfl, fun H => .inr ⟨_, _, _, l_T5, rfl, rfl, by show 3 ≤ sizeLine; decide, .cons rfl (.cons ⟨_, rfl⟩ (.cons ⟨_, rfl⟩ .nil))⟩⟩
    · exact ⟨r_6, rfl, fun H => .inr ⟨_, _, _, l_T6, rfl, rfl, by show 3 ≤ sizeLine; decide, .cons rfl (.cons ⟨_, rfl⟩ (.cons ⟨_, rfl⟩ .nil))⟩⟩
    · exact ⟨r_7, rfl, fun H => .inr ⟨_, _, _, l_T7, rfl, rfl, by show 3 ≤ sizeLine; decide, .cons rfl (.cons ⟨_, rfl⟩ (.cons ⟨_, rfl⟩ .nil))⟩⟩
    · exact ⟨r_8, rfl, fun H => .inr ⟨_, _, _, l_T8, rfl, rfl, by show 3 ≤ sizeLine; decide, .cons rfl (.cons ⟨_, rfl⟩ (.cons ⟨_, rfl⟩ .nil))⟩⟩
    · exact ⟨r_9, rfl, fun H => .inr ⟨_, _, _, l_T9, rfl, rfl, by show 3 ≤ sizeLine; decide, .cons rfl (.cons ⟨_, rfl⟩ (.cons ⟨_, rfl⟩ .nil))⟩⟩
    · exact ⟨r_10, rfl, fun H => .inr ⟨_, _, _, l_T10, rfl, rfl, by show 3 ≤ sizeLine; decide, .cons rfl (.cons ⟨_, rfl⟩ (.cons ⟨_, rfl⟩ .nil))⟩⟩
    · exact ⟨r_11, rfl, fun H => .inr ⟨_, _, _, l_T11, rfl, rfl, by show 3 ≤ sizeLine; decide, .cons rfl (.cons ⟨_, rfl⟩ (.cons ⟨_, rfl⟩ .nil))⟩⟩
    · exact ⟨r_12, rfl, fun H => .inr ⟨_, _, _, l_T12, rfl, rfl, by show 3 ≤ sizeLine; decide, .cons rfl (.cons ⟨_, rfl⟩ (.cons ⟨_, rfl⟩ .nil))⟩⟩
    · exact ⟨r_13, rfl, fun H => .inr ⟨_, _, _, l_T13, rfl, rfl, by show 3 ≤ sizeLine; decide, .cons rfl (.cons ⟨_, rfl⟩ (.cons ⟨_, rfl⟩ .nil))⟩⟩
    · exact ⟨r_14, rfl, fun H => .inr ⟨_, _, _, l_T14, rfl, rfl, by show 3 ≤ sizeLine; decide, .cons rfl (.cons ⟨_, rfl⟩ (.cons ⟨_, rfl⟩ .nil))⟩⟩
    · exact ⟨r_15, rfl, fun H => .inr ⟨_, _, _, l_T15, rfl, rfl, by show 3 ≤ sizeLine; decide, .cons rfl (.cons ⟨_, rfl⟩ (.cons ⟨_, rfl⟩ .nil))⟩⟩
    · exact ⟨r_16, rfl, fun H => .inr ⟨_, _, _, l_T16, rfl, rfl, by show 3 ≤ sizeLine; decide, .cons rfl (.cons ⟨_, rfl⟩ (.cons ⟨_, rfl⟩ .nil))⟩⟩
    · exact ⟨r_17, rfl, fun H => .inr ⟨_, _, _, l_T17, rfl, rfl, by show 3 ≤ sizeLine; decide, .cons rfl (.cons ⟨_, rfl⟩ (.cons ⟨_, rfl⟩ .nil))⟩⟩
    · exact ⟨r_18, rfl, fun H => .inr ⟨_, _, _, l_T18, rfl, rfl, by show 3 ≤ sizeLine; decide, .cons rfl (.cons ⟨_, rfl⟩ (.cons ⟨_, rfl⟩ .nil))⟩⟩
    · exact ⟨r_19, rfl, fun H => .inr ⟨_, _, _, l_T19, rfl, rfl, by show 3 ≤ sizeLine; decide, .cons rfl (.cons ⟨_, rfl⟩ (.cons ⟨_, rfl⟩ .nil))⟩⟩
    · exact ⟨r_20, rfl, fun H => .inr ⟨_, _, _, l_T20, rfl, rfl, by show 3 ≤ sizeLine; decide, .cons rfl (.cons ⟨_, rfl⟩ (.cons ⟨_, rfl⟩ .nil))⟩⟩
    · exact ⟨r_21, rfl, fun H => .inr ⟨_, _, _, l_T21, rfl, rfl, by show 3 ≤ sizeLine; decide, .cons rfl (.cons ⟨_, rfl⟩ (.cons ⟨_, rfl⟩ .nil))⟩⟩
    · exact ⟨r_22, rfl, fun H => .inr ⟨_, _, _, l_T22, rfl, rfl, by show 3 ≤ sizeLine; decide, .cons rfl (.cons ⟨_, rfl⟩ (.cons ⟨_, rfl⟩ .nil))⟩⟩
    · exact ⟨r_23, rfl, fun H => .inr ⟨_, _, _, l_T23, rfl, rfl, by show 3 ≤ sizeLine; decide, .cons rfl (.cons ⟨_, rfl⟩ (.cons ⟨_, rfl⟩ .nil))⟩⟩
    · exact ⟨r_24, rfl, fun H => .inr ⟨_, _, _, l_T24, rfl, rfl, by show 3 ≤ sizeLine; decide, .cons rfl (.cons ⟨_, rfl⟩ (.cons ⟨_, rfl⟩ .nil))⟩⟩
    · exact ⟨r_25, rfl, fun H => .inr ⟨_, _, _, l_T25, rfl, rfl, by show 3 ≤ sizeLine; decide, .cons rfl (.cons ⟨_, rfl⟩ (.cons ⟨_, rfl⟩ .nil))⟩⟩
  · have ets : tsK K = [la_best_two P_best_two, la_heaviest P_heaviest] := by unfold tsK; rw [t_best_two, t_heaviest]; try rfl
    refine ⟨⟨ct_best_two_, P_best_two, ?M_best_two⟩, ⟨ct_heaviest_, P_heaviest, ?M_heaviest⟩⟩
    case M_best_two =>
      refine ⟨?_, fun j hj e => ?_, g_best_two, PySem.W.codeHd_of_K kb h_best_two, bm⟩
      · rw [ets]; simp
      · rw [ets] at hj
        simp only [List.mem_cons, List.not_mem_nil, or_false] at hj
        rcases hj with rfl | rfl
        · rfl
        · have z : P_heaviest = P_best_two := e; rw [z] at ne_best_two_heaviest; simp at ne_best_two_heaviest
    case M_heaviest =>
      refine ⟨?_, fun j hj e => ?_, g_heaviest, PySem.W.codeHd_of_K kb h_heaviest, bm⟩
      · rw [ets]; simp
      · rw [ets] at hj
        simp only [List.mem_cons, List.not_mem_nil, or_false] at hj
        rcases hj with rfl | rfl
        · have z : P_best_two = P_heaviest := e; rw [z] at ne_best_two_heaviest; simp at ne_best_two_heaviest
        · rfl
end Sp

end
section
set_option Elab.async false
set_option linter.all false
set_option maxRecDepth 100000
set_option maxHeartbeats 4000000
namespace Sp
open PySem PySem.Spec PyProof.Rows L2 Mt
theorem fin {P : Program} {w : World} {K : PySem.W.Frag} {mg : Str → Option Value} {fa : Addr} (M : ∃ t : Ad, Tx K mg t ∧ Two t ∧ t.f_answers = fa ∧ (∃ rows, Tab K t 26 (fO t) rows) ∧ (∀ base : Heap, K.In base → BMain mg base → (∃ c Pt, Lam la_best_two t.g_best_two (tsK K) base mg c Pt) ∧ ∃ c Pt, Lam la_heaviest t.g_heaviest (tsK K) base mg c Pt)) :
    ∃ fd : FuncData, (∀ (s : Shared) (us : List Value), us.length = (["calls"] : List Str).length → BindsTo s fd ⟨us, []⟩ ((["calls"] : List Str).zip us)) ∧ ∀ base : Heap, K.In base → base.Ns mainGlobals mg → BMain mg base → FnOk P w K mg base CX0 14 fa fd ["calls"] (sp_answers (tsK K) K) := by
  obtain ⟨t, T, D, e, ⟨rows, B⟩, L⟩ := M
  subst e
  refine ⟨t.g_answers, fun s us hu => ?_, fun base kb nb bm => ?_⟩
  · obtain ⟨oc, od, kV, doc, pm, an, cdv, ct, osl, e, lk, hcd⟩ := T.d_answers.F.ex
    rw [e]
    match us, hu with
    | [_], _ => exact .of_eq rfl
  · obtain ⟨⟨cb, Pb, M2⟩, c, Pt, M⟩ := L base kb bm
    have F : Fns P w K mg base t (tsK K) 26 (fO t) := fun c hc => by
      rcases lt_rows hc with rfl | rfl | rfl | rfl | rfl | rfl | rfl | rfl | rfl | rfl | rfl | rfl | rfl | rfl | rfl | rfl | rfl | rfl | rfl | rfl | rfl | rfl | rfl | rfl | rfl | rfl
      · exact ⟨_, _, by decide, ok_va_start T D, T.d_va_start.F.kp, T.d_va_start.b⟩
      · exact ⟨_, _, by decide, ok_va_village T D, T.d_va_village.F.kp, T.d_va_village.b⟩
      · exact ⟨_, _, by decide, ok_va_many T D, T.d_va_many.F.kp, T.d_va_many.b⟩
      · exact ⟨_, _, by decide, ok_va_road T D, T.d_va_road.F.kp, T.d_va_road.b⟩
      · exact ⟨_, _, by decide, ok_va_drop T D, T.d_va_drop.F.kp, T.d_va_drop.b⟩
      · exact ⟨_, _, by decide, ok_va_far T, T.d_va_far.F.kp, T.d_va_far.b⟩
      · exact ⟨_, _, by decide, ok_va_ways T, T.d_va_ways.F.kp, T.d_va_ways.b⟩
      · exact ⟨_, _, by decide, ok_va_best T, T.d_va_best.F.kp, T.d_va_best.b⟩
      · exact ⟨_, _, by decide, ok_va_all T, T.d_va_all.F.kp, T.d_va_all.b⟩
      · exact ⟨_, _, by decide, ok_va_heavy T M, T.d_va_heavy.F.kp, T.d_va_heavy.b⟩
      · exact ⟨_, _, by decide, ok_va_branch T, T.d_va_branch.F.kp, T.d_va_branch.b⟩
      · exact ⟨_, _, by decide, ok_va_toward T M, T.d_va_toward.F.kp, T.d_va_toward.b⟩
      · exact ⟨_, _, by decide, ok_va_gain T, T.d_va_gain.F.kp, T.d_va_gain.b⟩
      · exact ⟨_, _, by decide, ok_va_two T M2, T.d_va_two.F.kp, T.d_va_two.b⟩
      · exact ⟨_, _, by decide, ok_va_both T, T.d_va_both.F.kp, T.d_va_both.b⟩
      · exact ⟨_, _, by decide, ok_va_farthest T, T.d_va_farthest.F.kp, T.d_va_farthest.b⟩
      · exact ⟨_, _, by decide, ok_va_nearer T, T.d_va_nearer.F.kp, T.d_va_nearer.b⟩
      · exact ⟨_, _, by decide, ok_va_line T, T.d_va_line.F.kp, T.d_va_line.b⟩
      · exact ⟨_, _, by decide, ok_va_beside T, T.d_va_beside.F.kp, T.d_va_beside.b⟩
      · exact ⟨_, _, by decide, ok_va_till T M, T.d_va_till.F.kp, T.d_va_till.b⟩
      · exact ⟨_, _, by decide, ok_va_without T, T.d_va_without.F.kp, T.d_va_without.b⟩
      · exact ⟨_, _, by decide, ok_va_look T, T.d_va_look.F.kp, T.d_va_look.b⟩
      · exact ⟨_, _, by decide, ok_va_sums T, T.d_va_sums.F.kp, T.d_va_sums.b⟩
      · exact ⟨_, _, by decide, ok_va_back T D, T.d_va_back.F.kp, T.d_va_back.b⟩
      · exact ⟨_, _, by decide, ok_va_again T D, T.d_va_again.F.kp, T.d_va_again.b⟩
      · exact ⟨_, _, by decide, ok_va_state T, T.d_va_state.F.kp, T.d_va_state.b⟩
    exact ok_answers T D B F
end Sp

end
open PySem PySem.W PyProof.Rows
set_option Elab.async false
/-! names taken, so that the head lays no second form of its greatest terms: the compiled file stays below its lid (64 MB) -/
def PySem.W.Fast.tw1471976359556644125 : Unit := ()
def PySem.W.Fast.tw543788609272633394 : Unit := ()
def PySem.W.Fast.tw15091252968739712893 : Unit := ()
def PySem.W.Fast.tw17507091011743202593 : Unit := ()
def PySem.W.Fast.tw11331297521003723162 : Unit := ()
def PySem.W.Fast.tw5822522197759962488 : Unit := ()
def PySem.W.Fast.tw5790117127372931820 : Unit := ()
def PySem.W.Fast.tw7798372167336771328 : Unit := ()
def PySem.W.Fast.tw9336926447208890395 : Unit := ()
set_option maxRecDepth 100000 in
set_option maxHeartbeats 0 in
theorem PySem.Challenge.cw_schoolplaces_s01_answers_holds : PySem.Challenge.rw_schoolplaces_s01_answers.Holds := by
  w_on; k_headS; (case hw => exact ⟨[.list [.int 0, .int 5]], by decide +kernel, by decide +kernel⟩)
  k_fillS
  refine Sp.walk_specT (r := PySem.Challenge.rw_schoolplaces_s01_answers) (k := 14) (CX := L2.CX0) (ps := ["calls"]) (sp := fun K => Sp.sp_answers (Sp.tsK K) K) (names := ["best_two", "heaviest"]) (by decide +kernel) rfl rfl ⟨rfl, by decide, by decide⟩ (fun w h Y => PySem.W.kIn_of Y) ?R ?T ?F ?S (fun _ _ _ _ z => z)
  case F =>
    intro w mg fa h Y KX G hmg
    refine' Sp.fin (w := w) (Sp.all_mk (P := PySem.Challenge.rw_schoolplaces_s01_answers.prog) (w := w) KX G hmg ?a_Village ?a_Village_init ?i_Village_init ?l_Village_init ?c_Village_init ?k_Village_init ?pg_Village ?hd_Village ?po_Village ?sa_Village ?mk_Village ?kc_Village ?n_Village_children ?n_Village_road ?n_Village_up ?a_Valley ?a_Valley_init ?i_Valley_init ?l_Valley_init ?c_Valley_init ?k_Valley_init ?a_Valley_begin ?i_Valley_begin ?l_Valley_begin ?c_Valley_begin ?k_Valley_begin ?a_Valley_change ?i_Valley_change ?l_Valley_change ?c_Valley_change ?k_Valley_change ?a_Valley_take_back ?i_Valley_take_back ?l_Valley_take_back ?c_Valley_take_back ?k_Valley_take_back ?a_Valley_do_again ?i_Valley_do_again ?l_Valley_do_again ?c_Valley_do_again ?k_Valley_do_again ?pg_Valley ?hd_Valley ?po_Valley ?sa_Valley ?mk_Valley ?kc_Valley ?n_Valley_earlier ?n_Valley_later ?n_Valley_villages ?a_replaced ?l_replaced ?c_replaced ?k_replaced ?a_with_children ?l_with_children ?c_with_children ?k_with_children ?a_with_road ?l_with_road ?c_with_road ?k_with_road ?a_line ?l_line ?c_line ?k_line ?a_meeting ?l_meeting ?c_meeting ?k_meeting ?a_distances ?l_distances ?c_distances ?k_distances ?a_farthest ?l_farthest ?c_farthest ?k_farthest ?a_ways_over ?l_ways_over ?c_ways_over ?k_ways_over ?a_all_ways ?l_all_ways ?c_all_ways ?k_all_ways ?a_best_places ?l_best_places ?c_best_places ?k_best_places ?a_nearer_ways ?l_nearer_ways ?c_nearer_ways ?k_nearer_ways ?a_ways_to_either ?l_ways_to_either ?c_ways_to_either ?k_ways_to_either ?a_best_two ?l_best_two ?c_best_two ?k_best_two ?a_are_beside ?l_are_beside ?c_are_beside ?k_are_beside ?a_beside ?l_beside ?c_beside ?k_beside ?a_branch ?l_branch ?c_branch ?k_branch ?a_all_roads ?l_all_roads ?c_all_roads ?k_all_roads ?a_children_in ?l_children_in ?c_children_in ?k_children_in ?a_all_children ?l_all_children ?c_all_children ?k_all_children ?a_branch_children ?l_branch_children ?c_branch_children ?k_branch_children ?a_heaviest ?l_heaviest ?c_heaviest ?k_heaviest ?a_over_half ?l_over_half ?c_over_half ?k_over_half ?a_step_to_half ?l_step_to_half ?c_step_to_half ?k_step_to_half ?a_way_to_half ?l_way_to_half ?c_way_to_half ?k_way_to_half ?a_is_road ?l_is_road ?c_is_road ?k_is_road ?a_bits ?l_bits ?c_bits ?k_bits ?a_padded ?l_padded ?c_padded ?k_padded ?a_row ?l_row ?c_row ?k_row ?a_va_start ?l_va_start ?c_va_start ?k_va_start ?a_va_village ?l_va_village ?c_va_village ?k_va_village ?a_va_many ?l_va_many ?c_va_many ?k_va_many ?a_va_road ?l_va_road ?c_va_road ?k_va_road ?a_va_drop ?l_va_drop ?c_va_drop ?k_va_drop ?a_va_far ?l_va_far ?c_va_far ?k_va_far ?a_va_ways ?l_va_ways ?c_va_ways ?k_va_ways ?a_va_best ?l_va_best ?c_va_best ?k_va_best ?a_va_all ?l_va_all ?c_va_all ?k_va_all ?a_va_heavy ?l_va_heavy ?c_va_heavy ?k_va_heavy ?a_va_branch ?l_va_branch ?c_va_branch ?k_va_branch ?a_va_toward ?l_va_toward ?c_va_toward ?k_va_toward ?a_va_gain ?l_va_gain ?c_va_gain ?k_va_gain ?a_va_two ?l_va_two ?c_va_two ?k_va_two ?a_va_both ?l_va_both ?c_va_both ?k_va_both ?a_va_farthest ?l_va_farthest ?c_va_farthest ?k_va_farthest ?a_va_nearer ?l_va_nearer ?c_va_nearer ?k_va_nearer ?a_va_line ?l_va_line ?c_va_line ?k_va_line ?a_va_beside ?l_va_beside ?c_va_beside ?k_va_beside ?a_va_till ?l_va_till ?c_va_till ?k_va_till ?a_va_without ?l_va_without ?c_va_without ?k_va_without ?a_va_look ?l_va_look ?c_va_look ?k_va_look ?a_va_sums ?l_va_sums ?c_va_sums ?k_va_sums ?a_va_back ?l_va_back ?c_va_back ?k_va_back ?a_va_again ?l_va_again ?c_va_again ?k_va_again ?a_va_state ?l_va_state ?c_va_state ?k_va_state ?a_answer ?l_answer ?c_answer ?k_answer ?a_answers ?l_answers ?c_answers ?k_answers ?v_NO_VILLAGE ?v_NO_CHANGE ?v_ALONE ?v_OUT_OF_BOUNDS ?v_FULL ?v_NOT_THIS_ONE ?v_MOST_VILLAGES ?v_MOST_CHILDREN ?v_LONGEST_ROAD ?v_MOST_TAKEN_BACK ?v_CALLS ?b_len ?b_max ?b_min ?b_range ?b_sum ?l_T ?l_T0 ?l_T1 ?l_T2 ?l_T3 ?l_T4 ?l_T5 ?l_T6 ?l_T7 ?l_T8 ?l_T9 ?l_T10 ?l_T11 ?l_T12 ?l_T13 ?l_T14 ?l_T15 ?l_T16 ?l_T17 ?l_T18 ?l_T19 ?l_T20 ?l_T21 ?l_T22 ?l_T23 ?l_T24 ?l_T25 ?g_best_two ?lc_best_two ?hv_best_two ?hh_best_two ?g_heaviest ?lc_heaviest ?hv_heaviest ?hh_heaviest ?two ?ne_best_two_heaviest)
    (case a_Village => k_is)
    (case a_Village_init => k_is)
    (case i_Village_init => k_is)
    (case l_Village_init => k_is)
    (case c_Village_init => k_is)
    (case k_Village_init => k_is)
    (case pg_Village => k_is)
    (case hd_Village => k_is)
    (case po_Village => k_is)
    (case sa_Village => k_is)
    (case mk_Village => k_is)
    (case kc_Village => k_is)
    (case n_Village_children => k_is)
    (case n_Village_road => k_is)
    (case n_Village_up => k_is)
    (case a_Valley => k_is)
    (case a_Valley_init => k_is)
    (case i_Valley_init => k_is)
    (case l_Valley_init => k_is)
    (case c_Valley_init => k_is)
    (case k_Valley_init => k_is)
    (case a_Valley_begin => k_is)
    (case i_Valley_begin => k_is)
    (case l_Valley_begin => k_is)
    (case c_Valley_begin => k_is)
    (case k_Valley_begin => k_is)
    (case a_Valley_change => k_is)
    (case i_Valley_change => k_is)
    (case l_Valley_change => k_is)
    (case c_Valley_change => k_is)
    (case k_Valley_change => k_is)
    (case a_Valley_take_back => k_is)
    (case i_Valley_take_back => k_is)
    (case l_Valley_take_back => k_is)
    (case c_Valley_take_back => k_is)
    (case k_Valley_take_back => k_is)
    (case a_Valley_do_again => k_is)
    (case i_Valley_do_again => k_is)
    (case l_Valley_do_again => k_is)
    (case c_Valley_do_again => k_is)
    (case k_Valley_do_again => k_is)
    (case pg_Valley => k_is)
    (case hd_Valley => k_is)
    (case po_Valley => k_is)
    (case sa_Valley => k_is)
    (case mk_Valley => k_is)
    (case kc_Valley => k_is)
    (case n_Valley_earlier => k_is)
    (case n_Valley_later => k_is)
    (case n_Valley_villages => k_is)
    (case a_replaced => k_is)
    (case l_replaced => k_is)
    (case c_replaced => k_is)
    (case k_replaced => k_is)
    (case a_with_children => k_is)
    (case l_with_children => k_is)
    (case c_with_children => k_is)
    (case k_with_children => k_is)
    (case a_with_road => k_is)
    (case l_with_road => k_is)
    (case c_with_road => k_is)
    (case k_with_road => k_is)
    (case a_line => k_is)
    (case l_line => k_is)
    (case c_line => k_is)
    (case k_line => k_is)
    (case a_meeting => k_is)
    (case l_meeting => k_is)
    (case c_meeting => k_is)
    (case k_meeting => k_is)
    (case a_distances => k_is)
    (case l_distances => k_is)
    (case c_distances => k_is)
    (case k_distances => k_is)
    (case a_farthest => k_is)
    (case l_farthest => k_is)
    (case c_farthest => k_is)
    (case k_farthest => k_is)
    (case a_ways_over => k_is)
    (case l_ways_over => k_is)
    (case c_ways_over => k_is)
    (case k_ways_over => k_is)
    (case a_all_ways => k_is)
    (case l_all_ways => k_is)
    (case c_all_ways => k_is)
    (case k_all_ways => k_is)
    (case a_best_places => k_is)
    (case l_best_places => k_is)
    (case c_best_places => k_is)
    (case k_best_places => k_is)
    (case a_nearer_ways => k_is)
    (case l_nearer_ways => k_is)
    (case c_nearer_ways => k_is)
    (case k_nearer_ways => k_is)
    (case a_ways_to_either => k_is)
    (case l_ways_to_either => k_is)
    (case c_ways_to_either => k_is)
    (case k_ways_to_either => k_is)
    (case a_best_two => k_is)
    (case l_best_two => k_is)
    (case c_best_two => k_is)
    (case k_best_two => k_is)
    (case a_are_beside => k_is)
    (case l_are_beside => k_is)
    (case c_are_beside => k_is)
    (case k_are_beside => k_is)
    (case a_beside => k_is)
    (case l_beside => k_is)
    (case c_beside => k_is)
    (case k_beside => k_is)
    (case a_branch => k_is)
    (case l_branch => k_is)
    (case c_branch => k_is)
    (case k_branch => k_is)
    (case a_all_roads => k_is)
    (case l_all_roads => k_is)
    (case c_all_roads => k_is)
    (case k_all_roads => k_is)
    (case a_children_in => k_is)
    (case l_children_in => k_is)
    (case c_children_in => k_is)
    (case k_children_in => k_is)
    (case a_all_children => k_is)
    (case l_all_children => k_is)
    (case c_all_children => k_is)
    (case k_all_children => k_is)
    (case a_branch_children => k_is)
    (case l_branch_children => k_is)
    (case c_branch_children => k_is)
    (case k_branch_children => k_is)
    (case a_heaviest => k_is)
    (case l_heaviest => k_is)
    (case c_heaviest => k_is)
    (case k_heaviest => k_is)
    (case a_over_half => k_is)
    (case l_over_half => k_is)
    (case c_over_half => k_is)
    (case k_over_half => k_is)
    (case a_step_to_half => k_is)
    (case l_step_to_half => k_is)
    (case c_step_to_half => k_is)
    (case k_step_to_half => k_is)
    (case a_way_to_half => k_is)
    (case l_way_to_half => k_is)
    (case c_way_to_half => k_is)
    (case k_way_to_half => k_is)
    (case a_is_road => k_is)
    (case l_is_road => k_is)
    (case c_is_road => k_is)
    (case k_is_road => k_is)
    (case a_bits => k_is)
    (case l_bits => k_is)
    (case c_bits => k_is)
    (case k_bits => k_is)
    (case a_padded => k_is)
    (case l_padded => k_is)
    (case c_padded => k_is)
    (case k_padded => k_is)
    (case a_row => k_is)
    (case l_row => k_is)
    (case c_row => k_is)
    (case k_row => k_is)
    (case a_va_start => k_is)
    (case l_va_start => k_is)
    (case c_va_start => k_is)
    (case k_va_start => k_is)
    (case a_va_village => k_is)
    (case l_va_village => k_is)
    (case c_va_village => k_is)
    (case k_va_village => k_is)
    (case a_va_many => k_is)
    (case l_va_many => k_is)
    (case c_va_many => k_is)
    (case k_va_many => k_is)
    (case a_va_road => k_is)
    (case l_va_road => k_is)
    (case c_va_road => k_is)
    (case k_va_road => k_is)
    (case a_va_drop => k_is)
    (case l_va_drop => k_is)
    (case c_va_drop => k_is)
    (case k_va_drop => k_is)
    (case a_va_far => k_is)
    (case l_va_far => k_is)
    (case c_va_far => k_is)
    (case k_va_far => k_is)
    (case a_va_ways => k_is)
    (case l_va_ways => k_is)
    (case c_va_ways => k_is)
    (case k_va_ways => k_is)
    (case a_va_best => k_is)
    (case l_va_best => k_is)
    (case c_va_best => k_is)
    (case k_va_best => k_is)
    (case a_va_all => k_is)
    (case l_va_all => k_is)
    (case c_va_all => k_is)
    (case k_va_all => k_is)
    (case a_va_heavy => k_is)
    (case l_va_heavy => k_is)
    (case c_va_heavy => k_is)
    (case k_va_heavy => k_is)
    (case a_va_branch => k_is)
    (case l_va_branch => k_is)
    (case c_va_branch => k_is)
    (case k_va_branch => k_is)
    (case a_va_toward => k_is)
    (case l_va_toward => k_is)
    (case c_va_toward => k_is)
    (case k_va_toward => k_is)
    (case a_va_gain => k_is)
    (case l_va_gain => k_is)
    (case c_va_gain => k_is)
    (case k_va_gain => k_is)
    (case a_va_two => k_is)
    (case l_va_two => k_is)
    (case c_va_two => k_is)
    (case k_va_two => k_is)
    (case a_va_both => k_is)
    (case l_va_both => k_is)
    (case c_va_both => k_is)
    (case k_va_both => k_is)
    (case a_va_farthest => k_is)
    (case l_va_farthest => k_is)
    (case c_va_farthest => k_is)
    (case k_va_farthest => k_is)
    (case a_va_nearer => k_is)
    (case l_va_nearer => k_is)
    (case c_va_nearer => k_is)
    (case k_va_nearer => k_is)
    (case a_va_line => k_is)
    (case l_va_line => k_is)
    (case c_va_line => k_is)
    (case k_va_line => k_is)
    (case a_va_beside => k_is)
    (case l_va_beside => k_is)
    (case c_va_beside => k_is)
    (case k_va_beside => k_is)
    (case a_va_till => k_is)
    (case l_va_till => k_is)
    (case c_va_till => k_is)
    (case k_va_till => k_is)
    (case a_va_without => k_is)
    (case l_va_without => k_is)
    (case c_va_without => k_is)
    (case k_va_without => k_is)
    (case a_va_look => k_is)
    (case l_va_look => k_is)
    (case c_va_look => k_is)
    (case k_va_look => k_is)
    (case a_va_sums => k_is)
    (case l_va_sums => k_is)
    (case c_va_sums => k_is)
    (case k_va_sums => k_is)
    (case a_va_back => k_is)
    (case l_va_back => k_is)
    (case c_va_back => k_is)
    (case k_va_back => k_is)
    (case a_va_again => k_is)
    (case l_va_again => k_is)
    (case c_va_again => k_is)
    (case k_va_again => k_is)
    (case a_va_state => k_is)
    (case l_va_state => k_is)
    (case c_va_state => k_is)
    (case k_va_state => k_is)
    (case a_answer => k_is)
    (case l_answer => k_is)
    (case c_answer => k_is)
    (case k_answer => k_is)
    (case a_answers => k_is)
    (case l_answers => k_is)
    (case c_answers => k_is)
    (case k_answers => k_is)
    (case v_NO_VILLAGE => k_is)
    (case v_NO_CHANGE => k_is)
    (case v_ALONE => k_is)
    (case v_OUT_OF_BOUNDS => k_is)
    (case v_FULL => k_is)
    (case v_NOT_THIS_ONE => k_is)
    (case v_MOST_VILLAGES => k_is)
    (case v_MOST_CHILDREN => k_is)
    (case v_LONGEST_ROAD => k_is)
    (case v_MOST_TAKEN_BACK => k_is)
    (case v_CALLS => k_is)
    (case b_len => k_is)
    (case b_max => k_is)
    (case b_min => k_is)
    (case b_range => k_is)
    (case b_sum => k_is)
    (case l_T => k_is)
    (case l_T0 => k_is)
    (case l_T1 => k_is)
    (case l_T2 => k_is)
    (case l_T3 => k_is)
    (case l_T4 => k_is)
    (case l_T5 => k_is)
    (case l_T6 => k_is)
    (case l_T7 => k_is)
    (case l_T8 => k_is)
    (case l_T9 => k_is)
    (case l_T10 => k_is)
    (case l_T11 => k_is)
    (case l_T12 => k_is)
    (case l_T13 => k_is)
    (case l_T14 => k_is)
    (case l_T15 => k_is)
    (case l_T16 => k_is)
    (case l_T17 => k_is)
    (case l_T18 => k_is)
    (case l_T19 => k_is)
    (case l_T20 => k_is)
    (case l_T21 => k_is)
    (case l_T22 => k_is)
    (case l_T23 => k_is)
    (case l_T24 => k_is)
    (case l_T25 => k_is)
    (case g_best_two => exact rfl)
    (case lc_best_two => k_is)
    (case hv_best_two => exact rfl)
    (case hh_best_two => first | exact rfl | decide)
    (case g_heaviest => exact rfl)
    (case lc_heaviest => k_is)
    (case hv_heaviest => exact rfl)
    (case hh_heaviest => first | exact rfl | decide)
    (case two => first | exact rfl | decide)
    (case ne_best_two_heaviest => first | exact rfl | decide)
  case R =>
    intro x hx
    simp only [List.mem_cons, List.not_mem_nil, or_false] at hx
    rcases hx with rfl | rfl
    · exact Option.isSome_iff_exists.mp (by decide +kernel)
    · exact Option.isSome_iff_exists.mp (by decide +kernel)
  case T =>
    intro w x hx
    simp only [List.mem_cons, List.not_mem_nil, or_false] at hx
    rcases hx with rfl | rfl
    · refine' ⟨_, _, Sp.tab_mk ?a ?l ?g ?lc ?hv, ?b⟩; (case a => k_is); (case l => k_is); (case g => exact rfl); (case lc => k_is); (case hv => exact rfl); (case b => first | kernel_rfl | exact rfl)
    · refine' ⟨_, _, Sp.tab_mk ?a ?l ?g ?lc ?hv, ?b⟩; (case a => k_is); (case l => k_is); (case g => exact rfl); (case lc => k_is); (case hv => exact rfl); (case b => first | kernel_rfl | exact rfl)
  case S =>
    intro K H H0 xs a hsub htab hwi hask hx
    cases hx with
    | cons h1 h2 =>
      cases h2
      cases h1 with
      | lst hs ha =>
        have e := L2.ints_dw a.1 _ ha
        subst e
        have q : ((Codec.inLen 0 6000 a.1 && a.1.all (Codec.inInt 0 4294967295)) && true) = true := hwi
        rw [Bool.and_eq_true, Bool.and_eq_true] at q
        exact ⟨_, a.1, rfl, Sp.sq_mono hsub hs, (Codec.inNat_iff.mp q.1.1).2, fun z hz => (Codec.inInt_iff.mp (List.all_eq_true.mp q.1.2 z hz)).1, hask, Sp.tabs_ok htab, fun H' p hp => .lst (L2.SqL.of hp) (L2.dw_ints _)⟩

