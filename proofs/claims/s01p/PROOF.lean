import PyProof.Rows.All
import Wide.All
import OpenK.AllK
import Wide.FinOn
import PyProof.EqAt
import PyProof.EqKinds
import PyProof.TupleCall
import KE.BitLaws
import Open.SpecLaws
import KE.OsHead
import KE.OsGo
import KE.KMinKey
import KE.KDictList
import PyProof.Rows.SortShellAny
import PyWqaeag
import PySem.Challenge.RW_beginorder_s01_answers
section
set_option Elab.async false
set_option linter.all false
set_option maxRecDepth 100000
/-! THE HAND LAYER, for ints, bools, texts, own classes, lists, tuples, dicts, comprehensions, walks over dicts, enumerate, zip, reversed, texts, calls, loops. Paste it whole ahead of your own text; what your proof does not reach may be deleted. -/
namespace L2
open PySem PySem.Spec PyProof.Rows

/-- a key: an int or a str -/
abbrev Key := Sum Int Str
def keyIs : Key → Value → Bool
  | .inl k, v => Value.isInt k v
  | .inr x, v => Value.isStrOf x v
def keyH (w : World) : Key → Int
  | .inl k => hashInt k
  | .inr x => hashStr w x
theorem keyIs_shape : ∀ {k : Key} {v : Value}, keyIs k v = true → (∃ i t, k = Sum.inl i ∧ v = Value.int i t) ∨ (∃ x t, k = Sum.inr x ∧ v = Value.str x t)
  | .inl i, v, h => by
    obtain ⟨t, e⟩ := Value.isInt_shape (k := i) (v := v) h
    exact .inl ⟨i, t, rfl, e⟩
  | .inr x, v, h => by
    obtain ⟨t, e⟩ := Value.isStrOf_shape (x := x) (v := v) h
    exact .inr ⟨x, t, rfl, e⟩
theorem keyIs_int (i : Int) (t : Tok) : keyIs (.inl i) (.int i t) = true := by simp [keyIs, Value.isInt]
theorem keyIs_str (x : Str) (t : Tok) : keyIs (.inr x) (.str x t) = true := by simp [keyIs, Value.isStrOf]
theorem key_ll (a b : Int) : decide ((Sum.inl a : Key) = Sum.inl b) = (a == b) := by
  by_cases e : a = b
  · subst e; simp
  · have h : ¬ (Sum.inl a : Key) = Sum.inl b := fun q => e (Sum.inl.inj q)
    rw [decide_eq_false h]
    exact (beq_eq_false_iff_ne.mpr e).symm
theorem key_rr (a b : Str) : decide ((Sum.inr a : Key) = Sum.inr b) = decide (a = b) := by
  by_cases e : a = b
  · subst e; simp
  · have h : ¬ (Sum.inr a : Key) = Sum.inr b := fun q => e (Sum.inr.inj q)
    rw [decide_eq_false h, decide_eq_false e]
theorem key_lr (a : Int) (b : Str) : decide ((Sum.inl a : Key) = Sum.inr b) = false := decide_eq_false (fun q => nomatch q)
theorem key_rl (a : Str) (b : Int) : decide ((Sum.inr a : Key) = Sum.inl b) = false := decide_eq_false (fun q => nomatch q)

def mixKind (prog : Program) (w : World) : PySem.KeyKind prog w Key where
  is := keyIs
  hash := keyH w
  inj := fun v a b ha hb => by
    rcases keyIs_shape ha with ⟨i, t, rfl, rfl⟩ | ⟨x, t, rfl, rfl⟩
    · rcases keyIs_shape hb with ⟨j, u, rfl, e⟩ | ⟨y, u, rfl, e⟩
      · injection e with e1 _; rw [e1]
      · exact nomatch e
    · rcases keyIs_shape hb with ⟨j, u, rfl, e⟩ | ⟨y, u, rfl, e⟩
      · exact nomatch e
      · injection e with e1 _; rw [e1]
  byValue := fun k v h => by
    rcases keyIs_shape h with ⟨i, t, rfl, rfl⟩ | ⟨x, t, rfl, rfl⟩ <;> rfl
  pyHash := fun hv h => by
    rcases keyIs_shape hv with ⟨i, t, rfl, rfl⟩ | ⟨x, t, rfl, rfl⟩
    · exact wpAny_pyHash_int h
    · exact wpAny_pyHash_str h
  eqBool := fun hu hv h => by
    rcases keyIs_shape hu with ⟨i, t, rfl, rfl⟩ | ⟨x, t, rfl, rfl⟩
    · rcases keyIs_shape hv with ⟨j, u, rfl, rfl⟩ | ⟨y, u, rfl, rfl⟩
      · rw [key_ll] at h; exact wpAny_eqBool_int h
      · rw [key_lr] at h; exact SeqAt.EqAt.int_str i t y u _ _ _ _ h
    · rcases keyIs_shape hv with ⟨j, u, rfl, rfl⟩ | ⟨y, u, rfl, rfl⟩
      · rw [key_rl] at h; exact SeqAt.EqAt.str_int x t j u _ _ _ _ h
      · rw [key_rr] at h; exact wpAny_eqBool_str h
  «strs» := fun k x t v h => by
    rcases keyIs_shape h with ⟨i, u, rfl, e⟩ | ⟨y, u, rfl, e⟩
    · exact nomatch e
    · injection e with e1 _
      subst e1
      cases v <;> rfl

theorem mixKind_int (prog : Program) (w : World) (i : Int) (t : Tok) : (mixKind prog w).is (.inl i) (.int i t) = true := keyIs_int i t
theorem mixKind_str (prog : Program) (w : World) (x : Str) (t : Tok) : (mixKind prog w).is (.inr x) (.str x t) = true := keyIs_str x t
end L2

namespace L2
open PySem PySem.Spec PyProof.Rows

/-- a value, without the heap -/
inductive V where
  | non | bl (b : Bool) | int (i : Int) | str (x : Str) | byt (b : Array UInt8) | flt (b : UInt64) | ref (a : Addr) | ty (n : String)
  deriving DecidableEq

def RelV : V → Value → Prop
  | .non, u => u = Value.none
  | .bl b, u => u = Value.bool b
  | .int i, u => ∃ t, u = Value.int i t
  | .str x, u => ∃ t, u = Value.str x t
  | .byt b, u => ∃ t, u = Value.bytes b t
  | .flt b, u => ∃ t, u = Value.float b t
  | .ref a, u => u = Value.ref a
  | .ty n, u => u = Value.type n

abbrev Vals : List V → List Value → Prop := Paired RelV
theorem Vals.length {xs : List V} {us : List Value} (r : Vals xs us) : xs.length = us.length := Paired.length r
theorem Vals.get : ∀ {xs : List V} {us : List Value} {i : Nat} {x : V}, Vals xs us → xs[i]? = some x → ∃ u, us[i]? = some u ∧ RelV x u
  | _, _, _, _, .nil, e => by simp at e
  | _, _, 0, _, .cons r _, e => by simp at e; subst e; exact ⟨_, rfl, r⟩
  | _, _, i + 1, x, .cons _ t, e => by
    obtain ⟨u, h1, h2⟩ := Vals.get (i := i) (x := x) t (by simpa using e)
    exact ⟨u, by simpa using h1, h2⟩
theorem Vals.set {x : V} {u : Value} (r : RelV x u) : ∀ {xs : List V} {us : List Value} (i : Nat), Vals xs us → Vals (xs.set i x) (us.set i u)
  | _, _, _, .nil => .nil
  | _, _, 0, .cons _ t => .cons r t
  | _, _, i + 1, .cons q t => .cons q (Vals.set r i t)
theorem Vals.append : ∀ {xs ys : List V} {us ws : List Value}, Vals xs us → Vals ys ws → Vals (xs ++ ys) (us ++ ws)
  | _, _, _, _, .nil, s => s
  | _, _, _, _, .cons r t, s => .cons r (Vals.append t s)
theorem Vals.take : ∀ {xs : List V} {us : List Value} (n : Nat), Vals xs us → Vals (xs.take n) (us.take n)
  | _, _, 0, _ => .nil
  | _, _, _ + 1, .nil => .nil
  | _, _, n + 1, .cons r t => .cons r (Vals.take n t)
theorem Vals.drop : ∀ {xs : List V} {us : List Value} (n : Nat), Vals xs us → Vals (xs.drop n) (us.drop n)
  | _, _, 0, r => r
  | _, _, _ + 1, .nil => .nil
  | _, _, n + 1, .cons _ t => Vals.drop n t
theorem Vals.none_of : ∀ {xs : List V} {us : List Value} {i : Nat}, Vals xs us → xs[i]? = none → us[i]? = none := fun {xs us i} r e => by
  have h1 := r.length
  have h2 : xs.length ≤ i := List.getElem?_eq_none_iff.mp e
  exact List.getElem?_eq_none_iff.mpr (by omega)

def RelO : Option V → Option Value → Prop
  | some v, some u => RelV v u
  | none, none => True
  | _, _ => False
def KV {κ : Type} : List (κ × V) → List (κ × Value) → Prop := Paired fun (p : κ × V) (q : κ × Value) => p.1 = q.1 ∧ RelV p.2 q.2

/-- a key of a dict (00_mix): an int or a text -/
def kV : Key → V
  | .inl i => .int i
  | .inr x => .str x

/-- what stands at a tracked address -/
inductive HO where
  /-- a list -/
  | lst (xs : List V)
  /-- a tuple (never changes) -/
  | tup (xs : List V)
  /-- a dict whose keys are ints and texts; one whose keys are tuples of ints and texts (the empty one is both) -/
  | dK (kvs : List (Key × V)) | dT (kvs : List (List Key × V))
  /-- a set of ints: its members, its size -/
  | set (S : Int → Bool) (n : Nat)
  /-- an instance of the class at C, its dict at dx, its attributes -/
  | ins (C dx : Addr) (fs : List (Str × V))
  /-- the dict of the instance at x -/
  | own (x : Addr)
  /-- the dict of an exception -/
  | xd (fs : List (Str × V))
  /-- a bound method, f of x -/
  | met (f x : Addr)
  /-- a range object lo, lo + 1, .. below hi -/
  | rng (lo hi : Int)
  /-- a thing that is known to the object (the script; a dict while a loop walks it): read, never written while it is so -/
  | frz (o : Obj) (u : HO)
  /-- a code object's table -/
  | tbl (ps : Array Value)
  /-- any other thing, by what is true of its one object (a def of one's own: SetO a S n := HO.ext fun h => ..) -/
  | ext (φ : Heap → Prop)

abbrev Hp := Addr → Option HO
def upd (H : Hp) (a : Addr) (o : HO) : Hp := fun b => if b = a then some o else H b
theorem upd_same {H : Hp} {a : Addr} {o : HO} : upd H a o a = some o := by unfold upd; rw [if_pos rfl]
theorem upd_ne {H : Hp} {a b : Addr} {o : HO} (h : b ≠ a) : upd H a o b = H b := by unfold upd; rw [if_neg h]
theorem upd_upd {H : Hp} {a : Addr} {o u : HO} : upd (upd H a o) a u = upd H a u := by
  funext b; unfold upd; split <;> rfl
/-- two objects of different content stand apart -/
theorem ne_of {H : Hp} {a b : Addr} {o u : HO} (h : H a = some o) (h' : H b = some u) (d : o ≠ u) : a ≠ b := by
  intro e; subst e; rw [h] at h'; exact d (Option.some.inj h')
theorem ne_of_none {H : Hp} {a b : Addr} {o : HO} (h : H a = some o) (h' : H b = none) : a ≠ b := by
  intro e; subst e; rw [h] at h'; cases h'

section
variable (P : Program) (w : World)
def ObjOk (H : Hp) (h : Heap) (a : Addr) : HO → Prop
  | .lst xs => xs.length ≤ sizeLine ∧ ∃ (its : List Value) (n : Nat), Vals xs its ∧ h.get? a = some { cls := .type "list", data := .seq its.toArray n }
  | .tup xs => xs.length ≤ sizeLine ∧ ∃ its : List Value, Vals xs its ∧ IsTup h a its.toArray
  | .dK kvs => kvs.length ≤ sizeLine ∧ (a == sysModules) = false ∧ ∃ vs, KV kvs vs ∧ h.DictOf (mixKind P w) a vs
  | .dT kvs => kvs.length ≤ sizeLine ∧ (a == sysModules) = false ∧ ∃ xs : List (List Key × Addr × Value),
      Paired (fun (p : List Key × V) (q : List Key × Addr × Value) => p.1 = q.1 ∧ H q.2.1 = some (.tup (p.1.map kV)) ∧ RelV p.2 q.2.2) kvs xs ∧
      ∃ o es ep, h.get? a = some o ∧ o.ExactDict ∧ o.data = .dict es ep ∧ es.toList = xs.map (entryOfKey (tupleKind (mixKind P w))) ∧ (xs.map (·.1)).Nodup
  | .set S n => h.SetOf (intKind P w) a S n
  | .ins C dx fs => H dx = some (.own a) ∧ fs.length ≤ 1000 ∧ dx ≠ a ∧ h.get? a = some (PySem.W.instObj C dx) ∧
      ∃ mA, h.Ns1 dx mA ∧ (∀ f, RelO (fs.lookup f) (mA f)) ∧ PySem.Within mA (fs.map (·.1))
  | .own _ => ∃ o, h.get? a = some o
  | .xd fs => ∃ mA, h.Ns1 a mA ∧ ∀ f, RelO (fs.lookup f) (mA f)
  | .rng lo hi => ∃ t u v, h.get? a = some { cls := .type "range", data := .fields #[.int lo t, .int hi u, .int 1 v] }
  | .frz o u => h.get? a = some o ∧ ObjOk H h a u
  | .tbl ps => h.get? a = some { cls := .none, data := .fields ps }
  | .met f x => h.get? a = some (PySem.W.methodObj (.ref f) (.ref x))
  | .ext φ => φ h ∧ (∃ o, h.get? a = some o) ∧ ∀ h1 h2 : Heap, φ h1 → (∀ o, h1.get? a = some o → h2.get? a = some o) → φ h2
/-- the abstract heap is held -/
def HOk (H : Hp) (h : Heap) : Prop := ∀ a o, H a = some o → ObjOk P w H h a o
end

section
variable {P : Program} {w : World} {H H' : Hp} {h h' : Heap} {a : Addr} {o : HO}
theorem ObjOk.lt (x : ObjOk P w H h a o) : a < h.objs.size := by
  cases o with
  | lst xs => obtain ⟨_, _, _, _, e⟩ := x; exact Heap.lt_size e
  | tup xs => obtain ⟨_, _, _, p⟩ := x; exact p.lt
  | dK kvs => obtain ⟨_, _, _, _, o, _, _, e, _⟩ := x; exact Heap.lt_size e
  | dT kvs => obtain ⟨_, _, _, _, o, _, _, e, _⟩ := x; exact Heap.lt_size e
  | set S n => obtain ⟨o, _, _, _, e, _⟩ := x; exact Heap.lt_size e
  | ins C dx fs => obtain ⟨_, _, _, e, _⟩ := x; exact Heap.lt_size e
  | own y => obtain ⟨_, e⟩ := x; exact Heap.lt_size e
  | xd fs => obtain ⟨_, ⟨_, _, _, e, _⟩, _⟩ := x; exact Heap.lt_size e
  | rng lo hi => obtain ⟨_, _, _, e⟩ := x; exact Heap.lt_size e
  | frz ob u => obtain ⟨e, _⟩ := x; exact Heap.lt_size e
  | tbl ps => exact Heap.lt_size (show h.get? a = some _ from x)
  | met f y => exact Heap.lt_size (show h.get? a = some _ from x)
  | ext φ => obtain ⟨_, ⟨_, e⟩, _⟩ := x; exact Heap.lt_size e
theorem Paired.mapP {α β : Type} {F G : α → β → Prop} : ∀ {l₁ : List α} {l₂ : List β}, Paired F l₁ l₂ → (∀ a b, F a b → G a b) → Paired G l₁ l₂
  | _, _, .nil, _ => .nil
  | _, _, .cons r t, f => .cons (f _ _ r) (Paired.mapP t f)
/-- what an object's description leans on: its own object, its own dict, the tuples -/
theorem ObjOk.stay (x : ObjOk P w H h a o) (k : ∀ b u, (b = a ∨ H b = some (.own a)) → h.get? b = some u → h'.get? b = some u)
    (ho : ∀ b, H b = some (.own a) → H' b = some (.own a)) (ht : ∀ b xs, H b = some (.tup xs) → H' b = some (.tup xs)) : ObjOk P w H' h' a o := by
  induction o with
  | lst xs => obtain ⟨z, its, n, r, e⟩ := x; exact ⟨z, its, n, r, k _ _ (.inl rfl) e⟩
  | tup xs => obtain ⟨z, its, r, ob, e, c⟩ := x; exact ⟨z, its, r, ob, k _ _ (.inl rfl) e, c⟩
  | dK kvs => obtain ⟨z, y, vs, r, ob, es, ep, e, c⟩ := x; exact ⟨z, y, vs, r, ob, es, ep, k _ _ (.inl rfl) e, c⟩
  | dT kvs =>
    obtain ⟨z, y, xs, r, ob, es, ep, e, c⟩ := x
    exact ⟨z, y, xs, Paired.mapP r fun p q z => ⟨z.1, ht _ _ z.2.1, z.2.2⟩, ob, es, ep, k _ _ (.inl rfl) e, c⟩
  | set S n => obtain ⟨ob, es, ep, t, e, c⟩ := x; exact ⟨ob, es, ep, t, k _ _ (.inl rfl) e, c⟩
  | ins C dx fs =>
    obtain ⟨d, z, ne, e, mA, ⟨od, es, ep, e2, c⟩, r⟩ := x
    exact ⟨ho _ d, z, ne, k _ _ (.inl rfl) e, mA, ⟨od, es, ep, k _ _ (.inr d) e2, c⟩, r⟩
  | own y => obtain ⟨ob, e⟩ := x; exact ⟨ob, k _ _ (.inl rfl) e⟩
  | xd fs => obtain ⟨mA, ⟨od, es, ep, e, c⟩, r⟩ := x; exact ⟨mA, ⟨od, es, ep, k _ _ (.inl rfl) e, c⟩, r⟩
  | rng lo hi => obtain ⟨t, u, v, e⟩ := x; exact ⟨t, u, v, k _ _ (.inl rfl) e⟩
  | frz ob u ih => obtain ⟨e, q⟩ := x; exact ⟨k _ _ (.inl rfl) e, ih q⟩
  | tbl ps =>
    have e : h.get? a = some { cls := .none, data := .fields ps } := x
    show h'.get? a = some { cls := .none, data := .fields ps }
    exact k a _ (.inl rfl) e
  | met f y =>
    have e : h.get? a = some (PySem.W.methodObj (.ref f) (.ref y)) := x
    show h'.get? a = some (PySem.W.methodObj (.ref f) (.ref y))
    exact k a _ (.inl rfl) e
  | ext φ => obtain ⟨p, ⟨o, e⟩, st⟩ := x; exact ⟨st _ _ p fun o q => k _ _ (.inl rfl) q, ⟨o, k _ _ (.inl rfl) e⟩, st⟩
theorem HOk.lt (x : HOk P w H h) (e : H a = some o) : a < h.objs.size := (x a o e).lt
theorem HOk.fresh (x : HOk P w H h) (e : h.objs.size ≤ a) : H a = none := by
  cases q : H a with
  | none => rfl
  | some u => exact absurd (Nat.lt_of_lt_of_le (x.lt q) e) (Nat.lt_irrefl _)
/-- every object of the heap is kept -/
theorem HOk.kept (x : HOk P w H h) (k : ∀ b u, h.get? b = some u → h'.get? b = some u) : HOk P w H h' := fun a o e =>
  (x a o e).stay (fun b u _ q => k b u q) (fun _ q => q) fun _ _ q => q
/-- a new object is laid and tracked -/
theorem HOk.laid (x : HOk P w H h) (k : ∀ b u, h.get? b = some u → h'.get? b = some u) (hp : h.objs.size ≤ a) (new : ObjOk P w (upd H a o) h' a o) : HOk P w (upd H a o) h' := fun b u e => by
  have hn := x.fresh hp
  by_cases hb : b = a
  · subst hb; rw [upd_same] at e; cases e; exact new
  · rw [upd_ne hb] at e
    exact (x b u e).stay (fun c v _ q => k c v q) (fun c q => by rw [upd_ne (ne_of_none q hn)]; exact q) fun c xs q => by rw [upd_ne (ne_of_none q hn)]; exact q
end

/-- what may be read as u: it is u, or a known u -/
def Rd (H : Hp) (a : Addr) (u : HO) : Prop := H a = some u ∨ ∃ o, H a = some (.frz o u)
theorem Rd.of {H : Hp} {a : Addr} {u : HO} (h : H a = some u) : Rd H a u := .inl h
theorem Rd.ok {P : Program} {w : World} {H : Hp} {h : Heap} {a : Addr} {u : HO} (r : Rd H a u) (x : HOk P w H h) : ObjOk P w H h a u := by
  rcases r with r | ⟨o, r⟩
  · exact x a u r
  · obtain ⟨_, q⟩ := x a _ r
    exact q
/-- what may be written -/
def Mut : Option HO → Prop
  | some (.lst _) => True
  | some (.dK _) => True
  | some (.dT _) => True
  | some (.set _ _) => True
  | some (.ins _ _ _) => True
  | some (.ext _) => True
  | _ => False
section
variable {P : Program} {w : World} {H : Hp} {h h' : Heap} {x e : Addr} {o' : HO}
/-- the object at e is changed: x itself, or the dict of the instance x -/
theorem HOk.write (ok : HOk P w H h) (mu : Mut (H x)) (he : e = x ∨ H e = some (.own x)) (k : ∀ b u, b ≠ e → h.get? b = some u → h'.get? b = some u) (heo : ∃ u, h'.get? e = some u)
    (new : ObjOk P w (upd H x o') h' x o') : HOk P w (upd H x o') h' := fun b u q => by
  have nown : ∀ c y, H c = some (.own y) → c ≠ x := fun c y r z => by subst z; rw [r] at mu; exact mu
  have ntup : ∀ c xs, H c = some (.tup xs) → c ≠ x := fun c xs r z => by subst z; rw [r] at mu; exact mu
  by_cases hb : b = x
  · subst hb; rw [upd_same] at q; cases q; exact new
  · rw [upd_ne hb] at q
    by_cases hbe : b = e
    · have q' : H b = some (.own x) := by
        rcases he with z | z
        · exact absurd (hbe.trans z) hb
        · rw [hbe]; exact z
      rw [q] at q'; cases q'
      obtain ⟨v, hv⟩ := heo
      exact ⟨v, by rw [hbe]; exact hv⟩
    · refine (ok b u q).stay (fun c v hc r => k c v ?_ r) (fun c r => by rw [upd_ne (nown c b r)]; exact r) fun c xs r => by rw [upd_ne (ntup c xs r)]; exact r
      rcases hc with rfl | hc
      · exact hbe
      · rintro rfl
        rcases he with z | z
        · exact nown c b hc z
        · rw [hc] at z; cases z; exact hb rfl
end

/-! ### kept unless tracked; of the frames at fs (the callers') the slots may change (an exception that passes writes there); of the records at ex (iterators) nothing is said -/
structure Un (fs ex : List Addr) (H H' : Hp) (h h' : Heap) : Prop where
  keep : ∀ b o, h.get? b = some o → H b = none → b ∉ fs → b ∉ ex → h'.get? b = some o
  slot : ∀ b o, h.get? b = some o → H b = none → b ∈ fs → b ∉ ex → ∃ sl, h'.get? b = some { o with slots := sl }
  free : ∀ b o, h.get? b = some o → H b = none → b ∉ ex → H' b = none
  there : ∀ b o, h.get? b = some o → b ∉ ex → ∃ o', h'.get? b = some o'
  tups : ∀ b xs, H b = some (.tup xs) → H' b = some (.tup xs)
  frzs : ∀ b o u, H b = some (.frz o u) → H' b = some (.frz o u)
  tbls : ∀ b ps, H b = some (.tbl ps) → ∃ more, H' b = some (.tbl (ps ++ more))
section
variable {fs fs' ex ex' : List Addr} {H H1 H2 : Hp} {h h1 h2 h' : Heap} {a x e : Addr} {o : HO}
theorem Un.any (u : Un fs ex H H1 h h1) {b : Addr} {ob : Obj} (q : h.get? b = some ob) (n : H b = none) (hx : b ∉ ex) : ∃ sl, h1.get? b = some { ob with slots := sl } := by
  by_cases hb : b ∈ fs
  · exact u.slot b ob q n hb hx
  · exact ⟨ob.slots, u.keep b ob q n hb hx⟩
theorem Un.trans (a : Un fs ex H H1 h h1) (b : Un fs ex H1 H2 h1 h2) : Un fs ex H H2 h h2 where
  keep := fun c ob q n hc hx => b.keep c ob (a.keep c ob q n hc hx) (a.free c ob q n hx) hc hx
  slot := fun c ob q n hc hx => by
    obtain ⟨sl, e1⟩ := a.slot c ob q n hc hx
    obtain ⟨sl', e2⟩ := b.slot c _ e1 (a.free c ob q n hx) hc hx
    exact ⟨sl', e2⟩
  free := fun c ob q n hx => by
    obtain ⟨o', e1⟩ := a.there c ob q hx
    exact b.free c o' e1 (a.free c ob q n hx) hx
  there := fun c ob q hx => by
    obtain ⟨o', e1⟩ := a.there c ob q hx
    exact b.there c o' e1 hx
  tups := fun c xs q => b.tups c xs (a.tups c xs q)
  frzs := fun c ob xs q => b.frzs c ob xs (a.frzs c ob xs q)
  tbls := fun c ps q => by
    obtain ⟨m1, e1⟩ := a.tbls c ps q
    obtain ⟨m2, e2⟩ := b.tbls c _ e1
    exact ⟨m1 ++ m2, by rw [e2, Array.append_assoc]⟩
theorem Un.kept (k : ∀ b u, h.get? b = some u → h'.get? b = some u) : Un fs ex H H h h' :=
  ⟨fun b ob q _ _ _ => k b ob q, fun b ob q _ _ _ => ⟨ob.slots, k b ob q⟩, fun _ _ _ n _ => n, fun b ob q _ => ⟨ob, k b ob q⟩, fun _ _ q => q, fun _ _ _ q => q, fun _ ps q => ⟨#[], by rw [q]; simp⟩⟩
theorem Un.refl : Un fs ex H H h h := Un.kept fun _ _ q => q
theorem Un.laid (k : ∀ b u, h.get? b = some u → h'.get? b = some u) (hp : h.objs.size ≤ a) (hn : H a = none) : Un fs ex H (upd H a o) h h' where
  keep := fun b u q _ _ _ => k b u q
  slot := fun b u q _ _ _ => ⟨u.slots, k b u q⟩
  free := fun b u q n _ => by rw [upd_ne (Nat.ne_of_lt (Nat.lt_of_lt_of_le (Heap.lt_size q) hp))]; exact n
  there := fun b u q _ => ⟨u, k b u q⟩
  tups := fun b xs q => by rw [upd_ne (ne_of_none q hn)]; exact q
  frzs := fun b u xs q => by rw [upd_ne (ne_of_none q hn)]; exact q
  tbls := fun b ps q => ⟨#[], by rw [upd_ne (ne_of_none q hn), q]; simp⟩
theorem Un.write (mu : Mut (H x)) (he : e = x ∨ H e = some (.own x)) (k : ∀ b u, b ≠ e → h.get? b = some u → h'.get? b = some u) (heo : ∃ u, h'.get? e = some u) : Un fs ex H (upd H x o) h h' := by
  have hx : ∀ b, H b = none → b ≠ x := fun b n z => by subst z; rw [n] at mu; exact mu
  have hb : ∀ b, H b = none → b ≠ e := fun b n z => by
    subst z
    rcases he with r | r
    · exact hx b n r
    · rw [n] at r; cases r
  have hm : ∀ b u, H b = some u → ¬ Mut (some u) → b ≠ x := fun b u q nm z => by subst z; rw [q] at mu; exact nm mu
  refine ⟨fun b u q n _ _ => k b u (hb b n) q, fun b u q n _ _ => ⟨u.slots, k b u (hb b n) q⟩, fun b u q n _ => by rw [upd_ne (hx b n)]; exact n, fun b u q _ => ?_,
    fun b xs q => by rw [upd_ne (hm b _ q fun z => z)]; exact q, fun b u xs q => by rw [upd_ne (hm b _ q fun z => z)]; exact q, fun b ps q => ⟨#[], by rw [upd_ne (hm b _ q fun z => z), q]; simp⟩⟩
  by_cases hbe : b = e
  · subst hbe; exact heo
  · exact ⟨u, k b u hbe q⟩
theorem Un.mono (u : Un fs ex H H1 h h1) (hs : ∀ b ∈ fs, b ∈ fs') (hx : ∀ b ∈ ex, b ∈ ex') : Un fs' ex' H H1 h h1 :=
  ⟨fun b ob q n hb he => u.keep b ob q n (fun z => hb (hs b z)) fun z => he (hx b z), fun _ _ q n _ he => u.any q n fun z => he (hx _ z), fun b ob q n he => u.free b ob q n fun z => he (hx b z), fun b ob q he => u.there b ob q fun z => he (hx b z), u.tups, u.frzs, u.tbls⟩
end

/-! ### the heap without what is tracked -/
def trk (h : Heap) (H : Hp) : List Addr := (List.range h.objs.size).filter fun a => (H a).isSome
def hidT (h : Heap) (H : Hp) : Heap := PySem.W.hideAll h (trk h H)
theorem hidT_size (h : Heap) (H : Hp) : (hidT h H).objs.size = h.objs.size := PySem.W.hideAll_size _ _
theorem hidT_get {h : Heap} {H : Hp} {b : Addr} {o : Obj} (e : h.get? b = some o) (n : H b = none) : (hidT h H).get? b = some o :=
  PySem.W.hideAll_get _ e fun hm => by
    have q : (H b).isSome = true := (List.mem_filter.mp hm).2
    rw [n] at q; simp at q
theorem of_hidT {h : Heap} {H : Hp} {b : Addr} {o : Obj} (e : (hidT h H).get? b = some o) : h.get? b = some o ∧ H b = none := by
  have e' : h.get? b = some o := PySem.W.of_hideAll (trk h H) e
  refine ⟨e', ?_⟩
  cases q : H b with
  | none => rfl
  | some x =>
    have hm : b ∈ trk h H := List.mem_filter.mpr ⟨List.mem_range.mpr (Heap.lt_size e'), by simp [q]⟩
    have z : (hidT h H).get? b = none := PySem.W.hideAll_none (trk h H) hm
    rw [z] at e; cases e

/-! ### OpenK's ledger, filled with every new object but one -/
def allNews (g h : Heap) (L : Addr) : List (Addr × Obj) := (List.range h.objs.size).filterMap fun a => if a = L ∨ (g.get? a).isSome = true then none else (h.get? a).map fun o => (a, o)
def rest (g h : Heap) (L d : Addr) : List (Addr × Obj) := (allNews g h L).filter fun p => decide (p.1 ≠ d)
end L2

namespace L2
open PySem PySem.Spec PyProof.Rows

/-- the module's facts, over the base: the heap at the law's entry without what is tracked there -/
structure Mod (K : PySem.W.Frag) (mg : Str → Option Value) (base : Heap) : Prop where
  kin : K.In base
  glob : base.Ns mainGlobals mg
  blt : ∃ mb, base.Ns builtinsNs mb ∧ ∀ x : Str, x ≠ "__name__" → mb x = bootBuiltins x
  nolimit : base.NoLimit

/-- the context: a def's body (or a comprehension's block) running. base: fixed through the whole law; s₀, H₀: the entry; outer: the frames whose slots others may change (a def's callers); stack: all frames that run;
   ex: iterators that were made ahead of the entry and are walked here (a comprehension's); fn: the names whose cells were made at the entry (a def: all; a comprehension's block: its own); calm: not within an except suite; pn: pins that every state bears; xe: what is wanted of an exception that leaves the code -/
structure Cx where
  prog : Program
  w : World
  K : PySem.W.Frag
  mg : Str → Option Value
  base : Heap
  A : Around
  N : List Str
  s_0 : Shared
  H_0 : Hp
  env : Env
  outer : List Env
  stack : List Env
  ex : List Addr
  fn : Str → Bool
  calm : Bool
  pn : List (Addr × Obj)
  xe : Value → Shared → Prop
/-- the callers' frames -/
def frs (l : List Env) : List Addr := l.filterMap (·.frame)
abbrev Cx.fs (X : Cx) : List Addr := frs X.outer

def Vis (sc : Scope) (x : Str) : Prop := sc.names.lookup x = some .local ∨ sc.names.lookup x = some .cell ∨ sc.names.lookup x = some .free
def Loc (sc : Scope) (x : Str) : Prop := sc.names.lookup x = some .local ∨ sc.names.lookup x = some .cell
def Look (env : Env) (h : Heap) (m : Str → Option Value) (x : Str) (u : Value) : Prop :=
  (env.kindOf x = some .local ∧ m x = some u) ∨ ((env.kindOf x = some .cell ∨ env.kindOf x = some .free) ∧ ∃ c, env.cells.lookup x = some c ∧ h.IsCell c (some u))

structure Cx.Ok (X : Cx) : Prop where
  mod : Mod X.K X.mg X.base
  kind : X.env.scope.kind = .function
  glob : X.env.globals = mainGlobals
  blt : X.env.builtins = builtinsNs
  above : X.s_0.heap.objs.size ≤ X.env.locals
  inj : ∀ x y c, X.env.cells.lookup x = some c → X.env.cells.lookup y = some c → x = y
  has : ∀ x, (X.env.kindOf x = some .cell ∨ X.env.kindOf x = some .free) → ∃ c, X.env.cells.lookup x = some c
  cab : ∀ x c, X.fn x = true → X.env.cells.lookup x = some c → X.s_0.heap.objs.size ≤ c
  hd : X.calm = true → X.A.handled = none
  frames : X.A.frames = some X.stack
  stk : X.stack = X.outer ∨ (X.stack = X.env :: X.outer ∧ X.env.frame = some X.env.locals)
  exf : ∀ b ∈ X.ex, b ≠ X.env.locals ∧ ∀ x c, X.env.cells.lookup x = some c → c ≠ b
  bs : ∀ b o, X.base.get? b = some o → X.s_0.heap.get? b = some o ∧ X.H_0 b = none
  bsz : X.base.objs.size ≤ X.s_0.heap.objs.size
  noex : ∀ b o, X.base.get? b = some o → b ∉ X.ex
  exfs : ∀ b ∈ X.ex, b ∉ X.fs
  funs : X.s_0.heap.FunFrames X.base X.outer
  frf : ∀ b ∈ X.fs, X.H_0 b = none

structure Inv (X : Cx) (pins : List (Addr × Obj)) (σ : List (Option V)) (H : Hp) (s : Shared) : Prop where
  ok : X.Ok
  os : s.os = X.s_0.os
  bare : AllBare s.gens
  base : Un X.fs X.ex X.H_0 H X.s_0.heap s.heap
  loc : ∃ m, s.heap.Ns X.env.locals m ∧ ∀ (i : Nat) (x : Str) (v : V), X.N[i]? = some x → σ[i]? = some (some v) → Vis X.env.scope x → ∃ u, RelV v u ∧ Look X.env s.heap m x u
  cell : ∀ x c, X.env.cells.lookup x = some c → ∃ v, s.heap.IsCell c v
  free : H X.env.locals = none
  freeC : ∀ x c, X.env.cells.lookup x = some c → H c = none
  pin : ∀ p ∈ X.pn ++ pins, s.heap.get? p.1 = some p.2 ∧ H p.1 = none ∧ p.1 ≠ X.env.locals ∧ p.1 ∉ X.fs ∧ ∀ v, p.2.data ≠ .cell v
  hok : HOk X.prog X.w H s.heap
  len : σ.length = X.N.length

section
variable {X : Cx} {pins : List (Addr × Obj)} {σ : List (Option V)} {H H' : Hp} {s : Shared} {h' : Heap}

theorem Cx.Ok.nofr (ok : X.Ok) {b : Addr} {o : Obj} (e : X.base.get? b = some o) : b ∉ X.fs := fun hb => by
  have := (ok.funs.mem hb).1
  rw [e] at this; cases this
theorem Inv.bs (I : Inv X pins σ H s) : ∀ b o, X.base.get? b = some o → s.heap.get? b = some o ∧ H b = none := fun b o e =>
  ⟨I.base.keep b o (I.ok.bs b o e).1 (I.ok.bs b o e).2 (I.ok.nofr e) (I.ok.noex b o e), I.base.free b o (I.ok.bs b o e).1 (I.ok.bs b o e).2 (I.ok.noex b o e)⟩
theorem Inv.bk (I : Inv X pins σ H s) : ∀ b o, X.base.get? b = some o → s.heap.get? b = some o := fun b o e => (I.bs b o e).1
theorem Inv.mod (I : Inv X pins σ H s) : Mod X.K X.mg X.base := I.ok.mod
theorem Inv.kIn (I : Inv X pins σ H s) : X.K.In s.heap := I.ok.mod.kin.keeps I.bk
theorem Inv.nolimit (I : Inv X pins σ H s) : s.heap.NoLimit := I.ok.mod.nolimit.keeps I.bk
theorem Inv.lt (I : Inv X pins σ H s) : X.env.locals < s.heap.objs.size := let ⟨_, hn, _⟩ := I.loc; hn.lt
theorem Inv.sz (I : Inv X pins σ H s) : X.s_0.heap.objs.size ≤ s.heap.objs.size := Nat.le_trans I.ok.above (Nat.le_of_lt I.lt)
theorem Inv.nofs (I : Inv X pins σ H s) {a : Addr} (h : s.heap.objs.size ≤ a) : a ∉ X.fs := fun hb => by
  obtain ⟨_, o, ho, _⟩ := I.ok.funs.mem hb
  exact absurd (Nat.lt_of_lt_of_le (Heap.lt_size ho) (Nat.le_trans I.sz h)) (Nat.lt_irrefl _)
theorem Inv.cne (I : Inv X pins σ H s) : ∀ x c, X.env.cells.lookup x = some c → c ≠ X.env.locals := fun x c e z => by
  obtain ⟨v, o, ho, hd⟩ := I.cell x c e
  obtain ⟨m, ⟨o', es, ep, ho', hd', _⟩, _⟩ := I.loc
  rw [z, ho'] at ho; cases ho; rw [hd'] at hd; cases hd
theorem Inv.funs (I : Inv X pins σ H s) : s.heap.FunFrames X.base X.outer := by
  have all : ∀ (l : List Env), (∀ b ∈ frs l, b ∈ X.fs) → X.s_0.heap.FunFrames X.base l → s.heap.FunFrames X.base l := by
    intro l
    induction l with
    | nil => intro _ _; trivial
    | cons env r ih =>
      intro hs hl
      obtain ⟨hk, ⟨L, o, hf, hn, ho, hd⟩, hr⟩ := hl
      have hL : L ∈ X.fs := hs L (by unfold frs; rw [List.filterMap_cons, hf]; exact List.mem_cons_self)
      obtain ⟨sl, e⟩ := I.base.slot L o ho (I.ok.frf L hL) hL fun z => I.ok.exfs L z hL
      exact ⟨hk, ⟨L, _, hf, hn, e, hd⟩, ih (fun b hb => hs b (by unfold frs; rw [List.filterMap_cons, hf]; exact List.mem_cons_of_mem _ hb)) hr⟩
  exact all X.outer (fun _ hb => hb) I.ok.funs

/-- the frames that run, for a call -/
theorem Inv.stack (I : Inv X pins σ H s) : s.heap.FunFrames X.base X.stack := by
  rcases I.ok.stk with e | ⟨e, hf⟩
  · rw [e]; exact I.funs
  · rw [e]
    obtain ⟨m, hn, _⟩ := I.loc
    refine .cons (by rw [I.ok.kind]; decide) hf hn ?_ I.funs
    exact Heap.get?_none_of_le (Nat.le_trans I.ok.bsz I.ok.above)
theorem Inv.stkSub (I : Inv X pins σ H s) : ∀ b ∈ frs X.stack, b ∈ X.env.locals :: X.fs := fun b hb => by
  rcases I.ok.stk with e | ⟨e, hf⟩
  · rw [e] at hb; exact List.mem_cons_of_mem _ hb
  · rw [e] at hb
    unfold frs at hb
    rw [List.filterMap_cons, hf] at hb
    exact hb
theorem Inv.stkFree (I : Inv X pins σ H s) : ∀ b ∈ frs X.stack, H b = none := fun b hb => by
  rcases List.mem_cons.mp (I.stkSub b hb) with e | hb
  · rw [e]; exact I.free
  · obtain ⟨_, o, ho, _⟩ := I.ok.funs.mem hb
    exact I.base.free b o ho (I.ok.frf b hb) fun z => I.ok.exfs b z hb

/-- THE STEP: the untracked objects but the frame and the records at ch are kept (the callers' frames up to slots), the frame's map is kept, the new abstract heap is held -/
theorem Inv.step {g' : Array GenState} {t' : Nat} {d' : Drawn} {ch : List Addr} (I : Inv X pins σ H s)
    (hch : ∀ b ∈ ch, (b ∈ X.ex ∨ X.s_0.heap.objs.size ≤ b) ∧ b ≠ X.env.locals ∧ (∀ x c, X.env.cells.lookup x = some c → c ≠ b) ∧ ∀ p ∈ X.pn ++ pins, p.1 ≠ b)
    (keep : ∀ b o, b ≠ X.env.locals → b ∉ X.fs → b ∉ ch → s.heap.get? b = some o → H b = none → h'.get? b = some o)
    (slot : ∀ b o, b ≠ X.env.locals → b ∈ X.fs → b ∉ ch → s.heap.get? b = some o → H b = none → ∃ sl, h'.get? b = some { o with slots := sl }) (free : ∀ b o, b ∉ ch → s.heap.get? b = some o → H b = none → H' b = none)
    (there : ∀ b o, b ∉ ch → s.heap.get? b = some o → ∃ o', h'.get? b = some o')
    (tups : ∀ b xs, H b = some (.tup xs) → H' b = some (.tup xs)) (frzs : ∀ b o u, H b = some (.frz o u) → H' b = some (.frz o u)) (tbls : ∀ b ps, H b = some (.tbl ps) → ∃ more, H' b = some (.tbl (ps ++ more)))
    (ns : ∀ m, s.heap.Ns X.env.locals m → h'.Ns X.env.locals m) (hok : HOk X.prog X.w H' h') (hg : AllBare g') :
    Inv X pins σ H' { s with heap := h', gens := g', drawn := d', toks := t' } := by
  have neL : ∀ b o, X.s_0.heap.get? b = some o → b ≠ X.env.locals := fun b o e => Nat.ne_of_lt (Nat.lt_of_lt_of_le (Heap.lt_size e) I.ok.above)
  have neC : ∀ b o, X.s_0.heap.get? b = some o → b ∉ X.ex → b ∉ ch := fun b o e hx hb => by
    rcases (hch b hb).1 with z | z
    · exact hx z
    · exact absurd (Nat.lt_of_lt_of_le (Heap.lt_size e) z) (Nat.lt_irrefl _)
  have cellK : ∀ x c, X.env.cells.lookup x = some c → ∀ v, s.heap.IsCell c v → h'.IsCell c v := fun x c e v ⟨o, ho, hd⟩ => by
    have nch : c ∉ ch := fun z => (hch c z).2.2.1 x c e rfl
    by_cases hc : c ∈ X.fs
    · obtain ⟨sl, q⟩ := slot c o (I.cne x c e) hc nch ho (I.freeC x c e)
      exact ⟨_, q, hd⟩
    · exact ⟨o, keep c o (I.cne x c e) hc nch ho (I.freeC x c e), hd⟩
  refine ⟨I.ok, I.os, hg, ⟨fun b o e n hb hx => ?_, fun b o e n hb hx => ?_, fun b o e n hx => ?_, fun b o e hx => ?_, fun b xs e => tups b xs (I.base.tups b xs e), fun b o xs e => frzs b o xs (I.base.frzs b o xs e), fun b ps e => ?_⟩, ?_, fun x c e => ?_, ?_, fun x c e => ?_, fun p hp => ?_, hok, I.len⟩
  · exact keep b o (neL b o e) hb (neC b o e hx) (I.base.keep b o e n hb hx) (I.base.free b o e n hx)
  · obtain ⟨sl, e1⟩ := I.base.slot b o e n hb hx
    obtain ⟨sl', e2⟩ := slot b _ (neL b o e) hb (neC b o e hx) e1 (I.base.free b o e n hx)
    exact ⟨sl', e2⟩
  · obtain ⟨o', e1⟩ := I.base.there b o e hx
    exact free b o' (neC b o e hx) e1 (I.base.free b o e n hx)
  · obtain ⟨o', e1⟩ := I.base.there b o e hx
    exact there b o' (neC b o e hx) e1
  · obtain ⟨m1, e1⟩ := I.base.tbls b ps e
    obtain ⟨m2, e2⟩ := tbls b _ e1
    exact ⟨m1 ++ m2, by rw [e2, Array.append_assoc]⟩
  · obtain ⟨m, hn, hl⟩ := I.loc
    refine ⟨m, ns m hn, fun i x v e1 e2 e3 => ?_⟩
    obtain ⟨u, r, l⟩ := hl i x v e1 e2 e3
    refine ⟨u, r, ?_⟩
    rcases l with l | ⟨k, c, e, z⟩
    · exact .inl l
    · exact .inr ⟨k, c, e, cellK x c e _ z⟩
  · obtain ⟨v, z⟩ := I.cell x c e
    exact ⟨v, cellK x c e v z⟩
  · obtain ⟨m, ⟨o, _, _, ho, _⟩, _⟩ := I.loc
    exact free _ o (fun z => (hch _ z).2.1 rfl) ho I.free
  · obtain ⟨v, o, ho, hd⟩ := I.cell x c e
    exact free c o (fun z => (hch c z).2.2.1 x c e rfl) ho (I.freeC x c e)
  · obtain ⟨e, n, ne, nf, d⟩ := I.pin p hp
    have nch : p.1 ∉ ch := fun z => (hch p.1 z).2.2.2 p hp rfl
    exact ⟨keep p.1 p.2 ne nf nch e n, free p.1 p.2 nch e n, ne, nf, d⟩
/-- .. where the frame's own object is kept too -/
theorem Inv.un {t' : Nat} (I : Inv X pins σ H s) (u : Un X.fs [] H H' s.heap h') (hok : HOk X.prog X.w H' h') : Inv X pins σ H' { s with heap := h', toks := t' } := by
  obtain ⟨m, ⟨o, es, ep, ho, r⟩, _⟩ := id I.loc
  obtain ⟨sl, hL⟩ := u.any ho I.free (by simp)
  exact I.step (g' := s.gens) (d' := s.drawn) (ch := []) (fun _ z => nomatch z) (fun b o _ hb _ e n => u.keep b o e n hb (by simp)) (fun b o _ hb _ e n => u.slot b o e n hb (by simp)) (fun b o _ e n => u.free b o e n (by simp)) (fun b o _ e => u.there b o e (by simp)) u.tups u.frzs u.tbls (fun m' hm => by
    obtain ⟨o', es', ep', ho', r'⟩ := hm
    rw [ho] at ho'; cases ho'
    exact ⟨_, es', ep', hL, r'⟩) hok I.bare
/-- behind a call (or a comprehension's block): the slots of this frame may have changed too, the records at ch may have turned -/
theorem Inv.call {g' : Array GenState} {t' : Nat} {d' : Drawn} {ch : List Addr} (I : Inv X pins σ H s) (u : Un (frs X.stack) ch H H' s.heap h') (hok : HOk X.prog X.w H' h') (hg : AllBare g')
    (hch : ∀ b ∈ ch, (b ∈ X.ex ∨ X.s_0.heap.objs.size ≤ b) ∧ b ≠ X.env.locals ∧ (∀ x c, X.env.cells.lookup x = some c → c ≠ b) ∧ ∀ p ∈ X.pn ++ pins, p.1 ≠ b) :
    Inv X pins σ H' { s with heap := h', gens := g', drawn := d', toks := t' } := by
  obtain ⟨m, ⟨o, es, ep, ho, r⟩, _⟩ := id I.loc
  obtain ⟨sl, hL⟩ := u.any ho I.free fun z => (hch _ z).2.1 rfl
  exact I.step (ch := ch) hch (fun b o hL hb hc e n => u.keep b o e n (fun z => (List.mem_cons.mp (I.stkSub b z)).elim hL hb) hc) (fun b o _ _ hc e n => u.any e n hc) (fun b o hc e n => u.free b o e n hc) (fun b o hc e => u.there b o e hc) u.tups u.frzs u.tbls (fun m' hm => by
    obtain ⟨o', es', ep', ho', r'⟩ := hm
    rw [ho] at ho'; cases ho'
    exact ⟨_, es', ep', hL, r'⟩) hok hg
/-- an untracked record of ours (an iterator) has turned -/
theorem Inv.turned {t' : Nat} {it : Addr} (I : Inv X pins σ H s) (k : ∀ b o, b ≠ it → s.heap.get? b = some o → h'.get? b = some o) (hn : H it = none) (hL : it ≠ X.env.locals)
    (h1 : it ∈ X.ex ∨ X.s_0.heap.objs.size ≤ it) (h2 : ∀ x c, X.env.cells.lookup x = some c → c ≠ it) (h3 : ∀ p ∈ X.pn ++ pins, p.1 ≠ it) : Inv X pins σ H { s with heap := h', toks := t' } := by
  have nit : ∀ b u, H b = some u → b ≠ it := fun b u e z => by rw [z, hn] at e; cases e
  refine I.step (g' := s.gens) (d' := s.drawn) (ch := [it]) (fun b hb => ?_) (fun b o _ _ hc e _ => k b o (fun z => hc (by simp [z])) e) (fun b o _ _ hc e _ => ⟨o.slots, k b o (fun z => hc (by simp [z])) e⟩) (fun _ _ _ _ n => n)
    (fun b o hc e => ⟨o, k b o (fun z => hc (by simp [z])) e⟩) (fun _ _ e => e) (fun _ _ _ e => e) (fun b ps e => ⟨#[], by rw [e]; simp⟩) (fun m hm => ?_) (fun b u e => ?_) I.bare
  · have e : b = it := by simpa using hb
    subst e
    exact ⟨h1, hL, h2, h3⟩
  · obtain ⟨o, es, ep, ho, r⟩ := hm
    exact ⟨o, es, ep, k _ o (Ne.symm hL) ho, r⟩
  · refine (I.hok b u e).stay (fun c v hc q => k c v ?_ q) (fun _ q => q) fun _ _ q => q
    rcases hc with z | z
    · rw [z]; exact nit b u e
    · exact nit c _ z
theorem Inv.tok (I : Inv X pins σ H s) (t : Nat) : Inv X pins σ H { s with toks := t } := I.un (h' := s.heap) (t' := t) Un.refl I.hok
/-- all objects kept -/
theorem Inv.kept {t' : Nat} (I : Inv X pins σ H s) (k : ∀ b u, s.heap.get? b = some u → h'.get? b = some u) : Inv X pins σ H { s with heap := h', toks := t' } := I.un (Un.kept k) (I.hok.kept k)
/-- a new object laid and tracked -/
theorem Inv.laid {a : Addr} {o : HO} {t' : Nat} (I : Inv X pins σ H s) (k : ∀ b u, s.heap.get? b = some u → h'.get? b = some u) (hp : s.heap.objs.size ≤ a) (new : ObjOk X.prog X.w (upd H a o) h' a o) :
    Inv X pins σ (upd H a o) { s with heap := h', toks := t' } := I.un (Un.laid k hp (I.hok.fresh hp)) (I.hok.laid k hp new)
/-- an object written -/
theorem Inv.write {x e : Addr} {o : HO} {t' : Nat} (I : Inv X pins σ H s) (mu : Mut (H x)) (he : e = x ∨ H e = some (.own x)) (k : ∀ b u, b ≠ e → s.heap.get? b = some u → h'.get? b = some u) (heo : ∃ u, h'.get? e = some u)
    (new : ObjOk X.prog X.w (upd H x o) h' x o) : Inv X pins σ (upd H x o) { s with heap := h', toks := t' } := I.un (Un.write mu he k heo) (I.hok.write mu he k heo new)
/-- forgetting slots, pins -/
theorem Inv.weak {σ' : List (Option V)} (I : Inv X pins σ H s) (hl : σ'.length = σ.length) (w : ∀ (i : Nat) v, σ'[i]? = some (some v) → σ[i]? = some (some v)) : Inv X pins σ' H s :=
  ⟨I.ok, I.os, I.bare, I.base, let ⟨m, hn, hl'⟩ := I.loc; ⟨m, hn, fun i x v e1 e2 e3 => hl' i x v e1 (w i v e2) e3⟩, I.cell, I.free, I.freeC, I.pin, I.hok, hl.trans I.len⟩
theorem Inv.pins_of {pins' : List (Addr × Obj)} (I : Inv X pins σ H s) (h : ∀ p ∈ pins', s.heap.get? p.1 = some p.2 ∧ H p.1 = none ∧ p.1 ≠ X.env.locals ∧ p.1 ∉ X.fs ∧ ∀ v, p.2.data ≠ .cell v) : Inv X pins' σ H s :=
  ⟨I.ok, I.os, I.bare, I.base, I.loc, I.cell, I.free, I.freeC, fun p hp => (List.mem_append.mp hp).elim (fun z => I.pin p (List.mem_append_left _ z)) (h p), I.hok, I.len⟩

theorem nodup_ix {N : List Str} (hN : N.Nodup) {i j : Nat} {x : Str} (a : N[i]? = some x) (b : N[j]? = some x) : i = j := by
  obtain ⟨h1, e1⟩ := List.getElem?_eq_some_iff.mp a
  obtain ⟨h2, e2⟩ := List.getElem?_eq_some_iff.mp b
  exact (List.getElem_inj hN).mp (e1.trans e2.symm)

/-- a name is stored; what changed -/
theorem store_ok2 {M : Model} {A : Around} {E : Value → Shared → Prop} {i : Nat} {x : Str} {v : V} {u : Value} {Q : Unit → Shared → Prop} (I : Inv X pins σ H s) (hN : X.N.Nodup) (hi : X.N[i]? = some x) (hx : Loc X.env.scope x) (r : RelV v u)
    (h : ∀ s', Inv X pins (σ.set i (some v)) H s' → (∃ a, Heap.SameBut a s.heap s'.heap ∧ (a = X.env.locals ∨ X.env.cells.lookup x = some a)) → Q () s') (hf : X.fn x = true ∨ X.env.scope.names.lookup x = some .local := by first | exact .inl rfl | exact .inr rfl | assumption) : wpAny M A (storeName X.env x u) Q E s := by
  obtain ⟨m, hn, hl⟩ := id I.loc
  have hcls : (X.env.scope.kind == .class || (X.env.scope.kind == .module && X.env.locals != X.env.globals)) = false := by rw [I.ok.kind]; rfl
  have hiσ : i < σ.length := by rw [I.len]; exact (List.getElem?_eq_some_iff.mp hi).1
  have cne := I.cne
  have tracked : ∀ {a : Addr} {h' : Heap}, (∃ o, s.heap.get? a = some o ∧ H a = none) → Heap.SameBut a s.heap h' → HOk X.prog X.w H h' := fun {a h'} ha hs b ob e => by
    obtain ⟨_, _, hfree⟩ := ha
    refine (I.hok b ob e).stay (fun c w' hc q => (hs.2 c ?_).trans q) (fun _ q => q) fun _ _ q => q
    rintro rfl
    rcases hc with rfl | hc
    · rw [hfree] at e; cases e
    · rw [hfree] at hc; cases hc
  rcases hx with hk | hk
  · refine wpAny_storeName_local hk hn (fun h' hn' hs => ?_) hcls
    obtain ⟨oL, _, _, hoL, _⟩ := id hn
    refine h _ ⟨I.ok, I.os, I.bare, ⟨fun b o e n hb hx => ?_, fun b o e n hb hx => ?_, I.base.free, fun b o e hx => ?_, I.base.tups, I.base.frzs, I.base.tbls⟩, ⟨_, hn', fun j y v' e1 e2 e3 => ?_⟩, fun y c e => ?_, I.free, I.freeC, fun p hp => ?_, tracked ⟨oL, hoL, I.free⟩ hs, by simpa using I.len⟩ ⟨_, hs, .inl rfl⟩
    · exact (hs.2 b (Nat.ne_of_lt (Nat.lt_of_lt_of_le (Heap.lt_size e) I.ok.above))).trans (I.base.keep b o e n hb hx)
    · obtain ⟨sl, e1⟩ := I.base.slot b o e n hb hx
      exact ⟨sl, (hs.2 b (Nat.ne_of_lt (Nat.lt_of_lt_of_le (Heap.lt_size e) I.ok.above))).trans e1⟩
    · obtain ⟨o', e1⟩ := I.base.there b o e hx
      exact ⟨o', (hs.2 b (Nat.ne_of_lt (Nat.lt_of_lt_of_le (Heap.lt_size e) I.ok.above))).trans e1⟩
    · by_cases hj : j = i
      · subst hj
        rw [hi] at e1; cases e1
        rw [List.getElem?_set_self hiσ] at e2
        cases e2
        exact ⟨u, r, .inl ⟨hk, by simp⟩⟩
      · rw [List.getElem?_set_ne (Ne.symm hj)] at e2
        obtain ⟨u', r', q⟩ := hl j y v' e1 e2 e3
        refine ⟨u', r', ?_⟩
        rcases q with ⟨k, e⟩ | ⟨k, c, e, z⟩
        · refine .inl ⟨k, ?_⟩
          have : y ≠ x := fun e => hj (nodup_ix hN e1 (e ▸ hi))
          simp [this, e]
        · exact .inr ⟨k, c, e, z.sameBut hs (cne y c e)⟩
    · obtain ⟨w', z⟩ := I.cell y c e
      exact ⟨w', z.sameBut hs (cne y c e)⟩
    · obtain ⟨e, n, ne, nf, d⟩ := I.pin p hp
      exact ⟨(hs.2 p.1 ne).trans e, n, ne, nf, d⟩
  · have hfn : X.fn x = true := by
      rcases hf with z | z
      · exact z
      · rw [z] at hk; cases hk
    obtain ⟨c, hc⟩ := I.ok.has x (.inl hk)
    obtain ⟨w', z⟩ := I.cell x c hc
    refine wpAny_storeName_cell I.ok.kind hk hc z (fun h' hc' hs => ?_)
    obtain ⟨oc, hoc, hocd⟩ := id z
    refine h { s with heap := h' } ⟨I.ok, I.os, I.bare, ⟨fun b o e n hb hx => ?_, fun b o e n hb hx => ?_, I.base.free, fun b o e hx => ?_, I.base.tups, I.base.frzs, I.base.tbls⟩, ⟨m, hn.sameBut hs (Ne.symm (cne x c hc)), fun j y v' e1 e2 e3 => ?_⟩, fun y c' e => ?_, I.free, I.freeC, fun p hp => ?_, tracked ⟨oc, hoc, I.freeC x c hc⟩ hs, by simpa using I.len⟩ ⟨c, hs, .inr hc⟩
    · exact (hs.2 b (Nat.ne_of_lt (Nat.lt_of_lt_of_le (Heap.lt_size e) (I.ok.cab x c hfn hc)))).trans (I.base.keep b o e n hb hx)
    · obtain ⟨sl, e1⟩ := I.base.slot b o e n hb hx
      exact ⟨sl, (hs.2 b (Nat.ne_of_lt (Nat.lt_of_lt_of_le (Heap.lt_size e) (I.ok.cab x c hfn hc)))).trans e1⟩
    · obtain ⟨o', e1⟩ := I.base.there b o e hx
      exact ⟨o', (hs.2 b (Nat.ne_of_lt (Nat.lt_of_lt_of_le (Heap.lt_size e) (I.ok.cab x c hfn hc)))).trans e1⟩
    · by_cases hj : j = i
      · subst hj
        rw [hi] at e1; cases e1
        rw [List.getElem?_set_self hiσ] at e2
        cases e2
        exact ⟨u, r, .inr ⟨.inl hk, c, hc, hc'⟩⟩
      · rw [List.getElem?_set_ne (Ne.symm hj)] at e2
        obtain ⟨u', r', q⟩ := hl j y v' e1 e2 e3
        refine ⟨u', r', ?_⟩
        rcases q with q | ⟨k, c', e, z'⟩
        · exact .inl q
        · refine .inr ⟨k, c', e, z'.sameBut hs ?_⟩
          rintro rfl
          exact hj (nodup_ix hN e1 (I.ok.inj _ _ _ e hc ▸ hi))
    · by_cases hcc : c' = c
      · subst hcc; exact ⟨_, hc'⟩
      · obtain ⟨w2, z2⟩ := I.cell y c' e
        exact ⟨w2, z2.sameBut hs hcc⟩
    · obtain ⟨e, n, ne, nf, d⟩ := I.pin p hp
      refine ⟨(hs.2 p.1 ?_).trans e, n, ne, nf, d⟩
      intro q
      rw [q, hoc] at e
      have q' : oc = p.2 := Option.some.inj e
      exact d w' (by rw [← q']; exact hocd)
theorem store_ok {M : Model} {A : Around} {E : Value → Shared → Prop} {i : Nat} {x : Str} {v : V} {u : Value} {Q : Unit → Shared → Prop} (I : Inv X pins σ H s) (hN : X.N.Nodup) (hi : X.N[i]? = some x) (hx : Loc X.env.scope x) (r : RelV v u)
    (h : ∀ s', Inv X pins (σ.set i (some v)) H s' → Q () s') (hf : X.fn x = true ∨ X.env.scope.names.lookup x = some .local := by first | exact .inl rfl | exact .inr rfl | assumption) : wpAny M A (storeName X.env x u) Q E s :=
  store_ok2 I hN hi hx r (fun s' I' _ => h s' I') hf
/-- behind a call or a block, the state as it is -/
theorem Inv.call' {s' : Shared} {ch : List Addr} (I : Inv X pins σ H s) (ho : s'.os = s.os) (u : Un (frs X.stack) ch H H' s.heap s'.heap) (hok : HOk X.prog X.w H' s'.heap) (hg : AllBare s'.gens)
    (hch : ∀ b ∈ ch, (b ∈ X.ex ∨ X.s_0.heap.objs.size ≤ b) ∧ b ≠ X.env.locals ∧ (∀ x c, X.env.cells.lookup x = some c → c ≠ b) ∧ ∀ p ∈ X.pn ++ pins, p.1 ≠ b) : Inv X pins σ H' s' := by
  obtain ⟨h', g', d', t', o'⟩ := s'
  have e : o' = s.os := ho
  subst e
  exact I.call (g' := g') (t' := t') (d' := d') u hok hg hch
end

/-! ### the judgements -/
/-- an exception: its class, its own dict's address (where it has one), the abstract heap behind it -/
abbrev XK := Value → Option Addr → Hp → Prop
abbrev St := List (Option V)
abbrev VK := V → Hp → Prop
/-- an expression's reading; a test's; an argument list's -/
abbrev TE := St → Hp → VK → Prop
abbrev TT := St → Hp → (Bool → Hp → Prop) → Prop
abbrev TA := St → Hp → (List V → Hp → Prop) → Prop
/-- what is wanted behind a statement -/
structure Ends where
  nx : St → Hp → Prop
  rt : VK
  bk : St → Hp → Prop := fun _ _ => False
  ct : St → Hp → Prop := fun _ _ => False
abbrev TS := Ends → St → Hp → Prop

def EP (X : Cx) (pins : List (Addr × Obj)) (σ : St) (Q : VK) (u : Value) (s' : Shared) : Prop := ∃ v H', Inv X pins σ H' s' ∧ RelV v u ∧ Q v H'
def TP (X : Cx) (pins : List (Addr × Obj)) (σ : St) (Q : Bool → Hp → Prop) (b : Bool) (s' : Shared) : Prop := ∃ H', Inv X pins σ H' s' ∧ Q b H'
def AP (X : Cx) (pins : List (Addr × Obj)) (σ : St) (Q : List V → Hp → Prop) (us : List Value) (s' : Shared) : Prop := ∃ vs H', Inv X pins σ H' s' ∧ Vals vs us ∧ Q vs H'
def SP (X : Cx) (pins : List (Addr × Obj)) (D : Ends) (f : Flow) (s' : Shared) : Prop :=
  match f with
  | .next => ∃ σ' H', Inv X pins σ' H' s' ∧ D.nx σ' H'
  | .brk => ∃ σ' H', Inv X pins σ' H' s' ∧ D.bk σ' H'
  | .cont => ∃ σ' H', Inv X pins σ' H' s' ∧ D.ct σ' H'
  | .ret u => ∃ v σ' H', Inv X pins σ' H' s' ∧ RelV v u ∧ D.rt v H'

def PE (X : Cx) (e : Expr) (t : TE) : Prop :=
  ∀ (pins : List (Addr × Obj)) (s : Shared) (σ : St) (H : Hp) (Q : VK), Inv X pins σ H s → t σ H Q → wpAny (model X.prog X.w) X.A (eval e X.env) (EP X pins σ Q) X.xe s
def PT (X : Cx) (e : Expr) (t : TT) : Prop :=
  ∀ (pins : List (Addr × Obj)) (s : Shared) (σ : St) (H : Hp) (Q : Bool → Hp → Prop), Inv X pins σ H s → t σ H Q → wpAny (model X.prog X.w) X.A (isTrue e X.env (eval e X.env)) (TP X pins σ Q) X.xe s
/-- a test whatever its 'whole' is (and, or) -/
def PW (X : Cx) (e : Expr) (t : TT) : Prop :=
  ∀ (whole : Sem Value) (pins : List (Addr × Obj)) (s : Shared) (σ : St) (H : Hp) (Q : Bool → Hp → Prop), Inv X pins σ H s → t σ H Q → wpAny (model X.prog X.w) X.A (isTrue e X.env whole) (TP X pins σ Q) X.xe s
theorem PW.pt {X : Cx} {e : Expr} {t : TT} (h : PW X e t) : PT X e t := h _
/-- an argument list (no star), from the left -/
def PA (X : Cx) (es : List Expr) (t : TA) : Prop :=
  ∀ (pos : Pos) (pins : List (Addr × Obj)) (s : Shared) (σ : St) (H : Hp) (Q : List V → Hp → Prop), Inv X pins σ H s → t σ H Q → wpAny (model X.prog X.w) X.A (spliced (backTo pos (starEach es X.env))) (AP X pins σ Q) X.xe s
def PS (X : Cx) (st : Stmt) (t : TS) : Prop :=
  ∀ (pins : List (Addr × Obj)) (s : Shared) (σ : St) (H : Hp) (D : Ends), Inv X pins σ H s → t D σ H → wpAny (model X.prog X.w) X.A (exec st X.env) (SP X pins D) X.xe s
def PSs (X : Cx) (st : List Stmt) (t : TS) : Prop :=
  ∀ (pins : List (Addr × Obj)) (s : Shared) (σ : St) (H : Hp) (D : Ends), Inv X pins σ H s → t D σ H → wpAny (model X.prog X.w) X.A (execs st X.env) (SP X pins D) X.xe s
/-- weaken the end -/
theorem thn {α : Type} {t : Sem α} {Q Q' : α → Shared → Prop} {M : Model} {A : Around} {E : Value → Shared → Prop} {s : Shared} (h : wpAny M A t Q E s) (hQ : ∀ a s, Q a s → Q' a s) : wpAny M A t Q' E s := wpAny_mono h hQ fun _ _ x => x
end L2

namespace L2
open PySem PySem.Spec PyProof.Rows
section
variable {X : Cx}

/-! ### names and constants -/
def tVar (i : Nat) : TE := fun σ H Q => ∃ v, σ[i]? = some (some v) ∧ Q v H
def tC (v : V) : TE := fun _ H Q => Q v H
theorem pe_var {i : Nat} {x : Str} {pos : Pos} (hN : X.N[i]? = some x) (hv : Vis X.env.scope x) (hd : (x == ("__debug__" : Str)) = false := by decide) (hcd : (x == ("__classdict__" : Str)) = false := by decide) : PE X (.Name x pos) (tVar i) := by
  intro pins s σ H Q I h
  obtain ⟨v, e, h⟩ := h
  obtain ⟨m, hn, hl⟩ := I.loc
  obtain ⟨u, r, l⟩ := hl i x v hN e hv
  have fin : EP X pins σ Q u s := ⟨v, H, I, r, h⟩
  rcases l with ⟨hk, hm⟩ | ⟨hk, c, hc, hcell⟩
  · exact wpAny_Name (wpAny_loadName_local I.ok.kind hk hn hm fin) hd
  · rcases hk with hk | hk
    · exact wpAny_Name (wpAny_loadName_cell I.ok.kind hk hc hcell fin) hd
    · exact wpAny_Name (wpAny_loadName_free I.ok.kind hk hc hcell fin hcd) hd
theorem pe_int {i j pos} : PE X (.Constant (.int i) j pos) (tC (.int i)) := fun _ _ _ H _ I h => wpAny_Constant_int ⟨.int i, H, I.tok _, ⟨_, rfl⟩, h⟩
theorem pe_bl {b j pos} : PE X (.Constant (.bool b) j pos) (tC (.bl b)) := fun _ _ _ H _ I h => Constant_bool ⟨.bl b, H, I, rfl, h⟩
/-- a global name of the def -/
def Gl (X : Cx) (x : Str) : Prop := X.env.kindOf x = some .globalImplicit
theorem ld_glob {E : Value → Shared → Prop} {pins : List (Addr × Obj)} {s : Shared} {σ : St} {H : Hp} {x : Str} {u : Value} {pos : Pos} {Q : Value → Shared → Prop} (I : Inv X pins σ H s) (hg : Gl X x) (hm : X.mg x = some u) (h : Q u s)
    (hd : (x == ("__debug__" : Str)) = false := by decide) : wpAny (model X.prog X.w) X.A (eval (.Name x pos) X.env) Q E s :=
  Calls.Name_function_global I.ok.kind hg (Calls.loadGlobal_global (by rw [I.ok.glob]; exact I.mod.glob.keeps I.bk) hm h) hd
theorem ld_blt {E : Value → Shared → Prop} {pins : List (Addr × Obj)} {s : Shared} {σ : St} {H : Hp} {x : Str} {u : Value} {pos : Pos} {Q : Value → Shared → Prop} (I : Inv X pins σ H s) (hg : Gl X x) (hm : X.mg x = none) (hv : bootBuiltins x = some u) (h : Q u s)
    (hn : x ≠ "__name__" := by decide) (hd : (x == ("__debug__" : Str)) = false := by decide) : wpAny (model X.prog X.w) X.A (eval (.Name x pos) X.env) Q E s := by
  obtain ⟨mb, h1, h2⟩ := I.mod.blt
  exact Calls.Name_function_global I.ok.kind hg (Calls.loadGlobal_builtin (by rw [I.ok.glob]; exact I.mod.glob.keeps I.bk) hm (by rw [I.ok.blt]; exact h1.keeps I.bk) ((h2 x hn).trans hv) h) hd
/-- a module's constant, a class, a function, as a value -/
theorem pe_glob {x : Str} {v : V} {u : Value} {pos : Pos} (hg : Gl X x) (hm : X.mg x = some u) (r : RelV v u) (hd : (x == ("__debug__" : Str)) = false := by decide) : PE X (.Name x pos) (tC v) :=
  fun _ _ _ H _ I h => ld_glob I hg hm ⟨v, H, I, r, h⟩ hd
/-! ### arithmetic -/
variable {a b : Expr} {ta tb : TE} {pos : Pos}
/-! ### comparisons -/
def PC (X : Cx) (op : CmpOp) (a b : Expr) (t : TE) : Prop :=
  ∀ (pins : List (Addr × Obj)) (s : Shared) (σ : St) (H : Hp) (Q : VK), Inv X pins σ H s → t σ H Q →
    wpAny (model X.prog X.w) X.A (eval a X.env) (fun v s₁ => wpAny (model X.prog X.w) X.A (eval b X.env) (fun u s₂ => wpAny (model X.prog X.w) X.A (compareOp op v u) (EP X pins σ Q) X.xe s₂) X.xe s₁) X.xe s
theorem nobehind (b : Expr) {op : CmpOp} (h : op ≠ .In) (h2 : op ≠ .NotIn) : behindInMarks op b = false := by
  have e1 : (op == CmpOp.In) = false := by cases op <;> first | rfl | exact absurd rfl h
  have e2 : (op == CmpOp.NotIn) = false := by cases op <;> first | rfl | exact absurd rfl h2
  cases b <;> simp [behindInMarks, e1, e2]
/-- a comparison as a value, as a test -/
def tB (t : TE) : TT := fun σ H Q => t σ H fun x H1 => ∃ c, x = .bl c ∧ Q c H1
theorem pe_cmp {op : CmpOp} {t : TE} (h : PC X op a b t) (h1 : behindInMarks op b = false := by first | exact nobehind _ (by decide) (by decide) | rfl) : PE X (.Compare a [op] [b] pos) t := fun pins s σ H Q I hw => wpAny_Compare1 (h pins s σ H Q I hw) h1
theorem pt_cmp {op : CmpOp} {t : TE} (h : PC X op a b t) (h1 : behindInMarks op b = false := by first | exact nobehind _ (by decide) (by decide) | rfl) : PT X (.Compare a [op] [b] pos) (tB t) := by
  intro pins s σ H Q I hw
  refine wpAny_isTrue_Compare1 (thn (h pins s σ H _ I hw) fun v s1 h1 => thn h1 fun u s2 h2 => thn h2 fun c s3 ⟨x, H1, I1, r1, q1⟩ => ?_) h1
  obtain ⟨d, rfl, q⟩ := q1
  cases r1
  exact wpAny_truthy_bool ⟨H1, I1, q⟩
/-- an expression whose value is a bool, as a test -/
theorem pt_val {e : Expr} {t : TE} (h : PE X e t) (he : ∀ whole, isTrue e X.env whole = (do let v ← whole; standAt e.pos; holding [v] (truthy v)) := by intro _; rfl) : PT X e (tB t) := by
  intro pins s σ H Q I hw
  refine isTrue_plain (thn (h pins s σ H _ I hw) fun v s1 ⟨x, H1, I1, r1, q1⟩ => ?_) (he _)
  obtain ⟨d, rfl, q⟩ := q1
  cases r1
  exact wpAny_truthy_bool ⟨H1, I1, q⟩

/-! ### and, or, not -/
variable {tA tB' : TT} {rest : List Expr}
def tAnd (t u : TT) : TT := fun σ H Q => t σ H fun c H1 => if c = true then u σ H1 Q else Q false H1
def tOr (t u : TT) : TT := fun σ H Q => t σ H fun c H1 => if c = true then Q true H1 else u σ H1 Q
def tNot (t : TT) : TT := fun σ H Q => t σ H fun c H1 => Q (!c) H1
theorem pw_and1 (ha : PT X a tA) : PW X (.BoolOp .And [a] pos) tA := by
  intro wh pins s σ H Q I h
  refine isTrue_and (thn (ha pins s σ H Q I h) fun c s1 e => ?_)
  cases c with
  | true => exact isTrue_and_nil e
  | false => exact e
theorem pw_or1 (ha : PT X a tA) : PW X (.BoolOp .Or [a] pos) tA := by
  intro wh pins s σ H Q I h
  refine isTrue_or (thn (ha pins s σ H Q I h) fun c s1 e => ?_)
  cases c with
  | false => exact isTrue_or_nil e
  | true => exact e
theorem pw_and (ha : PT X a tA) (hb : PW X (.BoolOp .And (b :: rest) pos) tB') : PW X (.BoolOp .And (a :: b :: rest) pos) (tAnd tA tB') := by
  intro wh pins s σ H Q I h
  refine isTrue_and (thn (ha pins s σ H _ I h) fun c s1 ⟨H1, I1, q1⟩ => ?_)
  cases c with
  | true => exact hb wh pins s1 σ H1 Q I1 q1
  | false => exact ⟨H1, I1, q1⟩
theorem pw_or (ha : PT X a tA) (hb : PW X (.BoolOp .Or (b :: rest) pos) tB') : PW X (.BoolOp .Or (a :: b :: rest) pos) (tOr tA tB') := by
  intro wh pins s σ H Q I h
  refine isTrue_or (thn (ha pins s σ H _ I h) fun c s1 ⟨H1, I1, q1⟩ => ?_)
  cases c with
  | true => exact ⟨H1, I1, q1⟩
  | false => exact hb wh pins s1 σ H1 Q I1 q1
theorem pt_not (ha : PT X a tA) : PT X (.UnaryOp .Not a pos) (tNot tA) := by
  intro pins s σ H Q I h
  exact isTrue_not (ha pins s σ H (fun c H1 => Q (!c) H1) I h)
/-- .. as values (bools) -/
def tAndV (ta tb : TE) : TE := fun σ H Q => ta σ H fun x H1 => ∃ c, x = .bl c ∧ if c = true then tb σ H1 Q else Q (.bl false) H1
def tOrV (ta tb : TE) : TE := fun σ H Q => ta σ H fun x H1 => ∃ c, x = .bl c ∧ if c = true then Q (.bl true) H1 else tb σ H1 Q
def tNotV (ta : TE) : TE := fun σ H Q => ta σ H fun x H1 => ∃ c, x = .bl c ∧ Q (.bl (!c)) H1
theorem pe_one {op} {t : TE} (h : PE X a t) : PE X (.BoolOp op [a] pos) t := fun pins s σ H Q I hw => BoolOp_one (h pins s σ H Q I hw)
theorem pe_and (ha : PE X a ta) (hb : PE X (.BoolOp .And (b :: rest) pos) tb) : PE X (.BoolOp .And (a :: b :: rest) pos) (tAndV ta tb) := by
  intro pins s σ H Q I h
  refine BoolOp_and (thn (ha pins s σ H _ I h) fun v s1 ⟨x, H1, I1, r1, q1⟩ => ?_)
  obtain ⟨c, rfl, q1⟩ := q1
  cases r1
  refine wpAny_truthy_bool ?_
  cases c with
  | true => exact hb pins s1 σ H1 Q I1 q1
  | false => exact ⟨.bl false, H1, I1, rfl, q1⟩
theorem pe_or (ha : PE X a ta) (hb : PE X (.BoolOp .Or (b :: rest) pos) tb) : PE X (.BoolOp .Or (a :: b :: rest) pos) (tOrV ta tb) := by
  intro pins s σ H Q I h
  refine BoolOp_or (thn (ha pins s σ H _ I h) fun v s1 ⟨x, H1, I1, r1, q1⟩ => ?_)
  obtain ⟨c, rfl, q1⟩ := q1
  cases r1
  refine wpAny_truthy_bool ?_
  cases c with
  | false => exact hb pins s1 σ H1 Q I1 q1
  | true => exact ⟨.bl true, H1, I1, rfl, q1⟩
/-- a if t else b -/
def tIf (t : TT) (ta tb : TE) : TE := fun σ H Q => t σ H fun c H1 => if c = true then ta σ H1 Q else tb σ H1 Q
end
end L2

namespace L2
open PySem PySem.Spec PyProof.Rows

/-! ### a list, a tuple that is read: tracked, frozen, or an object of the module -/
def SqL (K : PySem.W.Frag) (H : Hp) (a : Addr) (xs : List V) : Prop :=
  Rd H a (.lst xs) ∨
    ∃ (o : Obj) (its : Array Value) (n : Nat), K.lookup a = some o ∧ o.cls = .type "list" ∧ o.dict = none ∧ o.data = .seq its n ∧ its.size ≤ sizeLine ∧ Vals xs its.toList
def SqT (K : PySem.W.Frag) (H : Hp) (a : Addr) (xs : List V) : Prop :=
  Rd H a (.tup xs) ∨
    ∃ (o : Obj) (its : Array Value) (n : Nat), K.lookup a = some o ∧ o.cls = .type "tuple" ∧ o.data = .seq its n ∧ its.size ≤ sizeLine ∧ Vals xs its.toList
def absV : Value → Option V
  | .none => some .non
  | .bool b => some (.bl b)
  | .int i _ => some (.int i)
  | .str x _ => some (.str x)
  | .bytes b _ => some (.byt b)
  | .float b _ => some (.flt b)
  | .ref a => some (.ref a)
  | .type n => some (.ty n)
  | _ => none
theorem RelV.abs {x : V} {u : Value} (r : RelV x u) : absV u = some x := by
  cases x with
  | non => cases r; rfl
  | bl _ => cases r; rfl
  | int _ => obtain ⟨t, rfl⟩ := r; rfl
  | str _ => obtain ⟨t, rfl⟩ := r; rfl
  | byt _ => obtain ⟨t, rfl⟩ := r; rfl
  | flt _ => obtain ⟨t, rfl⟩ := r; rfl
  | ref _ => cases r; rfl
  | ty _ => cases r; rfl
theorem RelV.inj {x y : V} {u : Value} (r : RelV x u) (q : RelV y u) : x = y := Option.some.inj (r.abs.symm.trans q.abs)
theorem Vals.inj : ∀ {xs ys : List V} {us : List Value}, Vals xs us → Vals ys us → xs = ys
  | _, _, _, .nil, .nil => rfl
  | _, _, _, .cons r t, .cons r' t' => by rw [r.inj r', Vals.inj t t']
section
variable {X : Cx} {pins : List (Addr × Obj)} {σ : St} {H : Hp} {s : Shared} {a : Addr} {xs ys : List V}
theorem SqL.of {K : PySem.W.Frag} (h : H a = some (.lst xs)) : SqL K H a xs := .inl (.inl h)
theorem SqT.of {K : PySem.W.Frag} (h : H a = some (.tup xs)) : SqT K H a xs := .inl (.inl h)
theorem Inv.list (I : Inv X pins σ H s) (h : SqL X.K H a xs) : ∃ its : List Value, Vals xs its ∧ PlainL s.heap a its.toArray ∧ xs.length ≤ sizeLine := by
  rcases h with h | ⟨o, its, n, hk, hc, hd, hs, hz, r⟩
  · obtain ⟨z, its, n, r, e⟩ := h.ok I.hok
    exact ⟨its, r, ⟨_, n, e, rfl, rfl, rfl⟩, z⟩
  · refine ⟨its.toList, r, ⟨o, n, I.kIn a o hk, hc, hd, by simpa using hs⟩, ?_⟩
    have e := r.length
    simp only [Array.length_toList] at e
    omega
theorem Inv.tuple (I : Inv X pins σ H s) (h : SqT X.K H a xs) : ∃ its : List Value, Vals xs its ∧ IsTup s.heap a its.toArray ∧ xs.length ≤ sizeLine := by
  rcases h with h | ⟨o, its, n, hk, hc, hs, hz, r⟩
  · obtain ⟨z, its, r, p⟩ := h.ok I.hok
    exact ⟨its, r, p, z⟩
  · refine ⟨its.toList, r, ⟨o, I.kIn a o hk, hc, n, by simpa using hs⟩, ?_⟩
    have e := r.length
    simp only [Array.length_toList] at e
    omega
theorem Inv.list_inj (I : Inv X pins σ H s) (h : SqL X.K H a xs) (h' : SqL X.K H a ys) : xs = ys := by
  obtain ⟨its, r, ⟨o, n, e, _, _, d⟩, _⟩ := I.list h
  obtain ⟨its', r', ⟨o', n', e', _, _, d'⟩, _⟩ := I.list h'
  rw [e] at e'; cases e'
  rw [d] at d'
  injection d' with d1 _
  have : its = its' := by simpa using congrArg Array.toList d1
  subst this
  exact r.inj r'
end

/-! ### another wish about exceptions -/
abbrev Cx.wish (X : Cx) (E : Value → Shared → Prop) : Cx := { X with xe := E }
/-- no exception leaves -/
abbrev Cx.nox (X : Cx) : Cx := X.wish fun _ _ => False
theorem Cx.Ok.wish {X : Cx} (ok : X.Ok) (E : Value → Shared → Prop) : (X.wish E).Ok :=
  ⟨ok.mod, ok.kind, ok.glob, ok.blt, ok.above, ok.inj, ok.has, ok.cab, ok.hd, ok.frames, ok.stk, ok.exf, ok.bs, ok.bsz, ok.noex, ok.exfs, ok.funs, ok.frf⟩
theorem Cx.Ok.unwish {X : Cx} {E : Value → Shared → Prop} (ok : (X.wish E).Ok) : X.Ok :=
  ⟨ok.mod, ok.kind, ok.glob, ok.blt, ok.above, ok.inj, ok.has, ok.cab, ok.hd, ok.frames, ok.stk, ok.exf, ok.bs, ok.bsz, ok.noex, ok.exfs, ok.funs, ok.frf⟩
section
variable {X : Cx} {pins : List (Addr × Obj)} {σ : St} {H : Hp} {s : Shared} {E : Value → Shared → Prop}
theorem Inv.wish (I : Inv X pins σ H s) (E : Value → Shared → Prop) : Inv (X.wish E) pins σ H s := ⟨I.ok.wish E, I.os, I.bare, I.base, I.loc, I.cell, I.free, I.freeC, I.pin, I.hok, I.len⟩
theorem Inv.unwish (I : Inv (X.wish E) pins σ H s) : Inv X pins σ H s := ⟨I.ok.unwish, I.os, I.bare, I.base, I.loc, I.cell, I.free, I.freeC, I.pin, I.hok, I.len⟩
theorem SP.unwish {D : Ends} {f : Flow} {s' : Shared} (h : SP (X.wish E) pins D f s') : SP X pins D f s' := by
  cases f with
  | next => obtain ⟨σ', H', I, q⟩ := h; exact ⟨σ', H', I.unwish, q⟩
  | brk => obtain ⟨σ', H', I, q⟩ := h; exact ⟨σ', H', I.unwish, q⟩
  | cont => obtain ⟨σ', H', I, q⟩ := h; exact ⟨σ', H', I.unwish, q⟩
  | ret u => obtain ⟨v, σ', H', I, r, q⟩ := h; exact ⟨v, σ', H', I.unwish, r, q⟩
theorem PE.nox {e : Expr} {t : TE} (h : PE X.nox e t) : PE X e t := fun pins s σ H Q I hw =>
  wpAny_mono (h pins s σ H Q (I.wish _) hw) (fun _ _ ⟨v, H', I', r, q⟩ => ⟨v, H', I'.unwish, r, q⟩) fun _ _ z => False.elim z
theorem PT.nox {e : Expr} {t : TT} (h : PT X.nox e t) : PT X e t := fun pins s σ H Q I hw =>
  wpAny_mono (h pins s σ H Q (I.wish _) hw) (fun _ _ ⟨H', I', q⟩ => ⟨H', I'.unwish, q⟩) fun _ _ z => False.elim z
theorem PSs.nox {st : List Stmt} {t : TS} (h : PSs X.nox st t) : PSs X st t := fun pins s σ H D I hw =>
  wpAny_mono (h pins s σ H D (I.wish _) hw) (fun _ _ q => q.unwish) fun _ _ z => False.elim z
end

/-! ### blocks and small statements -/
section
variable {X : Cx} {st : Stmt} {rest : List Stmt} {t u : TS} {e : Expr} {te : TE} {pos : Pos}
def tNext : TS := fun D σ H => D.nx σ H
def tSeq (t u : TS) : TS := fun D σ H => t { D with nx := u D } σ H
theorem pss_nil : PSs X [] tNext := fun _ _ σ H _ I h => wpAny_execs_nil ⟨σ, H, I, h⟩
theorem pss_cons (h1 : PS X st t) (h2 : PSs X rest u) : PSs X (st :: rest) (tSeq t u) := by
  intro pins s σ H D I h
  refine wpAny_execs_cons (thn (h1 pins s σ H { D with nx := u D } I h) fun f s1 q => ?_)
  cases f with
  | next =>
    obtain ⟨σ', H', I', q⟩ := q
    exact h2 pins s1 σ' H' D I' q
  | ret v => exact q
  | brk => exact q
  | cont => exact q
theorem pss_one (h1 : PS X st t) : PSs X [st] t := by
  intro pins s σ H D I h
  refine wpAny_execs_cons (thn (h1 pins s σ H D I h) fun f s1 q => ?_)
  cases f with
  | next => exact wpAny_execs_nil q
  | ret v => exact q
  | brk => exact q
  | cont => exact q
def tBreak : TS := fun D σ H => D.bk σ H
def tCont : TS := fun D σ H => D.ct σ H
theorem ps_continue : PS X (.Continue pos) tCont := fun _ _ σ H _ I h => wpAny_Continue ⟨σ, H, I, h⟩
/-- in a def's body nothing is shown -/
theorem Inv.quiet {pins : List (Addr × Obj)} {σ : St} {H : Hp} {s : Shared} (I : Inv X pins σ H s) : interactive X.env = false := by simp [interactive, I.ok.kind]
/-- an expression whose value is dropped -/
def tDrop (te : TE) : TS := fun D σ H => te σ H fun _ H1 => D.nx σ H1
theorem ps_expr (he : PE X e te) (hs : swapsWith e none pos.line X.env = pure false := by rfl) : PS X (.Expr e pos) (tDrop te) := by
  intro pins s σ H D I h
  exact wpAny_Expr_any (thn (he pins s σ H _ I h) fun v s1 ⟨x, H1, I1, r1, q1⟩ => ⟨σ, H1, I1, q1⟩) I.quiet hs
def tRet (te : TE) : TS := fun D σ H => te σ H D.rt
theorem ps_ret (he : PE X e te) : PS X (.Return (some e) pos) (tRet te) := by
  intro pins s σ H D I h
  exact wpAny_Return_some (thn (he pins s σ H _ I h) fun v s1 ⟨x, H1, I1, r1, q1⟩ => ⟨x, σ, H1, I1, r1, q1⟩)
def tRetN : TS := fun D _ H => D.rt .non H
def tIfS (c : TT) (t u : TS) : TS := fun D σ H => c σ H fun b H1 => if b = true then t D σ H1 else u D σ H1
theorem ps_if {c : Expr} {a b : List Stmt} {tc : TT} (hc : PT X c tc) (ha : PSs X a t) (hb : PSs X b u) : PS X (.If c a b pos) (tIfS tc t u) := by
  intro pins s σ H D I h
  refine wpAny_If (thn (hc pins s σ H _ I h) fun d s1 ⟨H1, I1, q1⟩ => ?_)
  cases d with
  | true => exact ha pins s1 σ H1 D I1 q1
  | false => exact hb pins s1 σ H1 D I1 q1
/-- code that the proof never comes to -/
def tNever : TS := fun _ _ _ => False
theorem ps_never : PS X st tNever := fun _ _ _ _ _ _ h => h.elim
end

/-! ### targets -/
abbrev TG := V → St → Hp → (St → Hp → Prop) → Prop
def PG (X : Cx) (target : Expr) (t : TG) : Prop :=
  ∀ (pins : List (Addr × Obj)) (s : Shared) (σ : St) (H : Hp) (v : V) (u : Value) (Q : St → Hp → Prop), Inv X pins σ H s → RelV v u → t v σ H Q →
    wpAny (model X.prog X.w) X.A (assign target X.env u) (fun _ s' => ∃ σ' H', Inv X pins σ' H' s' ∧ Q σ' H') X.xe s
/-- o[i] = v, by values -/
abbrev TSet := V → V → V → Hp → (Hp → Prop) → Prop
def PSet (X : Cx) (t : TSet) : Prop :=
  ∀ (pins : List (Addr × Obj)) (s : Shared) (σ : St) (H : Hp) (o i v : V) (ov iv u : Value) (Q : Hp → Prop), Inv X pins σ H s → RelV o ov → RelV i iv → RelV v u → t o i v H Q →
    wpAny (model X.prog X.w) X.A (setItem ov iv u) (fun _ s' => ∃ H', Inv X pins σ H' s' ∧ Q H') X.xe s
section
variable {X : Cx} {pos : Pos}
def gName (i : Nat) : TG := fun v σ H Q => Q (σ.set i (some v)) H
theorem pg_name {i : Nat} {x : Str} (hN : X.N.Nodup) (hi : X.N[i]? = some x) (hx : Loc X.env.scope x) (hf : X.fn x = true ∨ X.env.scope.names.lookup x = some .local := by first | exact .inl rfl | exact .inr rfl | assumption) : PG X (.Name x pos) (gName i) := by
  intro pins s σ H v u Q I r h
  exact wpAny_assign_Name (store_ok I hN hi hx r (fun s' I' => ⟨_, H, I', h⟩) hf)
/-- o[i] = .. -/
def gSub (to ti : TE) (t : TSet) : TG := fun v σ H Q => to σ H fun o H1 => ti σ H1 fun i H2 => t o i v H2 fun H3 => Q σ H3
theorem pg_sub {o i : Expr} {to ti : TE} {t : TSet} (ho : PE X o to) (hi : PE X i ti) (hs : PSet X t)
    (ha : ∀ v, assign (.Subscript o i pos) X.env v = (do
      let ov ← holding [v] (eval o X.env)
      let iv ← holding [v, ov] (eval i X.env)
      standAt pos
      holding [v, ov, iv] (setItem ov iv v)
      release [v, ov, iv] []) := by intro _; rfl) : PG X (.Subscript o i pos) (gSub to ti t) := by
  intro pins s σ H v u Q I r h
  rw [ha]
  refine wpAny_bind (wpAny_holding (thn (ho pins s σ H _ I h) fun ov s1 ⟨x, H1, I1, r1, q1⟩ => ?_))
  refine wpAny_bind (wpAny_holding (thn (hi pins s1 σ H1 _ I1 q1) fun iv s2 ⟨y, H2, I2, r2, q2⟩ => ?_))
  refine wpAny_bind (wpAny_standAt (wpAny_bind (wpAny_holding (thn (hs pins s2 σ H2 x y v ov iv u _ I2 r1 r2 r q2) fun _ s3 ⟨H3, I3, q3⟩ => ?_))))
  exact wpAny_release ⟨σ, H3, I3, q3⟩
/-- target = value -/
def tAsg (te : TE) (g : TG) : TS := fun D σ H => te σ H fun x H1 => g x σ H1 D.nx
theorem ps_asg {tg e : Expr} {te : TE} {g : TG} (he : PE X e te) (hg : PG X tg g) (hs : swapsWithSole [tg] e pos.line X.env = pure false := by rfl) (hw : swappedStores [tg] e X.env = pure none := by rfl)
    (h1 : (assignEach [tg] X.env).map (·.2) = [assign tg X.env] := by rfl) : PS X (.Assign [tg] e pos) (tAsg te g) := by
  intro pins s σ H D I h
  refine wpAny_Assign_stores (thn (he pins s σ H _ I h) fun v s1 ⟨x, H1, I1, r1, q1⟩ => ?_) hs hw
  rw [h1]
  exact thn (hg pins s1 σ H1 x v _ I1 r1 q1) fun _ s2 q => q
/-- name = value -/
theorem ps_set {i : Nat} {x : Str} {e : Expr} {te : TE} {pos' : Pos} (hN : X.N.Nodup) (hi : X.N[i]? = some x) (hx : Loc X.env.scope x) (he : PE X e te) (hs : swapsWith e (some (.Name x pos')) pos.line X.env = pure false := by rfl) (hf : X.fn x = true ∨ X.env.scope.names.lookup x = some .local := by first | exact .inl rfl | exact .inr rfl | assumption) :
    PS X (.Assign [.Name x pos'] e pos) (tAsg te (gName i)) := by
  intro pins s σ H D I h
  refine wpAny_Assign_Name (thn (he pins s σ H _ I h) fun v s1 ⟨y, H1, I1, r1, q1⟩ => ?_) hs
  exact store_ok I1 hN hi hx r1 (fun s2 I2 => ⟨_, H1, I2, q1⟩) hf
end

/-! ### while -/
section
variable {X : Cx} {pos : Pos}
/-- the invariant W with its measure -/
def tWhile (c : TT) (tb : TS) : TS := fun D σ H => ∃ W : Nat → St → Hp → Prop, (∃ m, W m σ H) ∧ ∀ m σ H, W m σ H →
  c σ H fun b H1 => if b = true then ∃ N : St → Hp → Prop, (∀ σ' H', N σ' H' → ∃ m', m' < m ∧ W m' σ' H') ∧ tb { D with nx := N, ct := N, bk := D.nx } σ H1 else D.nx σ H1
theorem ps_while {c : Expr} {body : List Stmt} {tc : TT} {tb : TS} (hp : PassesOwn (model X.prog X.w) X.A X.env X.xe) (hc : PT X c tc) (hb : PSs X body tb) : PS X (.While c body [] pos) (tWhile tc tb) := by
  intro pins s σ H D I h
  obtain ⟨W, ⟨m0, w0⟩, turn⟩ := h
  refine wpAny_While (codeAny_whileLoop (fun n s' => ∃ σ' H', Inv X pins σ' H' s' ∧ W n σ' H') ?_ m0 ⟨σ, H, I, w0⟩)
  rintro n s1 ⟨σ1, H1, I1, w1⟩
  refine wpAny_passesOwn hp (thn (hc pins s1 σ1 H1 _ I1 (turn n σ1 H1 w1)) fun b s2 ⟨H2, I2, q2⟩ => ?_)
  cases b with
  | true =>
    obtain ⟨N, hN, q2⟩ := q2
    rw [if_pos rfl]
    refine wpAny_passesOwn hp (thn (hb pins s2 σ1 H2 _ I2 q2) fun f s3 q3 => ?_)
    cases f with
    | next =>
      obtain ⟨σ3, H3, I3, n3⟩ := q3
      obtain ⟨m', hm, w3⟩ := hN σ3 H3 n3
      exact ⟨m', hm, σ3, H3, I3, w3⟩
    | cont =>
      obtain ⟨σ3, H3, I3, n3⟩ := q3
      obtain ⟨m', hm, w3⟩ := hN σ3 H3 n3
      exact ⟨m', hm, σ3, H3, I3, w3⟩
    | brk => exact q3
    | ret v => exact q3
  | false =>
    rw [if_neg Bool.false_ne_true]
    exact wpAny_execs_nil ⟨σ1, H2, I2, q2⟩
end

/-! ### what a loop or a comprehension walks -/
/-- at turn i: it yields x (the heap may grow), or it stops -/
structure It where
  go : Nat → Hp → Prop
  yld : Nat → Hp → V → Hp → Prop
  stop : Nat → Hp → Prop
/-- the iterator's own objects may turn: they are not the frame's, not pinned, younger than the entry (or a comprehension's own) -/
def FpOk (X : Cx) (pins : List (Addr × Obj)) (H : Hp) (b : Addr) : Prop :=
  H b = none ∧ b ≠ X.env.locals ∧ b ∉ X.fs ∧ (b ∈ X.ex ∨ X.s_0.heap.objs.size ≤ b) ∧ (∀ x c, X.env.cells.lookup x = some c → c ≠ b) ∧ ∀ p ∈ X.pn ++ pins, p.1 ≠ b
theorem Inv.fpOk {X : Cx} {pins : List (Addr × Obj)} {σ : St} {H H' : Hp} {s : Shared} {b : Addr} (I : Inv X pins σ H s) (hb : s.heap.objs.size ≤ b) (hn : H' b = none) : FpOk X pins H' b := by
  refine ⟨hn, Nat.ne_of_gt (Nat.lt_of_lt_of_le I.lt hb), I.nofs hb, .inr (Nat.le_trans I.sz hb), fun x c e z => ?_, fun p hp z => ?_⟩
  · obtain ⟨v, q⟩ := I.cell x c e
    exact absurd (Nat.lt_of_lt_of_le q.lt (by rw [z]; exact hb)) (Nat.lt_irrefl _)
  · exact absurd (Nat.lt_of_lt_of_le (Heap.lt_size (I.pin p hp).1) (by rw [z]; exact hb)) (Nat.lt_irrefl _)
structure Turn (P : Program) (w : World) (K : PySem.W.Frag) (tg : Expr) (J : It) (fp : List Addr) (it : Addr) (tn : Nat → Heap → Prop) : Prop where
  mem : it ∈ fp
  obj : ∀ i h, tn i h → ∀ b ∈ fp, ∃ o, h.get? b = some o ∧ ∀ v, o.data ≠ .cell v
  keep : ∀ i h h', tn i h → (∀ b ∈ fp, ∀ o, h.get? b = some o → h'.get? b = some o) → tn i h'
  item : ∀ (X : Cx), X.prog = P → X.w = w → X.K = K → X.calm = true → ∀ (i : Nat) (pins : List (Addr × Obj)) (s : Shared) (σ : St) (H : Hp) (E : Value → Shared → Prop), Inv X pins σ H s → (∀ b ∈ fp, FpOk X pins H b) → tn i s.heap → J.go i H →
    wpAny (model P w) X.A (pyNext (.ref it)) (fun r s1 => ∃ u, r = some u ∧
      wpAny (model P w) X.A (letOwnedTupleGo tg (.ref it) u) (fun _ s2 => ∃ x H', Inv X pins σ H' s2 ∧ RelV x u ∧ J.yld i H x H' ∧ tn (i + 1) s2.heap ∧ ∀ b ∈ fp, H' b = none) E s1) E s
  done : ∀ (X : Cx), X.prog = P → X.w = w → X.K = K → X.calm = true → ∀ (i : Nat) (pins : List (Addr × Obj)) (s : Shared) (σ : St) (H : Hp) (E : Value → Shared → Prop), Inv X pins σ H s → (∀ b ∈ fp, FpOk X pins H b) → tn i s.heap → J.stop i H →
    wpAny (model P w) X.A (pyNext (.ref it)) (fun r s1 => r = none ∧ Inv X pins σ H s1) E s
  self : ∀ (A : Around) (i : Nat) (s : Shared) (Q : Value → Shared → Prop) (E : Value → Shared → Prop), tn i s.heap → Q (.ref it) s → wpAny (model P w) A (pyIter (.ref it)) Q E s
abbrev TI := St → Hp → (It → Hp → Prop) → Prop
/-- an iterator has come -/
def PIE (X : Cx) (pins : List (Addr × Obj)) (σ : St) (tg : Expr) (R : It → Hp → Prop) (itv : Value) (s2 : Shared) : Prop :=
  ∃ (it : Addr) (fp : List Addr) (tn : Nat → Heap → Prop) (J : It) (H' : Hp), itv = .ref it ∧ Inv X pins σ H' s2 ∧ Turn X.prog X.w X.K tg J fp it tn ∧ tn 0 s2.heap ∧ (∀ b ∈ fp, FpOk X pins H' b) ∧ R J H'
def PI (X : Cx) (tg iter : Expr) (wi : TI) : Prop :=
  ∀ (pins : List (Addr × Obj)) (s : Shared) (σ : St) (H : Hp) (R : It → Hp → Prop), Inv X pins σ H s → wi σ H R →
    wpAny (model X.prog X.w) X.A (eval iter X.env) (fun v s1 => wpAny (model X.prog X.w) X.A (pyIter v) (PIE X pins σ tg R) X.xe s1) X.xe s

/-- the step ahead of the store is nothing for an iterator that keeps no tuple -/
theorem go_of {M : Model} {A : Around} {E : Value → Shared → Prop} {s : Shared} {tg : Expr} {it : Addr} {u : Value} {o : Obj} {n : String} {vs : Array Value} {Q : Unit → Shared → Prop} (ho : s.heap.get? it = some o) (hc : o.cls = .type n) (hd : o.data = .fields vs)
    (hn : ["enumerate", "zip", "dict_itemiterator", "dict_reverseitemiterator", "odict_iterator", "itertools.zip_longest", "itertools.pairwise"].contains n = false) (hQ : Q () s) : wpAny M A (letOwnedTupleGo tg (.ref it) u) Q E s := by
  unfold letOwnedTupleGo
  cases tg <;> first
    | exact wpAny_pure hQ
    | (cases u <;> first
        | exact wpAny_pure hQ
        | (refine wpAny_bind (wpAny_load ho ?_)
           rw [hc, hd]
           show wpAny M A (if (["enumerate", "zip", "dict_itemiterator", "dict_reverseitemiterator", "odict_iterator", "itertools.zip_longest", "itertools.pairwise"].contains n && vs[0]? == some (rawInt _)) = true then _ else _) Q E s
           rw [if_neg (by intro h; rw [hn, Bool.false_and] at h; cases h)]
           exact wpAny_pure hQ))

/-- the list at a, as it stands at each turn (a loop may append to it) -/
def Itl (K : PySem.W.Frag) (a : Addr) : It :=
  ⟨fun i H => ∃ xs x, SqL K H a xs ∧ xs[i]? = some x, fun i H x H' => H' = H ∧ ∀ xs, SqL K H a xs → xs[i]? = some x, fun i H => ∃ xs, SqL K H a xs ∧ xs.length ≤ i⟩
/-- lo, lo + 1, .. (n of them) -/
def Itr (lo : Int) (n : Nat) : It := ⟨fun i _ => i < n, fun i H x H' => H' = H ∧ x = .int (lo + i), fun i _ => n ≤ i⟩
theorem turn_list {P : Program} {w : World} {K : PySem.W.Frag} {tg : Expr} (a it : Addr) : Turn P w K tg (Itl K a) [it] it (fun i h => h.IsListIter it a i) where
  mem := by simp
  obj := fun i h st b hb => by
    have e : b = it := by simpa using hb
    subst e
    obtain ⟨o, e, c, d⟩ := st
    exact ⟨o, e, fun v z => by rw [d] at z; cases z⟩
  keep := fun i h h' st k => st.at fun o e => k it (by simp) o e
  item := by
    intro X hP hw hK hc i pins s σ H E I hf st hg
    subst hP hw hK
    obtain ⟨xs, x, hq, hx⟩ := hg
    obtain ⟨its, rv, p, hz⟩ := I.list hq
    obtain ⟨u, hu, ru⟩ := rv.get hx
    obtain ⟨f0, f1, f2, f3, f4, f5⟩ := hf it (by simp)
    refine wpAny_pyNext_list_item st p.isList (x := u) (by simpa using hu) fun h' st' sb => ?_
    have I1 : Inv X pins σ H { s with heap := h' } := I.turned (t' := s.toks) (fun b o hb e => (sb.2 b hb).trans e) f0 f1 f3 f4 f5
    obtain ⟨o, e, c, d⟩ := id st'
    exact ⟨u, rfl, go_of (s := { s with heap := h' }) e c d (by decide) ⟨x, H, I1, ru, ⟨rfl, fun ys hy => by rw [I.list_inj hy hq]; exact hx⟩, st', fun b hb => (hf b hb).1⟩⟩
  done := by
    intro X hP hw hK hc i pins s σ H E I hf st hg
    subst hP hw hK
    obtain ⟨xs, hq, hx⟩ := hg
    obtain ⟨its, rv, p, hz⟩ := I.list hq
    obtain ⟨f0, f1, f2, f3, f4, f5⟩ := hf it (by simp)
    have hl := rv.length
    exact wpAny_pyNext_list_end (I.ok.hd hc) st p.isList (by simp; omega) fun h' eb => ⟨rfl, I.turned (t' := s.toks) (fun b o hb e => eb b o hb e) f0 f1 f3 f4 f5⟩
  self := fun _ _ _ _ _ st h => wpAny_pyIter_listiter st h
theorem turn_range {P : Program} {w : World} {K : PySem.W.Frag} {tg : Expr} (it : Addr) (lo : Int) (n : Nat) : Turn P w K tg (Itr lo n) [it] it (fun i h => IsRangeIter h it (lo + (i : Nat) * 1) ((n : Int) - (i : Nat)) 1) where
  mem := by simp
  obj := fun i h st b hb => by
    have e : b = it := by simpa using hb
    subst e
    exact ⟨_, st, fun v z => by
      have z' : Data.fields _ = Data.cell v := z
      cases z'⟩
  keep := fun i h h' st k => k it (by simp) _ st
  item := by
    intro X hP hw hK hc i pins s σ H E I hf st hg
    subst hP hw hK
    obtain ⟨f0, f1, f2, f3, f4, f5⟩ := hf it (by simp)
    have W := Walks.range (prog := X.prog) (w := X.w) (I.ok.hd hc) it lo 1 n
    refine W.item i s _ _ hg st fun v h' tk hv st' kk => ?_
    obtain ⟨t, rfl⟩ := hv
    have I1 : Inv X pins σ H { s with heap := h', toks := tk } := I.turned (fun b o hb e => kk b o (by simpa using hb) e) f0 f1 f3 f4 f5
    refine ⟨_, rfl, go_of (s := { s with heap := h', toks := tk }) (n := "range_iterator") st' rfl rfl (by decide) ⟨.int (lo + i), H, I1, ⟨t, ?_⟩, ⟨rfl, rfl⟩, st', fun b hb => (hf b hb).1⟩⟩
    rw [Int.mul_one]
  done := by
    intro X hP hw hK hc i pins s σ H E I hf st hg
    subst hP hw hK
    obtain ⟨f0, f1, f2, f3, f4, f5⟩ := hf it (by simp)
    exact wpAny_pyNext_range_end (I.ok.hd hc) st (by have : n ≤ i := hg; omega) fun h' eb => ⟨rfl, I.turned (t' := s.toks) (fun b o hb e => eb b o hb e) f0 f1 f3 f4 f5⟩
  self := fun _ _ _ _ _ st h => wpAny_pyIter_rangeiter st h
end L2

namespace L2
open PySem PySem.Spec PyProof.Rows
section
variable {X : Cx} {tg : Expr}
def iList (K : PySem.W.Frag) (tl : TE) : TI := fun σ H R => tl σ H fun x H1 => ∃ a, x = .ref a ∧ (∃ xs, SqL K H1 a xs) ∧ R (Itl K a) H1
theorem pi_list {l : Expr} {tl : TE} (hl : PE X l tl) : PI X tg l (iList X.K tl) := by
  intro pins s σ H R I h
  refine thn (hl pins s σ H _ I h) fun v s1 ⟨x, H1, I1, r1, q1⟩ => ?_
  obtain ⟨a, e, ⟨xs, hq⟩, q⟩ := q1
  subst e
  cases r1
  obtain ⟨its, rv, p, hz⟩ := I1.list hq
  refine wpAny_pyIter_list p.isList ?_
  refine ⟨s1.heap.objs.size, [s1.heap.objs.size], _, _, H1, rfl, I1.kept (t' := s1.toks) fun b o e => Heap.get?_push_of_some _ e, turn_list a _, ⟨_, Heap.get?_push_size _ rfl, rfl, rfl⟩, fun b hb => ?_, q⟩
  have e : b = s1.heap.objs.size := by simpa using hb
  subst e
  exact I1.fpOk (Nat.le_refl _) (I1.hok.fresh (Nat.le_refl _))
/-- a range object just made, walked -/
theorem range_it {pins : List (Addr × Obj)} {σ : St} {H : Hp} {s : Shared} {R : It → Hp → Prop} {E : Value → Shared → Prop} {lo hi : Int} {t u v : Tok} {tk : Nat} (I : Inv X pins σ H s) (h1 : -(2 ^ 62) ≤ lo) (h2 : lo < 2 ^ 62) (h3 : -(2 ^ 62) ≤ hi) (h4 : hi < 2 ^ 62)
    (q : R (Itr lo (hi - lo).toNat) H) : wpAny (model X.prog X.w) X.A (pyIter (.ref s.heap.objs.size)) (PIE X pins σ tg R) E { s with heap := s.heap.push { cls := .type "range", data := .fields #[.int lo t, .int hi u, .int 1 v] }, toks := tk } := by
  refine wpAny_pyIter_range (IsRange.new ..) (small_one h1 h2 h3 h4) ?_
  have I1 : Inv X pins σ H { s with heap := s.heap.push { cls := .type "range", data := .fields #[.int lo t, .int hi u, .int 1 v] }, toks := tk } := I.kept fun b o e => Heap.get?_push_of_some _ e
  refine ⟨(s.heap.push { cls := .type "range", data := .fields #[.int lo t, .int hi u, .int 1 v] }).objs.size, [(s.heap.push { cls := .type "range", data := .fields #[.int lo t, .int hi u, .int 1 v] }).objs.size], _, _, H, rfl,
    I1.kept (t' := tk) fun b o e => Heap.get?_push_of_some _ e, turn_range _ lo (hi - lo).toNat, ?_, fun b hb => ?_, q⟩
  · have e1 : lo + ((0 : Nat) : Int) * 1 = lo := by simp
    have e2 : (((hi - lo).toNat : Nat) : Int) - ((0 : Nat) : Int) = Builtin.Range.rangeSize lo hi 1 := by rw [rangeSize_one]; split <;> omega
    show IsRangeIter _ _ (lo + ((0 : Nat) : Int) * 1) ((((hi - lo).toNat : Nat) : Int) - ((0 : Nat) : Int)) 1
    rw [e1, e2]
    exact Heap.get?_push_size _ rfl
  · have e : b = (s.heap.push { cls := .type "range", data := .fields #[.int lo t, .int hi u, .int 1 v] }).objs.size := by simpa using hb
    subst e
    exact I1.fpOk (Nat.le_refl _) (I1.hok.fresh (Nat.le_refl _))
def iRng1 (ta : TA) : TI := fun σ H R => ta σ H fun vs H1 => ∃ j : Int, vs = [.int j] ∧ -(2 ^ 62) ≤ j ∧ j < 2 ^ 62 ∧ R (Itr 0 j.toNat) H1
theorem pi_range1 {a : Expr} {ta : TA} {p pos : Pos} (hg : Gl X "range") (hm : X.mg "range" = none) (ha : PA X [a] ta) (hs : starEach [a] X.env = [(false, eval a X.env)] := by rfl) : PI X tg (.Call (.Name "range" p) [a] [] pos) (iRng1 ta) := by
  intro pins s σ H R I h
  refine Call_ (ld_blt I hg hm boot_range (PyProof.Rows.callWith_type1 (thn (ha pos pins s σ H _ I h) fun us s1 ⟨vs, H1, I1, r1, q1⟩ => ?_) hs rfl))
  obtain ⟨j, e, q1, q2, q⟩ := q1
  subst e
  cases r1 with
  | cons r rr =>
    cases rr
    obtain ⟨t, rfl⟩ := r
    exact call_range_1 (range_it I1 (by omega) (by omega) q1 q2 (by simpa using q))
/-! ### for -/
/-- W: the invariant by the turn and a measure; N: what the body is to reach -/
def tFor (wi : TI) (g : TG) (tb : TS) : TS := fun D σ H => wi σ H fun J H1 => ∃ W : Nat → Nat → St → Hp → Prop, (∃ m, W 0 m σ H1) ∧ ∀ i m σ H, W i m σ H →
  (J.stop i H ∧ D.nx σ H) ∨ (J.go i H ∧ ∃ N : St → Hp → Prop, (∀ σ' H', N σ' H' → ∃ m', m' < m ∧ W (i + 1) m' σ' H') ∧ ∀ x H', J.yld i H x H' → g x σ H' fun σ2 H2 => tb { D with nx := N, ct := N, bk := D.nx } σ2 H2)
/-- the records at fp as they stand -/
def pinsAt (fp : List Addr) (h : Heap) : List (Addr × Obj) := fp.filterMap fun b => (h.get? b).map fun o => (b, o)
theorem mem_pinsAt {fp : List Addr} {h : Heap} {b : Addr} {o : Obj} (hb : b ∈ fp) (e : h.get? b = some o) : (b, o) ∈ pinsAt fp h := List.mem_filterMap.mpr ⟨b, hb, by rw [e]; rfl⟩
theorem of_pinsAt {fp : List Addr} {h : Heap} {p : Addr × Obj} (hp : p ∈ pinsAt fp h) : p.1 ∈ fp ∧ h.get? p.1 = some p.2 := by
  obtain ⟨b, hb, e⟩ := List.mem_filterMap.mp hp
  cases q : h.get? b with
  | none => rw [q] at e; cases e
  | some o =>
    rw [q] at e
    have e' : (b, o) = p := Option.some.inj e
    subst e'
    exact ⟨hb, q⟩
theorem Inv.pinned {pins : List (Addr × Obj)} {σ : St} {H : Hp} {s : Shared} {fp : List Addr} (I : Inv X pins σ H s) (hf : ∀ b ∈ fp, FpOk X pins H b) (ho : ∀ b ∈ fp, ∃ o, s.heap.get? b = some o ∧ ∀ v, o.data ≠ .cell v) : Inv X (pins ++ pinsAt fp s.heap) σ H s :=
  I.pins_of fun p hp => (List.mem_append.mp hp).elim (fun z => I.pin p (List.mem_append_right _ z)) fun z => by
    obtain ⟨hb, e⟩ := of_pinsAt z
    obtain ⟨f0, f1, f2, _⟩ := hf p.1 hb
    obtain ⟨o, e', d⟩ := ho p.1 hb
    rw [e] at e'; cases e'
    exact ⟨e, f0, f1, f2, d⟩
theorem Inv.unpinned {pins pl : List (Addr × Obj)} {σ : St} {H : Hp} {s : Shared} (I : Inv X (pins ++ pl) σ H s) : Inv X pins σ H s := I.pins_of fun p hp => I.pin p (List.mem_append_right _ (List.mem_append_left _ hp))
theorem ps_for {iter : Expr} {body : List Stmt} {wi : TI} {g : TG} {tb : TS} {pos : Pos} (hp : PassesOwn (model X.prog X.w) X.A X.env X.xe) (hc : X.calm = true) (hi : PI X tg iter wi) (hg : PG X tg g) (hb : PSs X body tb)
    (hs : ∀ x, foldedSetIterable iter X.env x = pure x := by intro _; rfl) : PS X (.For tg iter body [] pos) (tFor wi g tb) := by
  intro pins s σ H D I h
  refine wpAny_For (thn (hi pins s σ H _ I h) fun v s1 h1 => thn h1 fun itv s2 h2 => ?_) hs
  obtain ⟨it, fp, tn, J, H2, e, I2, T, st2, f2, W, ⟨m0, w0⟩, turn⟩ := h2
  subst e
  -- what stays true of the iterator's objects through the loop
  have stat : ∀ {H' : Hp}, (∀ b ∈ fp, H' b = none) → ∀ b ∈ fp, FpOk X pins H' b := fun hn b hb => ⟨hn b hb, (f2 b hb).2⟩
  refine codeAny_forLoop_any (fun n s' => ∃ i σ' H', Inv X pins σ' H' s' ∧ tn i s'.heap ∧ (∀ b ∈ fp, H' b = none) ∧ W i n σ' H') ?_ m0 ⟨0, σ, H2, I2, st2, fun b hb => (f2 b hb).1, w0⟩
  rintro n s3 ⟨i, σ3, H3, I3, st3, fr3, w3⟩
  rcases turn i n σ3 H3 w3 with ⟨stop, qn⟩ | ⟨go, N, hN, step⟩
  · refine wpAny_passesOwn hp (thn (T.done X rfl rfl rfl hc i pins s3 σ3 H3 X.xe I3 (stat fr3) st3 stop) fun r s4 ⟨hr, I4⟩ => ?_)
    subst hr
    exact wpAny_execs_nil ⟨σ3, H3, I4, qn⟩
  · refine wpAny_passesOwn hp (thn (T.item X rfl rfl rfl hc i pins s3 σ3 H3 X.xe I3 (stat fr3) st3 go) fun r s4 ⟨u, hr, h4⟩ => ?_)
    subst hr
    refine wpAny_passesOwn hp (thn h4 fun _ s5 ⟨x, H5, I5, r5, y5, st5, fr5⟩ => ?_)
    have I5' := I5.pinned (stat fr5) (T.obj _ _ st5)
    refine wpAny_passesOwn hp (thn (hg _ s5 σ3 H5 x u _ I5' r5 (step x H5 y5)) fun _ s6 ⟨σ6, H6, I6, q6⟩ => ?_)
    refine wpAny_passesOwn hp (thn (hb _ s6 σ6 H6 _ I6 q6) fun f s7 q7 => ?_)
    have again : ∀ {σ7 : St} {H7 : Hp}, Inv X (pins ++ pinsAt fp s5.heap) σ7 H7 s7 → N σ7 H7 → ∃ m, m < n ∧ ∃ i σ' H', Inv X pins σ' H' s7 ∧ tn i s7.heap ∧ (∀ b ∈ fp, H' b = none) ∧ W i m σ' H' := fun {σ7 H7} I7 n7 => by
      obtain ⟨m', hm, w7⟩ := hN σ7 H7 n7
      refine ⟨m', hm, i + 1, σ7, H7, I7.unpinned, T.keep _ _ _ st5 fun b hb o e => (I7.pin (b, o) (List.mem_append_right _ (List.mem_append_right _ (mem_pinsAt hb e)))).1, fun b hb => ?_, w7⟩
      obtain ⟨o, e, d⟩ := T.obj _ _ st5 b hb
      exact (I7.pin (b, o) (List.mem_append_right _ (List.mem_append_right _ (mem_pinsAt hb e)))).2.1
    cases f with
    | next => obtain ⟨σ7, H7, I7, n7⟩ := q7; exact again I7 n7
    | cont => obtain ⟨σ7, H7, I7, n7⟩ := q7; exact again I7 n7
    | brk => obtain ⟨σ7, H7, I7, q7⟩ := q7; exact ⟨σ7, H7, I7.unpinned, q7⟩
    | ret v => obtain ⟨x7, σ7, H7, I7, r7, q7⟩ := q7; exact ⟨x7, σ7, H7, I7.unpinned, r7, q7⟩
end

/-! ### the forms one uses -/
/-- over a list that the body leaves as it is -/
theorem for_list {K : PySem.W.Frag} {a : Addr} {xs : List V} {g : TG} {tb : TS} {D : Ends} {σ : St} {H : Hp} (Pv : Nat → St → Hp → Prop) (h0 : Pv 0 σ H) (hl : ∀ i σ H, i ≤ xs.length → Pv i σ H → SqL K H a xs)
    (hs : ∀ i x σ H, xs[i]? = some x → Pv i σ H → g x σ H fun σ2 H2 => tb { D with nx := Pv (i + 1), ct := Pv (i + 1), bk := D.nx } σ2 H2) (hd : ∀ σ H, Pv xs.length σ H → D.nx σ H) :
    ∃ W : Nat → Nat → St → Hp → Prop, (∃ m, W 0 m σ H) ∧ ∀ i m σ H, W i m σ H →
      ((Itl K a).stop i H ∧ D.nx σ H) ∨ ((Itl K a).go i H ∧ ∃ N : St → Hp → Prop, (∀ σ' H', N σ' H' → ∃ m', m' < m ∧ W (i + 1) m' σ' H') ∧ ∀ x H', (Itl K a).yld i H x H' → g x σ H' fun σ2 H2 => tb { D with nx := N, ct := N, bk := D.nx } σ2 H2) := by
  refine ⟨fun i m σ H => m = xs.length - i ∧ i ≤ xs.length ∧ Pv i σ H, ⟨xs.length, by simp, Nat.zero_le _, h0⟩, ?_⟩
  rintro i m σ H ⟨rfl, hi, p⟩
  have q := hl i σ H hi p
  by_cases hlt : i < xs.length
  · refine .inr ⟨⟨xs, xs[i], q, by simp [hlt]⟩, Pv (i + 1), fun σ' H' p' => ⟨xs.length - (i + 1), by omega, rfl, hlt, p'⟩, fun x H' y => ?_⟩
    obtain ⟨e, y⟩ := y
    subst e
    exact hs i x σ _ (y xs q) p
  · have e : i = xs.length := by omega
    subst e
    exact .inl ⟨⟨xs, q, Nat.le_refl _⟩, hd σ H p⟩
theorem for_range {lo : Int} {n : Nat} {g : TG} {tb : TS} {D : Ends} {σ : St} {H : Hp} (Pv : Nat → St → Hp → Prop) (h0 : Pv 0 σ H)
    (hs : ∀ i σ H, i < n → Pv i σ H → g (.int (lo + i)) σ H fun σ2 H2 => tb { D with nx := Pv (i + 1), ct := Pv (i + 1), bk := D.nx } σ2 H2) (hd : ∀ σ H, Pv n σ H → D.nx σ H) :
    ∃ W : Nat → Nat → St → Hp → Prop, (∃ m, W 0 m σ H) ∧ ∀ i m σ H, W i m σ H →
      ((Itr lo n).stop i H ∧ D.nx σ H) ∨ ((Itr lo n).go i H ∧ ∃ N : St → Hp → Prop, (∀ σ' H', N σ' H' → ∃ m', m' < m ∧ W (i + 1) m' σ' H') ∧ ∀ x H', (Itr lo n).yld i H x H' → g x σ H' fun σ2 H2 => tb { D with nx := N, ct := N, bk := D.nx } σ2 H2) := by
  refine ⟨fun i m σ H => m = n - i ∧ i ≤ n ∧ Pv i σ H, ⟨n, by simp, Nat.zero_le _, h0⟩, ?_⟩
  rintro i m σ H ⟨rfl, hi, p⟩
  by_cases hlt : i < n
  · refine .inr ⟨hlt, Pv (i + 1), fun σ' H' p' => ⟨n - (i + 1), by omega, rfl, hlt, p'⟩, fun x H' y => ?_⟩
    obtain ⟨e, y⟩ := y
    subst e y
    exact hs i σ _ hlt p
  · have e : i = n := by omega
    subst e
    exact .inl ⟨Nat.le_refl _, hd σ H p⟩
end L2

namespace L2
open PySem PySem.Spec PyProof.Rows

abbrev R2 := V → V → Hp → VK → Prop
/-- a two-place operation on values: f is binaryOp op, inplaceOp op or compareOp op -/
def OpR (X : Cx) (f : Value → Value → Sem Value) (r : R2) : Prop :=
  ∀ (pins : List (Addr × Obj)) (s : Shared) (σ : St) (H : Hp) (x y : V) (v u : Value) (Q : VK), Inv X pins σ H s → RelV x v → RelV y u → r x y H Q →
    wpAny (model X.prog X.w) X.A (f v u) (EP X pins σ Q) X.xe s
/-- a one-place operation -/
def UnR (X : Cx) (f : Value → Sem Value) (r : V → Hp → VK → Prop) : Prop :=
  ∀ (pins : List (Addr × Obj)) (s : Shared) (σ : St) (H : Hp) (x : V) (v : Value) (Q : VK), Inv X pins σ H s → RelV x v → r x H Q →
    wpAny (model X.prog X.w) X.A (f v) (EP X pins σ Q) X.xe s
/-- a call of a value that is known (a builtin, a type) with values -/
def CallR (X : Cx) (f : Value) (r : List V → Hp → VK → Prop) : Prop :=
  ∀ (pins : List (Addr × Obj)) (s : Shared) (σ : St) (H : Hp) (xs : List V) (us : List Value) (Q : VK), Inv X pins σ H s → Vals xs us → r xs H Q →
    wpAny (model X.prog X.w) X.A (call f us) (EP X pins σ Q) X.xe s
def tOp (r : R2) (ta tb : TE) : TE := fun σ H Q => ta σ H fun x H1 => tb σ H1 fun y H2 => r x y H2 Q
def tUn (r : V → Hp → VK → Prop) (ta : TE) : TE := fun σ H Q => ta σ H fun x H1 => r x H1 Q
/-- ints in, under C, and a value out -/
def rI (C : Int → Int → Prop) (g : Int → Int → V) : R2 := fun x y H Q => ∃ i j, x = .int i ∧ y = .int j ∧ C i j ∧ Q (g i j) H
def rI0 (g : Int → Int → V) : R2 := fun x y H Q => ∃ i j, x = .int i ∧ y = .int j ∧ Q (g i j) H
def rU (g : Int → V) : V → Hp → VK → Prop := fun x H Q => ∃ i, x = .int i ∧ Q (g i) H

section
variable {X : Cx} {a b c : Expr} {ta tb tc : TE} {pos : Pos}

theorem binT (ha : PE X a ta) (hb : PE X b tb) {pins : List (Addr × Obj)} {s : Shared} {σ : St} {H : Hp} {R : V → V → Hp → Prop} (I : Inv X pins σ H s)
    (h : ta σ H fun x H1 => tb σ H1 fun y H2 => R x y H2) {Q : Value → Shared → Prop} {f : Value → Value → Sem Value}
    (hf : ∀ v u s2 x y H2, Inv X pins σ H2 s2 → RelV x v → RelV y u → R x y H2 → wpAny (model X.prog X.w) X.A (f v u) Q X.xe s2) :
    wpAny (model X.prog X.w) X.A (eval a X.env) (fun v s₁ => wpAny (model X.prog X.w) X.A (eval b X.env) (fun u s₂ => wpAny (model X.prog X.w) X.A (f v u) Q X.xe s₂) X.xe s₁) X.xe s := by
  refine thn (ha pins s σ H _ I h) fun v s1 ⟨x, H1, I1, r1, q1⟩ => ?_
  refine thn (hb pins s1 σ H1 _ I1 q1) fun u s2 ⟨y, H2, I2, r2, q2⟩ => ?_
  exact hf v u s2 x y H2 I2 r1 r2 q2

theorem pe_op {op : Operator} {r : R2} (ho : OpR X (binaryOp op) r) (ha : PE X a ta) (hb : PE X b tb) : PE X (.BinOp a op b pos) (tOp r ta tb) := by
  intro pins s σ H Q I h
  exact wpAny_BinOp (binT ha hb I h fun v u s2 x y H2 I2 rx ry q => ho pins s2 σ H2 x y v u Q I2 rx ry q)
theorem pe_un {op : UnaryOp} {r : V → Hp → VK → Prop} (ho : UnR X (unaryOp op) r) (ha : PE X a ta) : PE X (.UnaryOp op a pos) (tUn r ta) := by
  intro pins s σ H Q I h
  exact UnaryOp_ (thn (ha pins s σ H _ I h) fun v s1 ⟨x, H1, I1, r1, q1⟩ => ho pins s1 σ H1 x v Q I1 r1 q1)
/-! ### ints -/
theorem opI0 {f : Value → Value → Sem Value} {g : Int → Int → Int}
    (rule : ∀ (i j : Int) (t u : Tok) (s : Shared) (Q : Value → Shared → Prop) (E : Value → Shared → Prop), Q (.int (g i j) s.toks) { s with toks := s.toks + 1 } → wpAny (model X.prog X.w) X.A (f (.int i t) (.int j u)) Q E s) :
    OpR X f (rI0 fun i j => .int (g i j)) := by
  intro pins s σ H x y v u Q I rx ry h
  obtain ⟨i, j, rfl, rfl, q⟩ := h
  obtain ⟨t, rfl⟩ := rx
  obtain ⟨t', rfl⟩ := ry
  exact rule i j t t' s _ _ ⟨.int (g i j), H, I.tok _, ⟨_, rfl⟩, q⟩
theorem opB0 {f : Value → Value → Sem Value} {g : Int → Int → Bool}
    (rule : ∀ (i j : Int) (t u : Tok) (s : Shared) (Q : Value → Shared → Prop) (E : Value → Shared → Prop), Q (.bool (g i j)) s → wpAny (model X.prog X.w) X.A (f (.int i t) (.int j u)) Q E s) :
    OpR X f (rI0 fun i j => .bl (g i j)) := by
  intro pins s σ H x y v u Q I rx ry h
  obtain ⟨i, j, rfl, rfl, q⟩ := h
  obtain ⟨t, rfl⟩ := rx
  obtain ⟨t', rfl⟩ := ry
  exact rule i j t t' s _ _ ⟨.bl (g i j), H, I, rfl, q⟩

def CMul (i j : Int) : Prop := (-(2 ^ 64) < i ∧ i < 2 ^ 64) ∨ (-(2 ^ 64) < j ∧ j < 2 ^ 64)
theorem CMul.ok {i j : Int} (h : CMul i j) : IntMulOk i j := by
  rcases h with ⟨h1, h2⟩ | ⟨h1, h2⟩
  · exact .of_left (intBits_le_64 h1 h2)
  · exact .of_right (intBits_le_64 h1 h2)
theorem op_add : OpR X (binaryOp .Add) (rI0 fun i j => .int (i + j)) := opI0 fun _ _ _ _ _ _ _ q => add_int q
theorem op_sub : OpR X (binaryOp .Sub) (rI0 fun i j => .int (i - j)) := opI0 fun _ _ _ _ _ _ _ q => sub_int q
theorem op_and : OpR X (binaryOp .BitAnd) (rI0 fun i j => .int (Builtin.bitAnd i j)) := opI0 fun _ _ _ _ _ _ _ q => and_int q
theorem op_or : OpR X (binaryOp .BitOr) (rI0 fun i j => .int (Builtin.bitOr i j)) := opI0 fun _ _ _ _ _ _ _ q => or_int q
theorem unI {f : Value → Sem Value} {g : Int → Int}
    (rule : ∀ (i : Int) (t : Tok) (s : Shared) (Q : Value → Shared → Prop) (E : Value → Shared → Prop), Q (.int (g i) s.toks) { s with toks := s.toks + 1 } → wpAny (model X.prog X.w) X.A (f (.int i t)) Q E s) :
    UnR X f (rU fun i => .int (g i)) := by
  intro pins s σ H x v Q I rx h
  obtain ⟨i, rfl, q⟩ := h
  obtain ⟨t, rfl⟩ := rx
  exact rule i t s _ _ ⟨.int (g i), H, I.tok _, ⟨_, rfl⟩, q⟩
theorem un_neg : UnR X (unaryOp .USub) (rU fun i => .int (-i)) := unI fun _ _ _ _ _ q => neg_int q
/-! ### bools among ints: n += (a < b) -/
end

/-! ### comparisons -/
/-- the scalars that == tells apart as data does -/
def scal : V → V → Bool
  | .non, .non => true | .non, .int _ => true | .int _, .non => true | .non, .bl _ => true | .bl _, .non => true | .non, .str _ => true | .str _, .non => true
  | .int _, .int _ => true | .bl _, .bl _ => true | .str _, .str _ => true | .byt _, .byt _ => true
  | .int _, .str _ => true | .str _, .int _ => true | .bl _, .str _ => true | .str _, .bl _ => true
  | _, _ => false
def rEq : R2 := fun x y H Q => scal x y = true ∧ Q (.bl (decide (x = y))) H
def rNe : R2 := fun x y H Q => scal x y = true ∧ Q (.bl (!decide (x = y))) H

theorem dec_int {i j : Int} : decide (V.int i = V.int j) = (i == j) := by
  rw [Bool.eq_iff_iff]
  simp
theorem dec_bl {i j : Bool} : decide (V.bl i = V.bl j) = (i == j) := by
  rw [Bool.eq_iff_iff]
  simp
theorem dec_str {i j : Str} : decide (V.str i = V.str j) = (i == j) := by
  rw [Bool.eq_iff_iff]
  simp
theorem dec_byt {i j : Array UInt8} : decide (V.byt i = V.byt j) = (i.toList == j.toList) := by
  rw [Bool.eq_iff_iff]
  cases i
  cases j
  simp

section
variable {X : Cx} {a b c : Expr} {ta tb tc : TE} {pos : Pos}
theorem fin_bl {pins : List (Addr × Obj)} {σ : St} {H : Hp} {s : Shared} {Q : VK} {k k' : Bool} (I : Inv X pins σ H s) (q : Q (.bl k) H) (e : k = k') : EP X pins σ Q (.bool k') s := by
  subst e
  exact ⟨.bl k, H, I, rfl, q⟩
theorem op_eq : OpR X (compareOp .Eq) rEq := by
  intro pins s σ H x y v u Q I rx ry h
  obtain ⟨hs, q⟩ := h
  cases x with
  | non =>
    cases rx
    cases y with
    | non => cases ry; exact PySem.EqNone.eq_none_none (fin_bl I q (by simp))
    | bl j => cases ry; exact PySem.EqNone.eq_none_bool (fin_bl I q (by simp))
    | int j => obtain ⟨t', rfl⟩ := ry; exact PySem.EqNone.eq_none_int (fin_bl I q (by simp))
    | str j => obtain ⟨t', rfl⟩ := ry; exact PySem.EqNone.eq_none_str (fin_bl I q (by simp))
    | _ => exact absurd (show false = true from hs) Bool.false_ne_true
  | bl i =>
    cases rx
    cases y with
    | non => cases ry; exact PySem.EqNone.eq_bool_none (fin_bl I q (by simp))
    | bl j => cases ry; exact eq_bool (fin_bl I q dec_bl)
    | str j => obtain ⟨t', rfl⟩ := ry; exact PySem.EqMixed.eq_bool_str (fin_bl I q (by simp))
    | _ => exact absurd (show false = true from hs) Bool.false_ne_true
  | int i =>
    obtain ⟨t, rfl⟩ := rx
    cases y with
    | non => cases ry; exact PySem.EqNone.eq_int_none (fin_bl I q (by simp))
    | int j => obtain ⟨t', rfl⟩ := ry; exact eq_int (fin_bl I q dec_int)
    | str j => obtain ⟨t', rfl⟩ := ry; exact PySem.EqMixed.eq_int_str (fin_bl I q (by simp))
    | _ => exact absurd (show false = true from hs) Bool.false_ne_true
  | str i =>
    obtain ⟨t, rfl⟩ := rx
    cases y with
    | non => cases ry; exact PySem.EqNone.eq_str_none (fin_bl I q (by simp))
    | bl j => cases ry; exact PySem.EqMixed.eq_str_bool (fin_bl I q (by simp))
    | int j => obtain ⟨t', rfl⟩ := ry; exact PySem.EqMixed.eq_str_int (fin_bl I q (by simp))
    | str j => obtain ⟨t', rfl⟩ := ry; exact eq_str (fin_bl I q dec_str)
    | _ => exact absurd (show false = true from hs) Bool.false_ne_true
  | byt i =>
    obtain ⟨t, rfl⟩ := rx
    cases y with
    | byt j => obtain ⟨t', rfl⟩ := ry; exact PySem.W.eq_bytes (fin_bl I q dec_byt)
    | _ => exact absurd (show false = true from hs) Bool.false_ne_true
  | _ => cases y <;> exact absurd (show false = true from hs) Bool.false_ne_true
theorem op_ne : OpR X (compareOp .NotEq) rNe := by
  intro pins s σ H x y v u Q I rx ry h
  obtain ⟨hs, q⟩ := h
  cases x with
  | non =>
    cases rx
    cases y with
    | non => cases ry; exact PySem.EqNone.ne_none_none (fin_bl I q (by simp))
    | bl j => cases ry; exact PySem.EqNone.ne_none_bool (fin_bl I q (by simp))
    | int j => obtain ⟨t', rfl⟩ := ry; exact PySem.EqNone.ne_none_int (fin_bl I q (by simp))
    | str j => obtain ⟨t', rfl⟩ := ry; exact PySem.EqNone.ne_none_str (fin_bl I q (by simp))
    | _ => exact absurd (show false = true from hs) Bool.false_ne_true
  | bl i =>
    cases rx
    cases y with
    | non => cases ry; exact PySem.EqNone.ne_bool_none (fin_bl I q (by simp))
    | bl j => cases ry; exact ne_bool (fin_bl I q (congrArg not dec_bl))
    | str j => obtain ⟨t', rfl⟩ := ry; exact PySem.EqMixed.ne_bool_str (fin_bl I q (by simp))
    | _ => exact absurd (show false = true from hs) Bool.false_ne_true
  | int i =>
    obtain ⟨t, rfl⟩ := rx
    cases y with
    | non => cases ry; exact PySem.EqNone.ne_int_none (fin_bl I q (by simp))
    | int j => obtain ⟨t', rfl⟩ := ry; exact ne_int (fin_bl I q (congrArg not dec_int))
    | str j => obtain ⟨t', rfl⟩ := ry; exact PySem.EqMixed.ne_int_str (fin_bl I q (by simp))
    | _ => exact absurd (show false = true from hs) Bool.false_ne_true
  | str i =>
    obtain ⟨t, rfl⟩ := rx
    cases y with
    | non => cases ry; exact PySem.EqNone.ne_str_none (fin_bl I q (by simp))
    | bl j => cases ry; exact PySem.EqMixed.ne_str_bool (fin_bl I q (by simp))
    | int j => obtain ⟨t', rfl⟩ := ry; exact PySem.EqMixed.ne_str_int (fin_bl I q (by simp))
    | str j => obtain ⟨t', rfl⟩ := ry; exact ne_str (fin_bl I q (congrArg not dec_str))
    | _ => exact absurd (show false = true from hs) Bool.false_ne_true
  | byt i =>
    obtain ⟨t, rfl⟩ := rx
    cases y with
    | byt j => obtain ⟨t', rfl⟩ := ry; exact PySem.W.ne_bytes (fin_bl I q (congrArg not dec_byt))
    | _ => exact absurd (show false = true from hs) Bool.false_ne_true
  | _ => cases y <;> exact absurd (show false = true from hs) Bool.false_ne_true

theorem op_lt : OpR X (compareOp .Lt) (rI0 fun i j => .bl (decide (i < j))) := opB0 fun _ _ _ _ _ _ _ q => lt_int q
theorem op_le : OpR X (compareOp .LtE) (rI0 fun i j => .bl (decide (i ≤ j))) := opB0 fun _ _ _ _ _ _ _ q => le_int q
theorem op_gt : OpR X (compareOp .Gt) (rI0 fun i j => .bl (decide (j < i))) := opB0 fun _ _ _ _ _ _ _ q => gt_int q
theorem op_ge : OpR X (compareOp .GtE) (rI0 fun i j => .bl (decide (j ≤ i))) := opB0 fun _ _ _ _ _ _ _ q => ge_int q
/-- two rules for one operation: by cases -/
theorem OpR.or {f : Value → Value → Sem Value} {r r' : R2} (h : OpR X f r) (h' : OpR X f r') : OpR X f (fun x y H Q => r x y H Q ∨ r' x y H Q) := by
  intro pins s σ H x y v u Q I rx ry q
  rcases q with q | q
  · exact h pins s σ H x y v u Q I rx ry q
  · exact h' pins s σ H x y v u Q I rx ry q

theorem nomark (b : Expr) {op : CmpOp} (h : op ≠ .In := by decide) (h2 : op ≠ .NotIn := by decide) : behindInMarks op b = false := by
  have e1 : (op == CmpOp.In) = false := by cases op <;> first | rfl | exact absurd rfl h
  have e2 : (op == CmpOp.NotIn) = false := by cases op <;> first | rfl | exact absurd rfl h2
  cases b <;> simp [behindInMarks, e1, e2]
/-- a comparison as a value; hm: nomark b, or (for in, not in) by with_unfolding_all rfl -/
theorem pe_cmpR {op : CmpOp} {r : R2} (ho : OpR X (compareOp op) r) (ha : PE X a ta) (hb : PE X b tb) (hm : behindInMarks op b = false) : PE X (.Compare a [op] [b] pos) (tOp r ta tb) := by
  intro pins s σ H Q I h
  exact wpAny_Compare1 (binT ha hb I h fun v u s2 x y H2 I2 rx ry q => ho pins s2 σ H2 x y v u Q I2 rx ry q) hm
/-- a reading of a value as a test -/
def tTest (t : TE) : TT := fun σ H Q => t σ H fun x H' => ∃ k, x = .bl k ∧ Q k H'
theorem pt_cmpR {op : CmpOp} {r : R2} (ho : OpR X (compareOp op) r) (ha : PE X a ta) (hb : PE X b tb) (hm : behindInMarks op b = false) : PT X (.Compare a [op] [b] pos) (tTest (tOp r ta tb)) := by
  intro pins s σ H Q I h
  refine wpAny_isTrue_Compare1 (thn (ha pins s σ H _ I h) fun v s1 ⟨x, H1, I1, r1, q1⟩ => thn (hb pins s1 σ H1 _ I1 q1) fun u s2 ⟨y, H2, I2, r2, q2⟩ =>
    thn (ho pins s2 σ H2 x y v u _ I2 r1 r2 q2) fun c s3 ⟨z, H3, I3, r3, k, e, q3⟩ => ?_) hm
  subst e
  cases r3
  exact wpAny_truthy_bool ⟨H3, I3, q3⟩
/-! ### truth -/
theorem line63 : (sizeLine : Nat) < 2 ^ 63 := by rw [sizeLine_eq]; decide
/-! ### strs and bytes -/
/-! ### scalar builtins, by CallR -/
theorem vals1 {x : V} {us : List Value} (r : Vals [x] us) : ∃ u, us = [u] ∧ RelV x u := by
  cases r with
  | cons r1 r2 => cases r2; exact ⟨_, rfl, r1⟩
theorem vals2 {x y : V} {us : List Value} (r : Vals [x, y] us) : ∃ u w', us = [u, w'] ∧ RelV x u ∧ RelV y w' := by
  cases r with
  | cons r1 r2 =>
    cases r2 with
    | cons r3 r4 => cases r4; exact ⟨_, _, rfl, r1, r3⟩
theorem call_max2 (hc : X.calm = true) : CallR X (.builtin "max") (fun xs H Q => ∃ i j, xs = [.int i, .int j] ∧ Q (.int (if j > i then j else i)) H) := by
  intro pins s σ H xs us Q I r h
  obtain ⟨i, j, rfl, q⟩ := h
  obtain ⟨u, w', rfl, ⟨t, rfl⟩, ⟨t', rfl⟩⟩ := vals2 r
  refine max_two_ints (I.ok.hd hc) fun h' tk k => ⟨_, H, I.kept k, ?_, q⟩
  by_cases hj : j > i
  · rw [if_pos hj, if_pos hj]; exact ⟨_, rfl⟩
  · rw [if_neg hj, if_neg hj]; exact ⟨_, rfl⟩
end
end L2

namespace L2
open PySem PySem.Spec PyProof.Rows

/-! ### an instance, its attributes a map -/
structure ObjM (h : Heap) (x dx C : Addr) (mA : Str → Option Value) : Prop where
  obj : h.get? x = some (PySem.W.instObj C dx)
  ns : h.Ns1 dx mA
  ne : dx ≠ x

theorem lookIn_ns {h : Heap} {dx : Addr} {mA : Str → Option Value} (n : h.Ns1 dx mA) : ∃ od, h.get? dx = some od ∧ ∀ name, PySem.W.lookIn name od = some (mA name) := by
  obtain ⟨o, es, ep, ho, hd, hk, _, hm⟩ := n
  refine ⟨o, ho, fun name => ?_⟩
  have e := hm name
  unfold nsFind findBy at e
  rw [← Array.find?_toList] at e
  unfold PySem.W.lookIn
  rw [hd]
  dsimp only
  split
  · rename_i y q
    rw [q] at e
    exact congrArg some e
  · rename_i q
    rw [q] at e
    have a : es.toList.any (·.refKey) = false := by
      rw [List.any_eq_false]
      intro y hy
      obtain ⟨z, t, hkey⟩ := hk y (Array.mem_toList_iff.mp hy)
      simp [DictEntry.refKey, hkey]
    have a' : ¬ es.toList.any (·.refKey) = true := by rw [a]; exact Bool.false_ne_true
    rw [if_neg a']
    exact congrArg some e

theorem ObjM.look {h : Heap} {x dx C : Addr} {mA : Str → Option Value} (I : ObjM h x dx C mA) : ∃ od, PySem.W.InstAt h x (PySem.W.instObj C dx) C (some od) ∧ ∀ name, PySem.W.lookIn name od = some (mA name) :=
  let ⟨od, ho, hl⟩ := lookIn_ns I.ns
  ⟨od, ⟨I.obj, rfl, rfl, ho⟩, hl⟩

section
variable {prog : Program} {w : World} {A : Around} {E : Value → Shared → Prop} {s : Shared} {K : PySem.W.Frag} {x dx C f : Addr} {mA : Str → Option Value} {name : Str} {v : Value}

theorem get_map {expr : Bool} {Q : Value → Shared → Prop} (X : K.In s.heap) (I : ObjM s.heap x dx C mA) (hg : PySem.W.plainGet K C name = true) (hh : PySem.W.hasDictIn K C = true)
    (ha : PySem.W.findIn K (.ref C) name = some none) (hv : mA name = some v) (hv' : PySem.W.handedIn v = true) (h : Q v { s with toks := s.toks + 1 }) :
    wpAny (model prog w) A (getAttr (.ref x) name expr) Q E s := by
  obtain ⟨od, J, hl⟩ := I.look
  exact PySem.W.get_value X J (PySem.W.plainGet_of hg).1 (PySem.W.findObj_own hh ha rfl (by rw [hl, hv])) hv' h

theorem get_meth {pl : Sem Bool} {Q : Value × List Value → Shared → Prop} (X : K.In s.heap) (I : ObjM s.heap x dx C mA) (hg : PySem.W.plainGet K C name = true)
    (hf : PySem.W.findIn K (.ref C) name = some (some (.ref f))) (ht : PySem.W.isFn K (.ref f) = true) (hv : mA name = none) (h : Q (.ref f, [.ref x]) s) :
    wpAny (model prog w) A (getMethod (.ref x) name pl) Q E s := by
  obtain ⟨od, J, hl⟩ := I.look
  exact PySem.W.method_fn X J (PySem.W.plainGet_of hg).1 (PySem.W.plainGet_of hg).2 hf (beq_iff_eq.mp ht) (by show (PySem.W.lookIn name od).map (·.isSome) = some false; rw [hl, hv]; rfl) h

theorem set_map {ns : List Str} {Q : Unit → Shared → Prop} (X : K.In s.heap) (I : ObjM s.heap x dx C mA)
    (hs : PySem.W.findIn K (.ref C) "__setattr__" = some (some (.builtin "object.__setattr__"))) (hp : PySem.W.plainOver K C = true) (ht : PySem.W.takerIn K C name = some none) (hh : PySem.W.hasDictIn K C = true)
    (hw : PySem.Within mA ns) (hsz : ns.length ≤ sizeLine)
    (h : ∀ h', ObjM h' x dx C (fun y => if y = name then some v else mA y) → Heap.SameBut dx s.heap h' → Q () { s with heap := h', toks := s.toks + 2 }) :
    wpAny (model prog w) A (setAttr (.ref x) name v) Q E s := by
  obtain ⟨od, J, hl⟩ := I.look
  refine PySem.W.set_plain X J hs (PySem.W.osa_open (s := { s with toks := s.toks + 1 }) (r := none) X J hp ht fun b => ?_)
  obtain ⟨cd, hc, hd'⟩ := PySem.W.any_some hh
  have hx : s.heap.get? x = some ⟨.ref C, some dx, .plain, #[]⟩ := I.obj
  refine wpAny_bind (wpAny_pure (wpAny_bind (wpAny_bind (wpAny_loadPart hx (wpAny_bind (PySem.W.Looks.here (s := { s with toks := s.toks + 1 }) (PySem.W.looks_clsIn X hc) ?_))))))
  rw [hd']
  refine wpAny_pure (a := some dx) (wpAny_bind (wpAny_pure (wpAny_bind ?_)))
  refine wpAny_nsSet1 (s := { s with toks := s.toks + 1 }) I.ns fun h' hn2 hs2 => ?_
  obtain ⟨oD, esD, epD, hoD, hdD, hcD⟩ := hn2.count (PySem.Within.cons name v hw)
  refine wpAny_bind (wpAny_lookBehind hoD (by rw [hdD]; exact pastItsLine_dict (Nat.le_trans hcD (by rw [List.length_cons]; omega))) ?_)
  exact wpAny_pure (h _ ⟨(hs2.2 _ (Ne.symm I.ne)).trans I.obj, hn2, I.ne⟩ hs2)

/-- C(..): the dict at the heap's end, the instance behind it; then its __init__ -/
theorem make_map {R : Result → Shared → Prop} {vs : List Value} {kw : List (Str × Value)} (X : K.In s.heap) (hm : PySem.W.makesIn K C = true)
    (hi : PySem.W.findIn K (.ref C) "__init__" = some (some (.ref f))) (hf : PySem.W.typeIn K (.ref f) = some (.type "function"))
    (h : codeAny (model prog w) (A.under (.builtin "type.__call__" ⟨.ref C :: vs, kw⟩)) (.call (.ref f) ⟨.ref (s.heap.objs.size + 1) :: vs, kw⟩) (PySem.W.InitBack (s.heap.objs.size + 1) R)
      { s with heap := (s.heap.push PySem.W.emptyDict).push (PySem.W.instObj C s.heap.objs.size) }) :
    codeAny (model prog w) A (.call (.ref C) ⟨vs, kw⟩) R s := by
  obtain ⟨hh, g, d, t, os⟩ := s
  exact PySem.W.make_core (PySem.W.makes_of X hm) (PySem.W.looks_findIn X hi) (fun self => PySem.W.bind_fn X self hf) (.inl rfl) h
end

/-! ### the attributes as a list of pairs -/
def putF (f : Str) (v : V) : List (Str × V) → List (Str × V)
  | [] => [(f, v)]
  | (g, x) :: r => if g = f then (g, v) :: r else (g, x) :: putF f v r
theorem lookup_putF (f g : Str) (v : V) : ∀ fs : List (Str × V), (putF f v fs).lookup g = if g = f then some v else fs.lookup g
  | [] => by
    show List.lookup g [(f, v)] = _
    by_cases h : g = f
    · have hb : (g == f) = true := beq_iff_eq.mpr h
      simp only [List.lookup, hb, if_pos h]
    · have hb : (g == f) = false := beq_eq_false_iff_ne.mpr h
      simp only [List.lookup, hb, if_neg h]
  | (k, x) :: r => by
    have ih := lookup_putF f g v r
    rw [show putF f v ((k, x) :: r) = (if k = f then (k, v) :: r else (k, x) :: putF f v r) from rfl]
    by_cases hk : k = f
    · rw [if_pos hk]
      by_cases h : g = k
      · have hb : (g == k) = true := beq_iff_eq.mpr h
        simp only [List.lookup, hb, if_pos (h.trans hk)]
      · have hb : (g == k) = false := beq_eq_false_iff_ne.mpr h
        simp only [List.lookup, hb, if_neg (fun e : g = f => h (e.trans hk.symm))]
    · rw [if_neg hk]
      by_cases h : g = k
      · have hb : (g == k) = true := beq_iff_eq.mpr h
        simp only [List.lookup, hb, if_neg (fun e : g = f => hk (h.symm.trans e))]
      · have hb : (g == k) = false := beq_eq_false_iff_ne.mpr h
        simp only [List.lookup, hb]
        exact ih
theorem keys_putF (f : Str) (v : V) : ∀ fs : List (Str × V), f ∈ (putF f v fs).map (·.1) ∧ ∀ g, g ∈ fs.map (·.1) → g ∈ (putF f v fs).map (·.1)
  | [] => ⟨by simp [putF], fun g h => by simp at h⟩
  | (k, x) :: r => by
    obtain ⟨i1, i2⟩ := keys_putF f v r
    rw [show putF f v ((k, x) :: r) = (if k = f then (k, v) :: r else (k, x) :: putF f v r) from rfl]
    by_cases hk : k = f
    · rw [if_pos hk]
      subst hk
      exact ⟨by simp, fun g h => by simpa using h⟩
    · rw [if_neg hk]
      refine ⟨?_, fun g h => ?_⟩
      · rw [List.map_cons]
        exact List.mem_cons_of_mem _ i1
      · rw [List.map_cons] at h ⊢
        rcases List.mem_cons.mp h with e | e
        · exact List.mem_cons.mpr (.inl e)
        · exact List.mem_cons_of_mem _ (i2 g e)
theorem length_putF (f : Str) (v : V) : ∀ fs : List (Str × V), (putF f v fs).length ≤ fs.length + 1
  | [] => by simp [putF]
  | (k, x) :: r => by
    have ih := length_putF f v r
    rw [show putF f v ((k, x) :: r) = (if k = f then (k, v) :: r else (k, x) :: putF f v r) from rfl]
    by_cases hk : k = f
    · rw [if_pos hk, List.length_cons, List.length_cons]; omega
    · rw [if_neg hk, List.length_cons, List.length_cons]; omega

theorem RelO.some_of {v : V} {o : Option Value} (r : RelO (some v) o) : ∃ u, o = some u ∧ RelV v u := by
  cases o with
  | none => exact (show False from r).elim
  | some u => exact ⟨u, rfl, r⟩
theorem RelO.none_of {o : Option Value} (r : RelO none o) : o = none := by
  cases o with
  | none => rfl
  | some u => exact (show False from r).elim
theorem handed_of {v : V} {u : Value} (r : RelV v u) : PySem.W.handedIn u = true := by
  cases v with
  | non => cases (show u = Value.none from r); rfl
  | bl b => cases (show u = Value.bool b from r); rfl
  | int i => obtain ⟨t, e⟩ := (show ∃ t, u = Value.int i t from r); cases e; rfl
  | str x => obtain ⟨t, e⟩ := (show ∃ t, u = Value.str x t from r); cases e; rfl
  | byt b => obtain ⟨t, e⟩ := (show ∃ t, u = Value.bytes b t from r); cases e; rfl
  | flt b => obtain ⟨t, e⟩ := (show ∃ t, u = Value.float b t from r); cases e; rfl
  | ref a => cases (show u = Value.ref a from r); rfl
  | ty n => cases (show u = Value.type n from r); rfl

section
variable {P : Program} {w : World} {H H' : Hp} {h h' : Heap} {a C dx : Addr} {fs fs' : List (Str × V)}
theorem ins_get (hok : HOk P w H h) (e : H a = some (.ins C dx fs)) : ∃ mA, ObjM h a dx C mA ∧ (∀ f, RelO (fs.lookup f) (mA f)) ∧ PySem.Within mA (fs.map (·.1)) ∧ fs.length ≤ 1000 ∧ H dx = some (.own a) := by
  obtain ⟨d, z, ne, ob, mA, n, r, q⟩ := (show ObjOk P w H h a (.ins C dx fs) from hok a _ e)
  exact ⟨mA, ⟨ob, n, ne⟩, r, q, z, d⟩
end

/-! ### what of the text a class must have -/
structure Cls (K : PySem.W.Frag) (C : Addr) : Prop where
  pg : PySem.W.plainGet K C Str.empty = true
  hd : PySem.W.hasDictIn K C = true
  po : PySem.W.plainOver K C = true
  sa : PySem.W.findIn K (.ref C) "__setattr__" = some (some (.builtin "object.__setattr__"))
theorem Cls.get {K : PySem.W.Frag} {C : Addr} (c : Cls K C) (f : Str) : PySem.W.plainGet K C f = true := c.pg
/-- no class of it has the name -/
def NoAttr (K : PySem.W.Frag) (C : Addr) (f : Str) : Prop := PySem.W.findIn K (.ref C) f = some none
theorem NoAttr.taker {K : PySem.W.Frag} {C : Addr} {f : Str} (n : NoAttr K C f) : PySem.W.takerIn K C f = some none := by
  unfold PySem.W.takerIn
  rw [show PySem.W.findIn K (.ref C) f = some none from n]
  rfl
/-- a method: a plain def of the class or of one above it -/
structure Meth (K : PySem.W.Frag) (C : Addr) (m : Str) (f : Addr) : Prop where
  at_ : PySem.W.findIn K (.ref C) m = some (some (.ref f))
  fn : PySem.W.isFn K (.ref f) = true
  kp : PySem.W.keepIn K (.ref f) = true

section
variable {X : Cx} {pins : List (Addr × Obj)} {σ : St} {H : Hp} {s : Shared} {a C dx : Addr} {fs : List (Str × V)} {f : Str} {v : V} {A : Around} {E : Value → Shared → Prop}

theorem getattr_ok {b : Bool} {Q : Value → Shared → Prop} (I : Inv X pins σ H s) (e : H a = some (.ins C dx fs)) (c : Cls X.K C) (n : NoAttr X.K C f) (l : fs.lookup f = some v)
    (h : ∀ u s', Inv X pins σ H s' → RelV v u → Q u s') : wpAny (model X.prog X.w) A (getAttr (.ref a) f b) Q E s := by
  obtain ⟨mA, O, r, _, _, _⟩ := ins_get I.hok e
  obtain ⟨u, hu, ru⟩ := RelO.some_of (v := v) (o := mA f) (by rw [← l]; exact r f)
  exact get_map I.kIn O (c.get f) c.hd n hu (handed_of ru) (h u _ (I.tok _) ru)

theorem getmeth_ok {m : Str} {g : Addr} {pl : Sem Bool} {Q : Value × List Value → Shared → Prop} (I : Inv X pins σ H s) (e : H a = some (.ins C dx fs)) (c : Cls X.K C) (k : Meth X.K C m g) (l : fs.lookup m = none)
    (h : Q (.ref g, [.ref a]) s) : wpAny (model X.prog X.w) A (getMethod (.ref a) m pl) Q E s := by
  obtain ⟨mA, O, r, _, _, _⟩ := ins_get I.hok e
  have hn : mA m = none := RelO.none_of (by rw [← l]; exact r m)
  exact get_meth I.kIn O (c.get m) k.at_ k.fn hn h

theorem setattr_ok {y : V} {u : Value} {Q : Unit → Shared → Prop} (I : Inv X pins σ H s) (e : H a = some (.ins C dx fs)) (c : Cls X.K C) (n : NoAttr X.K C f) (hl : fs.length < 1000) (ry : RelV y u)
    (h : ∀ s', Inv X pins σ (upd H a (.ins C dx (putF f y fs))) s' → Q () s') : wpAny (model X.prog X.w) A (setAttr (.ref a) f u) Q E s := by
  obtain ⟨mA, O, r, wi, _, ho⟩ := ins_get I.hok e
  have hz : (fs.map (·.1)).length ≤ sizeLine := by rw [List.length_map, sizeLine_eq]; omega
  refine set_map I.kIn O c.sa c.po n.taker c.hd wi hz fun h' O' sb => h _ ?_
  have hd : ∃ o, h'.get? dx = some o := let ⟨o, _, _, e', _⟩ := O'.ns; ⟨o, e'⟩
  refine I.write (x := a) (e := dx) (by rw [e]; exact True.intro) (.inr ho) (fun b q hb z => (sb.2 b hb).trans z) hd ?_
  refine ⟨by rw [upd_ne O.ne]; exact ho, ?_, O.ne, O'.obj, _, O'.ns, fun g => ?_, fun g hg => ?_⟩
  · have := length_putF f y fs; omega
  · show RelO ((putF f y fs).lookup g) (if g = f then some u else mA g)
    rw [lookup_putF]
    by_cases q : g = f
    · rw [if_pos q, if_pos q]; exact ry
    · rw [if_neg q, if_neg q]; exact r g
  · by_cases q : g = f
    · rw [q]; exact (keys_putF f y fs).1
    · refine (keys_putF f y fs).2 g (wi g fun z => hg ?_)
      show (if g = f then some u else mA g) = none
      rw [if_neg q]; exact z

/-- a new instance, tracked, without attributes -/
theorem Inv.made (I : Inv X pins σ H s) : Inv X pins σ (upd (upd H s.heap.objs.size (.own (s.heap.objs.size + 1))) (s.heap.objs.size + 1) (.ins C s.heap.objs.size []))
    { s with heap := (s.heap.push PySem.W.emptyDict).push (PySem.W.instObj C s.heap.objs.size) } := by
  have e1 : (s.heap.push PySem.W.emptyDict).get? s.heap.objs.size = some PySem.W.emptyDict := Heap.get?_push_size s.heap rfl
  have e2 : ((s.heap.push PySem.W.emptyDict).push (PySem.W.instObj C s.heap.objs.size)).get? (s.heap.objs.size + 1) = some (PySem.W.instObj C s.heap.objs.size) := by
    have := Heap.get?_push_size (s.heap.push PySem.W.emptyDict) (o := PySem.W.instObj C s.heap.objs.size) rfl
    rwa [Heap.size_push] at this
  have e3 : (s.heap.push PySem.W.emptyDict).Ns s.heap.objs.size (fun _ => none) := ⟨PySem.W.emptyDict, #[], _, e1, rfl, (fun e he => absurd he (by simp)), fun _ => rfl⟩
  have I1 := I.laid (a := s.heap.objs.size) (o := .own (s.heap.objs.size + 1)) (h' := s.heap.push PySem.W.emptyDict) (t' := s.toks) (fun b u q => Heap.get?_push_of_some _ q) (Nat.le_refl _) ⟨_, e1⟩
  refine I1.laid (a := s.heap.objs.size + 1) (o := .ins C s.heap.objs.size []) (t' := s.toks) (fun b u q => Heap.get?_push_of_some _ q) (Nat.le_of_eq (Heap.size_push _ _)) ?_
  have ne : s.heap.objs.size ≠ s.heap.objs.size + 1 := Nat.ne_of_lt (Nat.lt_succ_self _)
  refine ⟨by rw [upd_ne ne, upd_same], Nat.zero_le _, ne, e2, fun _ => none, (Heap.Ns1.of_empty e3).at fun o q => Heap.get?_push_of_some _ q, fun _ => True.intro, fun y hy => absurd rfl hy⟩

/-- e.f where nothing but the object is asked: through attributeBase (super) and the last hold -/
theorem attr_of {prog : Program} {w : World} {env : Env} {e : Expr} {f : Str} {pos : Pos} {s : Shared} {Q : Value → Shared → Prop} (hb : attributeBase e f env (eval e env) = eval e env)
    (h : wpAny (model prog w) A (eval e env) (fun o s₁ => wpAny (model prog w) A (getAttr o f true) Q E s₁) E s) : wpAny (model prog w) A (eval (.Attribute e f pos) env) Q E s :=
  Attribute_any_ h (by rw [arm_eval_Attribute, hb])
end

/-! ### readings and rules -/
/-- e.f, an attribute of the instance -/
def tFld (K : PySem.W.Frag) (ta : TE) (f : Str) : TE := fun σ H Q => ta σ H fun x H1 => ∃ a C dx fs v, x = .ref a ∧ H1 a = some (.ins C dx fs) ∧ Cls K C ∧ NoAttr K C f ∧ fs.lookup f = some v ∧ Q v H1
/-- e.f = value -/
def sFld (K : PySem.W.Frag) (ta tv : TE) (f : Str) : TS := fun D σ H => tv σ H fun y H1 => ta σ H1 fun x H2 => ∃ a C dx fs, x = .ref a ∧ H2 a = some (.ins C dx fs) ∧ Cls K C ∧ NoAttr K C f ∧ fs.length < 1000 ∧
  D.nx σ (upd H2 a (.ins C dx (putF f y fs)))
section
variable {X : Cx} {o e value : Expr} {f : Str} {pos pos' tpos : Pos} {ta tv : TE}
theorem pe_fld (he : PE X e ta) (hb : attributeBase e f X.env (eval e X.env) = eval e X.env) : PE X (.Attribute e f pos) (tFld X.K ta f) := by
  intro pins s σ H Q I h
  refine attr_of hb (thn (he pins s σ H _ I h) fun u s1 ⟨x, H1, I1, rx, a, C, dx, fs, v, ex, ea, c, n, l, q⟩ => ?_)
  subst ex
  obtain rfl : u = Value.ref a := rx
  exact getattr_ok I1 ea c n l fun u' s2 I2 ru => ⟨v, H1, I2, ru, q⟩
theorem ps_fld (ha : PE X o ta) (hv : PE X value tv) (hs : swapsWith value (some (.Attribute o f pos')) pos.line X.env = pure false) : PS X (.Assign [.Attribute o f pos'] value pos) (sFld X.K ta tv f) := by
  intro pins s σ H D I h
  refine plainObj_wpAny_Assign_Attribute (thn (hv pins s σ H _ I h) fun u s1 ⟨y, H1, I1, ry, q⟩ => thn (ha pins s1 σ H1 _ I1 q) fun ov s2 ⟨x, H2, I2, rx, a, C, dx, fs, ex, ea, c, n, l, q2⟩ => ?_) hs
  subst ex
  obtain rfl : ov = Value.ref a := rx
  exact setattr_ok I2 ea c n l ry fun s3 I3 => ⟨σ, _, I3, q2⟩
end

/-! ### isinstance -/
section
variable {X : Cx} {pins : List (Addr × Obj)} {σ : St} {H : Hp} {s : Shared} {A : Around} {E : Value → Shared → Prop} {Q : Value → Shared → Prop} {c : Value} {b : Bool}
end
end L2

namespace L2
open PySem PySem.Spec PyProof.Rows

/-! ### room -/
structure Room (k : Nat) (A : Around) : Prop where
  hd : A.handled = none
  dp : A.depth + 3 * k + 5 < recursionLimit
  un : A.units + 16 * k + 200 < cLine
theorem Room.mono {j k : Nat} {A : Around} (r : Room k A) (h : j ≤ k) : Room j A := ⟨r.hd, by have := r.dp; omega, by have := r.un; omega⟩
theorem Room.deeper {k : Nat} {A : Around} (r : Room (k + 1) A) (env : Env) : Room k (A.deeper env) :=
  ⟨r.hd, by have := r.dp; show A.depth + 1 + 3 * k + 5 < _; omega, by have := r.un; show A.units + 3 + 16 * k + 200 < _; omega⟩
theorem Room.in1 {k : Nat} {A : Around} (r : Room (k + 1) A) : Room k A.in1 :=
  ⟨r.hd, by have := r.dp; show A.depth + 3 * k + 5 < _; omega, by have := r.un; show A.units + 1 + 16 * k + 200 < _; omega⟩
theorem make_depth {A : Around} {C : Addr} {us : List Value} {kw : List (Str × Value)} : (A.under (.builtin "type.__call__" ⟨.ref C :: us, kw⟩)).depth = A.depth + 1 := by
  first | rfl | simp [Around.under, Code.weight, Code.isCreation, Code.isGuard, Code.isCaller, Code.frames, Code.isFrame, guardIds]
theorem make_units {A : Around} {C : Addr} {us : List Value} {kw : List (Str × Value)} : (A.under (.builtin "type.__call__" ⟨.ref C :: us, kw⟩)).units = A.units + 1 := by
  first | rfl | simp [Around.under, Code.cUnits, Code.frames, Code.isFrame]
theorem Room.make {k : Nat} {A : Around} (r : Room (k + 1) A) (C : Addr) (us : List Value) (kw : List (Str × Value)) : Room k (A.under (.builtin "type.__call__" ⟨.ref C :: us, kw⟩)) :=
  ⟨r.hd, by have := r.dp; rw [make_depth]; omega, by have := r.un; rw [make_units]; omega⟩
theorem Room.depth {k : Nat} {A : Around} (r : Room k A) : A.depth < recursionLimit := by have := r.dp; omega
theorem Room.units {k : Nat} {A : Around} (r : Room k A) : A.units + 64 < cLine := by have := r.un; omega
/-! ### argument lists and displays -/
def tNil : TA := fun _ H Q => Q [] H
def tCons (ta : TE) (tr : TA) : TA := fun σ H Q => ta σ H fun x H1 => tr σ H1 fun xs H2 => Q (x :: xs) H2
section
variable {X : Cx} {e : Expr} {es : List Expr} {te : TE} {t : TA} {pos : Pos}
theorem pa_nil : PA X [] tNil := fun _ _ _ _ H Q I h => Calls.spliced_nil ⟨[], H, I, .nil, h⟩
theorem pa_cons (ha : PE X e te) (hr : PA X es t) (hs : starEach (e :: es) X.env = (false, eval e X.env) :: starEach es X.env := by rfl) : PA X (e :: es) (tCons te t) := by
  intro pos pins s σ H Q I h
  rw [hs]
  show wpAny _ _ (spliced ((false, eval e X.env) :: backTo pos (starEach es X.env))) _ _ s
  refine Calls.spliced_cons (thn (ha pins s σ H _ I h) fun u s1 ⟨x, H1, I1, r1, q1⟩ => ?_)
  exact thn (hr pos pins s1 σ H1 _ I1 q1) fun us s2 ⟨xs, H2, I2, r2, q2⟩ => ⟨x :: xs, H2, I2, .cons r1 r2, q2⟩

/-- a tuple, a list of written items -/
def tTup (t : TA) : TE := fun σ H Q => t σ H fun xs H1 => xs.length ≤ sizeLine ∧ ∀ p, H1 p = none → Q (.ref p) (upd H1 p (.tup xs))
def tLst (t : TA) : TE := fun σ H Q => t σ H fun xs H1 => xs.length ≤ sizeLine ∧ ∀ p, H1 p = none → Q (.ref p) (upd H1 p (.lst xs))
theorem pe_tup {x1} (h : PA X es t) : PE X (.Tuple es x1 pos) (tTup t) := by
  intro pins s σ H Q I hq
  refine wpAny_Tuple_spliced (thn (h pos pins s σ H _ I hq) fun us s1 ⟨xs, H1, I1, r, z, q⟩ => ⟨by rw [← r.length]; exact z, ?_⟩)
  have hf : H1 s1.heap.objs.size = none := I1.hok.fresh (Nat.le_refl _)
  refine ⟨.ref s1.heap.objs.size, upd H1 s1.heap.objs.size (.tup xs), I1.laid (t' := s1.toks) (fun b u e => Heap.get?_push_of_some _ e) (Nat.le_refl _) ?_, rfl, q _ hf⟩
  exact ⟨z, us, r, ⟨_, Heap.get?_push_size _ rfl, rfl, _, rfl⟩⟩
theorem pe_lst (h : PA X es t) : PE X (.List es pos) (tLst t) := by
  intro pins s σ H Q I hq
  refine wpAny_List_spliced (thn (h pos pins s σ H _ I hq) fun us s1 ⟨xs, H1, I1, r, z, q⟩ => ⟨by rw [← r.length]; exact z, ?_⟩)
  have hf : H1 s1.heap.objs.size = none := I1.hok.fresh (Nat.le_refl _)
  refine ⟨.ref s1.heap.objs.size, upd H1 s1.heap.objs.size (.lst xs), I1.laid (t' := s1.toks) (fun b u e => Heap.get?_push_of_some _ e) (Nat.le_refl _) ?_, rfl, q _ hf⟩
  exact ⟨z, us, 0, r, Heap.get?_push_size _ rfl⟩
end

/-! ### what a def promises -/
/-- a def's promise: the bound arguments in the parameters' order, the heap, the wanted end, the wanted exception -/
abbrev Sp := List V → Hp → VK → XK → Prop
/-- how an exception lies behind a call (file 08 gives it): the callers' frames, abstract heap and state ahead of the call, the wish, the exception, the state -/
abbrev CXT := List Env → Hp → Shared → XK → Value → Shared → Prop

/-- the state at a call -/
structure Env0 (P : Program) (w : World) (K : PySem.W.Frag) (mg : Str → Option Value) (base : Heap) (A : Around) (outer : List Env) (s : Shared) (H : Hp) : Prop where
  frames : A.frames = some outer
  mod : Mod K mg base
  bs : ∀ b o, base.get? b = some o → s.heap.get? b = some o ∧ H b = none
  bsz : base.objs.size ≤ s.heap.objs.size
  funs : s.heap.FunFrames base outer
  frf : ∀ b ∈ frs outer, H b = none
  hok : HOk P w H s.heap
  bare : AllBare s.gens
/-- a call's end -/
def CE (outer : List Env) (P : Program) (w : World) (H : Hp) (s : Shared) (Q : VK) (u : Value) (s' : Shared) : Prop :=
  ∃ v H', s'.os = s.os ∧ AllBare s'.gens ∧ Un (frs outer) [] H H' s.heap s'.heap ∧ HOk P w H' s'.heap ∧ RelV v u ∧ Q v H'
def CR (CX : CXT) (outer : List Env) (P : Program) (w : World) (H : Hp) (s : Shared) (Q : VK) (E : XK) (r : Result) (s' : Shared) : Prop :=
  match r with
  | .ok (.ret u) => CE outer P w H s Q u s'
  | .ok _ => False
  | .error e => CX outer H s E e s'
structure FnOk (P : Program) (w : World) (K : PySem.W.Frag) (mg : Str → Option Value) (base : Heap) (CX : CXT) (k : Nat) (f : Addr) (fd : FuncData) (ps : List Str) (sp : Sp) : Prop where
  len : ∀ vs H Q E, sp vs H Q E → vs.length = ps.length
  run : ∀ (A : Around) (outer : List Env) (s : Shared) (H : Hp) (args : Args) (us : List Value) (vs : List V) (Q : VK) (E : XK), Room k A → Env0 P w K mg base A outer s H → BindsTo s fd args (ps.zip us) → Vals vs us → sp vs H Q E →
    codeAny (model P w) A (.call (.ref f) args) (CR CX outer P w H s Q E) s
theorem FnOk.mono {P : Program} {w : World} {K : PySem.W.Frag} {mg : Str → Option Value} {base : Heap} {CX : CXT} {j k : Nat} {f : Addr} {fd : FuncData} {ps : List Str} {sp : Sp} (F : FnOk P w K mg base CX j f fd ps sp) (h : j ≤ k) :
    FnOk P w K mg base CX k f fd ps sp := ⟨F.len, fun A outer s H args us vs Q E hr => F.run A outer s H args us vs Q E (hr.mono h)⟩
/-- a weaker promise -/
theorem FnOk.imp {P : Program} {w : World} {K : PySem.W.Frag} {mg : Str → Option Value} {base : Heap} {CX : CXT} {k : Nat} {f : Addr} {fd : FuncData} {ps : List Str} {sp sp' : Sp} (F : FnOk P w K mg base CX k f fd ps sp)
    (h : ∀ vs H Q E, sp' vs H Q E → sp vs H Q E) : FnOk P w K mg base CX k f fd ps sp' :=
  ⟨fun vs H Q E q => F.len vs H Q E (h _ _ _ _ q), fun A outer s H args us vs Q E hr he hb hv hs => F.run A outer s H args us vs Q E hr he hb hv (h _ _ _ _ hs)⟩

theorem Env0.make {P : Program} {w : World} {K : PySem.W.Frag} {mg : Str → Option Value} {base : Heap} {A : Around} {outer : List Env} {s : Shared} {H : Hp} (e : Env0 P w K mg base A outer s H) (C : Addr) (us : List Value) (kw : List (Str × Value)) :
    Env0 P w K mg base (A.under (.builtin "type.__call__" ⟨.ref C :: us, kw⟩)) outer s H := ⟨by first | exact e.frames | (simpa [Around.under, Code.envs, Code.isFrame, pushEnvs] using e.frames), e.mod, e.bs, e.bsz, e.funs, e.frf, e.hok, e.bare⟩
theorem Env0.in1 {P : Program} {w : World} {K : PySem.W.Frag} {mg : Str → Option Value} {base : Heap} {A : Around} {outer : List Env} {s : Shared} {H : Hp} (e : Env0 P w K mg base A outer s H) :
    Env0 P w K mg base A.in1 outer s H := ⟨e.frames, e.mod, e.bs, e.bsz, e.funs, e.frf, e.hok, e.bare⟩

section
variable {X : Cx} {pins : List (Addr × Obj)} {σ : St} {H : Hp} {s s' : Shared}
/-- from a body: what a callee wants -/
theorem Inv.env0 (I : Inv X pins σ H s) : Env0 X.prog X.w X.K X.mg X.base X.A X.stack s H :=
  ⟨I.ok.frames, I.ok.mod, I.bs, Nat.le_trans I.ok.bsz I.sz, I.stack, I.stkFree, I.hok, I.bare⟩
/-- behind a call -/
theorem Inv.after {Q : VK} {u : Value} (I : Inv X pins σ H s) (h : CE X.stack X.prog X.w H s Q u s') : EP X pins σ Q u s' := by
  obtain ⟨v, H', os, bare, un, hok, r, q⟩ := h
  obtain ⟨hh, g, d, t, os'⟩ := s'
  obtain rfl : os' = s.os := os
  exact ⟨v, H', I.call (h' := hh) (g' := g) (d' := d) (t' := t) (ch := []) un hok bare (fun b z => absurd z (by simp)), r, q⟩
end

/-! ### calls -/
/-- f(..): the written arguments, then the defaults dvs; E: what is wanted of an exception -/
def tCall (sp : Sp) (dvs : List V) (E : XK) (t : TA) : TE := fun σ H Q => t σ H fun vs H1 => sp (vs ++ dvs) H1 Q E
/-- o.m(..) of an instance of the class at C -/
def tMeth (C : Addr) (m : Str) (sp : Sp) (dvs : List V) (E : XK) (ta : TE) (t : TA) : TE := fun σ H Q => ta σ H fun x H1 => ∃ a dx fs, x = .ref a ∧ H1 a = some (.ins C dx fs) ∧ fs.lookup m = none ∧
  t σ H1 fun vs H2 => sp (x :: (vs ++ dvs)) H2 Q E
/-- C(..): a new instance and its dict, then __init__ -/
def tMake (C : Addr) (sp : Sp) (dvs : List V) (E : XK) (t : TA) : TE := fun σ H Q => t σ H fun vs H1 => ∀ x dx, H1 x = none → H1 dx = none → dx ≠ x →
  sp (.ref x :: (vs ++ dvs)) (upd (upd H1 dx (.own x)) x (.ins C dx [])) (fun v H2 => v = .non ∧ Q (.ref x) H2) E

/-- how the parameters are bound: us the positional arguments, kw the keywords' values by name, ds the defaults that fill up -/
def Binds (K : PySem.W.Frag) (fd : FuncData) (ps : List Str) (ds : List Value) : Prop :=
  ∀ (s : Shared) (us : List Value), K.In s.heap → (us ++ ds).length = ps.length → BindsTo s fd ⟨us, []⟩ (ps.zip (us ++ ds))
/-- every parameter is given -/
theorem Binds.all {K : PySem.W.Frag} {fd : FuncData} {ps : List Str} (h : ∀ us : List Value, us.length = ps.length → bindArgs fd ⟨us, []⟩ = pure (ps.zip us)) : Binds K fd ps [] := fun s us _ hl => by
  rw [List.append_nil] at hl ⊢
  exact .of_eq (h us hl)

/-- an exception of a callee reaches what this body wants of exceptions -/
def Passes (CX : CXT) (X : Cx) (E : XK) : Prop := ∀ (pins : List (Addr × Obj)) (σ : St) (H : Hp) (s : Shared) (e : Value) (s' : Shared), Inv X pins σ H s → CX X.stack H s E e s' → X.xe e s'

section
variable {X : Cx} {CX : CXT} {k : Nat} {f C : Addr} {fd : FuncData} {ps : List Str} {sp : Sp} {dvs : List V} {ds : List Value} {E : XK} {x m : Str} {p pos apos : Pos} {e o : Expr} {es : List Expr} {ta : TE} {t : TA}

/-- the callee runs -/
theorem run_fn {pins : List (Addr × Obj)} {σ : St} {H : Hp} {s : Shared} {Q : VK} {us : List Value} {vs : List V} (F : FnOk X.prog X.w X.K X.mg X.base CX k f fd ps sp) (hr : Room k X.A) (hb : Binds X.K fd ps ds) (hd : Vals dvs ds) (hx : Passes CX X E)
    (I : Inv X pins σ H s) (r : Vals vs us) (h : sp (vs ++ dvs) H Q E) : wpAny (model X.prog X.w) X.A (call (.ref f) us) (EP X pins σ Q) X.xe s := by
  have r2 : Vals (vs ++ dvs) (us ++ ds) := r.append hd
  have hl : (us ++ ds).length = ps.length := by rw [← r2.length]; exact F.len _ _ _ _ h
  refine wpAny_call (codeAny_mono (F.run X.A X.stack s H ⟨us, []⟩ (us ++ ds) (vs ++ dvs) Q E hr I.env0 (hb s us I.kIn hl) r2 h) fun r s' hq => ?_)
  cases r with
  | error e => exact hx pins σ H s e s' I hq
  | ok fl =>
    cases fl with
    | ret u => exact I.after hq
    | next => exact False.elim hq
    | brk => exact False.elim hq
    | cont => exact False.elim hq

theorem pe_call (F : FnOk X.prog X.w X.K X.mg X.base CX k f fd ps sp) (hr : Room k X.A) (hg : Gl X x) (hm : X.mg x = some (.ref f)) (hk : PySem.W.keepIn X.K (.ref f) = true) (hb : Binds X.K fd ps ds) (hd : Vals dvs ds) (hx : Passes CX X E)
    (ha : PA X (e :: es) t) (hdb : (x == ("__debug__" : Str)) = false := by decide) (he : starEach (e :: es) X.env = (false, eval e X.env) :: starEach es X.env := by rfl) (hpl : (backTo pos (starEach es X.env)).any (·.1) = false := by rfl) :
    PE X (.Call (.Name x p) (e :: es) [] pos) (tCall sp dvs E t) := by
  intro pins s σ H Q I h
  refine wpAny_Call_Name_kw (ld_glob I hg hm ?_ hdb)
  refine PySem.W.callWith_K (h₀ := X.base) I.ok.mod.kin hk (thn (ha pos pins s σ H _ I h) fun us s1 ⟨vs, H1, I1, r, q⟩ => ⟨I1.kIn, ?_⟩) he hpl
  exact run_fn F hr hb hd hx I1 r q
/-- o.m(e, ..) -/
theorem pe_meth {pl : Sem Bool} (he : PE X o ta) (c : Cls X.K C) (hm : Meth X.K C m f) (F : FnOk X.prog X.w X.K X.mg X.base CX k f fd ps sp) (hr : Room k X.A) (hb : Binds X.K fd ps ds) (hd : Vals dvs ds) (hx : Passes CX X E) (ha : PA X (e :: es) t)
    (hst : starEach (e :: es) X.env = (false, eval e X.env) :: starEach es X.env := by rfl) (hpl : (backTo pos (starEach es X.env)).any (·.1) = false := by rfl)
    (ht : eval (.Call (.Attribute o m apos) (e :: es) [] pos) X.env = (do
      let ov ← eval o X.env
      standAt apos.atName
      let (f, first) ← holding [ov] (getMethod ov m pl)
      callWith pos f first (backTo pos (starEach (e :: es) X.env)) (backToKw pos (keywordEach [] X.env))) := by rfl) :
    PE X (.Call (.Attribute o m apos) (e :: es) [] pos) (tMeth C m sp dvs E ta t) := by
  intro pins s σ H Q I h
  refine PySem.W.methodCall_KW (pl := pl) (thn (he pins s σ H _ I h) fun u s1 ⟨x, H1, I1, rx, a, dx, fs, ex, ea, l, q⟩ => ?_) ht
  subst ex
  obtain rfl : u = Value.ref a := rx
  refine getmeth_ok I1 ea c hm l ?_
  refine PySem.W.callWith_K (first := [.ref a]) (h₀ := X.base) I.ok.mod.kin hm.kp (thn (ha pos pins s1 σ H1 _ I1 q) fun us s2 ⟨vs, H2, I2, r, q2⟩ => ⟨I2.kIn, ?_⟩) hst hpl
  exact run_fn (us := .ref a :: us) (vs := .ref a :: vs) F hr hb hd hx I2 (.cons rfl r) q2
/-- o.m() -/
theorem pe_meth0 {pl : Sem Bool} (he : PE X o ta) (c : Cls X.K C) (hm : Meth X.K C m f) (F : FnOk X.prog X.w X.K X.mg X.base CX k f fd ps sp) (hr : Room k X.A) (hb : Binds X.K fd ps ds) (hd : Vals dvs ds) (hx : Passes CX X E)
    (ht : eval (.Call (.Attribute o m apos) [] [] pos) X.env = (do
      let ov ← eval o X.env
      standAt apos.atName
      let (f, first) ← holding [ov] (getMethod ov m pl)
      callWith pos f first (backTo pos (starEach [] X.env)) (backToKw pos (keywordEach [] X.env))) := by rfl) :
    PE X (.Call (.Attribute o m apos) [] [] pos) (tMeth C m sp dvs E ta tNil) := by
  intro pins s σ H Q I h
  refine PySem.W.methodCall_KW (pl := pl) (thn (he pins s σ H _ I h) fun u s1 ⟨x, H1, I1, rx, a, dx, fs, ex, ea, l, q⟩ => ?_) ht
  subst ex
  obtain rfl : u = Value.ref a := rx
  refine getmeth_ok I1 ea c hm l ?_
  exact PySem.W.callWith_K0 (first := [.ref a]) I1.kIn hm.kp (run_fn (us := [.ref a]) (vs := [.ref a]) F hr hb hd hx I1 (.cons rfl .nil) q)

/-- what a class must have to be made -/
structure Mk (K : PySem.W.Frag) (C f : Addr) : Prop where
  makes : PySem.W.makesIn K C = true
  init : PySem.W.findIn K (.ref C) "__init__" = some (some (.ref f))
  fn : PySem.W.isFn K (.ref f) = true
  kp : PySem.W.keepIn K (.ref C) = true

theorem run_make {pins : List (Addr × Obj)} {σ : St} {H : Hp} {s : Shared} {Q : VK} {us : List Value} {vs : List V} (M : Mk X.K C f) (F : FnOk X.prog X.w X.K X.mg X.base CX k f fd ps sp) (hr : Room (k + 1) X.A) (hb : Binds X.K fd ps ds) (hd : Vals dvs ds)
    (hx : Passes CX X E) (I : Inv X pins σ H s) (r : Vals vs us)
    (h : ∀ x dx, H x = none → H dx = none → dx ≠ x → sp (.ref x :: (vs ++ dvs)) (upd (upd H dx (.own x)) x (.ins C dx [])) (fun v H2 => v = .non ∧ Q (.ref x) H2) E) :
    wpAny (model X.prog X.w) X.A (call (.ref C) us) (EP X pins σ Q) X.xe s := by
  have hq := h (s.heap.objs.size + 1) s.heap.objs.size (I.hok.fresh (Nat.le_succ _)) (I.hok.fresh (Nat.le_refl _)) (Nat.ne_of_lt (Nat.lt_succ_self _))
  have I2 := Inv.made (C := C) I
  have r2 : Vals (V.ref (s.heap.objs.size + 1) :: (vs ++ dvs)) (Value.ref (s.heap.objs.size + 1) :: (us ++ ds)) := .cons rfl (r.append hd)
  have hl : (Value.ref (s.heap.objs.size + 1) :: us ++ ds).length = ps.length := by
    have e := r2.length
    rw [F.len _ _ _ _ hq] at e
    exact e.symm
  refine wpAny_call (make_map (f := f) I.kIn M.makes M.init (beq_iff_eq.mp M.fn) (codeAny_mono (F.run _ X.stack _ _ ⟨Value.ref (s.heap.objs.size + 1) :: us, []⟩ (Value.ref (s.heap.objs.size + 1) :: (us ++ ds)) _ _ E (hr.make C us [])
    (I2.env0.make C us []) (hb _ (Value.ref (s.heap.objs.size + 1) :: us) I2.kIn hl) r2 hq) fun r s' hq' => ?_))
  cases r with
  | error e => exact hx pins σ _ _ e s' I2 hq'
  | ok fl =>
    cases fl with
    | ret u =>
      obtain ⟨v, H', I3, rv, ev, q3⟩ := I2.after hq'
      subst ev
      exact ⟨rv, ⟨V.ref (s.heap.objs.size + 1), H', I3, rfl, q3⟩⟩
    | next => exact False.elim hq'
    | brk => exact False.elim hq'
    | cont => exact False.elim hq'
theorem pe_make (M : Mk X.K C f) (F : FnOk X.prog X.w X.K X.mg X.base CX k f fd ps sp) (hr : Room (k + 1) X.A) (hg : Gl X x) (hm : X.mg x = some (.ref C)) (hb : Binds X.K fd ps ds) (hd : Vals dvs ds) (hx : Passes CX X E)
    (ha : PA X (e :: es) t) (hdb : (x == ("__debug__" : Str)) = false := by decide) (he : starEach (e :: es) X.env = (false, eval e X.env) :: starEach es X.env := by rfl) (hpl : (backTo pos (starEach es X.env)).any (·.1) = false := by rfl) :
    PE X (.Call (.Name x p) (e :: es) [] pos) (tMake C sp dvs E t) := by
  intro pins s σ H Q I h
  refine wpAny_Call_Name_kw (ld_glob I hg hm ?_ hdb)
  refine PySem.W.callWith_K (h₀ := X.base) I.ok.mod.kin M.kp (thn (ha pos pins s σ H _ I h) fun us s1 ⟨vs, H1, I1, r, q⟩ => ⟨I1.kIn, ?_⟩) he hpl
  exact run_make M F hr hb hd hx I1 r q
theorem pe_make0 (M : Mk X.K C f) (F : FnOk X.prog X.w X.K X.mg X.base CX k f fd ps sp) (hr : Room (k + 1) X.A) (hg : Gl X x) (hm : X.mg x = some (.ref C)) (hb : Binds X.K fd ps ds) (hd : Vals dvs ds) (hx : Passes CX X E)
    (hdb : (x == ("__debug__" : Str)) = false := by decide) : PE X (.Call (.Name x p) [] [] pos) (tMake C sp dvs E tNil) := by
  intro pins s σ H Q I h
  refine wpAny_Call_Name_kw (ld_glob I hg hm ?_ hdb)
  exact PySem.W.callWith_K0 I.kIn M.kp (run_make (us := []) M F hr hb hd hx I .nil h)
end

/-! ### keywords -/
section
variable {X : Cx} {CX : CXT} {k : Nat} {f C : Addr} {fd : FuncData} {ps ks : List Str} {sp : Sp} {E : XK} {x m : Str} {p pos apos kpos : Pos} {e o : Expr} {es : List Expr} {kws : List Keyword} {te ta : TE} {t tk : TA} {nm : Option Str}
variable {g : List Value → List Value → List Value} {gV : List V → List V → List V}
end

/-! ### a def's body keeps its promise -/
/-- names: the parameters first -/
structure FnScope (N P : List Str) (sc : Scope) : Prop where
  kind : sc.kind = .function
  co : sc.isCoroutine = false
  gen : sc.isGenerator = false
  nd : N.Nodup
  pre : N.take P.length = P
  par : ∀ x ∈ P, sc.names.lookup x = some .local ∨ sc.names.lookup x = some .cell
  nofree : ∀ y ∈ sc.names, y.2 ≠ .free

theorem bindL_out {kindOf : Str → Option NameKind} {x : Str} : ∀ {binds : List (Str × Value)} {m : Str → Option Value}, (∀ v, (x, v) ∉ binds) → bindL kindOf binds m x = m x
  | [], _, _ => rfl
  | (n, v) :: r, m, h => by
    unfold bindL
    rw [bindL_out fun w hw => h w (List.mem_cons_of_mem _ hw)]
    split
    · have : x ≠ n := by rintro rfl; exact h v List.mem_cons_self
      simp [this]
    · rfl
theorem bindC_out {kindOf : Str → Option NameKind} {x : Str} : ∀ {binds : List (Str × Value)} {m : Str → Option Value}, (∀ v, (x, v) ∉ binds) → bindC kindOf binds m x = m x
  | [], _, _ => rfl
  | (n, v) :: r, m, h => by
    unfold bindC
    rw [bindC_out fun w hw => h w (List.mem_cons_of_mem _ hw)]
    split
    · rfl
    · have : x ≠ n := by rintro rfl; exact h v List.mem_cons_self
      simp [this]
theorem bindL_get {kindOf : Str → Option NameKind} {x : Str} {v : Value} : ∀ {P : List Str} {vs : List Value} {i : Nat} {m : Str → Option Value}, P.Nodup → P[i]? = some x → vs[i]? = some v → kindOf x = some .local →
    bindL kindOf (P.zip vs) m x = some v
  | [], _, _, _, _, h, _, _ => by simp at h
  | _ :: _, [], _, _, _, _, h, _ => by simp at h
  | p :: P, w :: vs, 0, m, nd, h1, h2, hk => by
    simp at h1 h2; subst h1; subst h2
    show bindL kindOf ((p, w) :: P.zip vs) m p = _
    unfold bindL
    rw [bindL_out fun v hv => (List.nodup_cons.mp nd).1 (List.of_mem_zip hv).1, if_pos hk]
    simp
  | p :: P, w :: vs, i + 1, m, nd, h1, h2, hk => by
    show bindL kindOf ((p, w) :: P.zip vs) m x = _
    unfold bindL
    exact bindL_get (i := i) (List.nodup_cons.mp nd).2 (by simpa using h1) (by simpa using h2) hk
theorem bindC_get {kindOf : Str → Option NameKind} {x : Str} {v : Value} : ∀ {P : List Str} {vs : List Value} {i : Nat} {m : Str → Option Value}, P.Nodup → P[i]? = some x → vs[i]? = some v → kindOf x ≠ some .local →
    bindC kindOf (P.zip vs) m x = some v
  | [], _, _, _, _, h, _, _ => by simp at h
  | _ :: _, [], _, _, _, _, h, _ => by simp at h
  | p :: P, w :: vs, 0, m, nd, h1, h2, hk => by
    simp at h1 h2; subst h1; subst h2
    show bindC kindOf ((p, w) :: P.zip vs) m p = _
    unfold bindC
    rw [bindC_out fun v hv => (List.nodup_cons.mp nd).1 (List.of_mem_zip hv).1, if_neg hk]
    simp
  | p :: P, w :: vs, i + 1, m, nd, h1, h2, hk => by
    show bindC kindOf ((p, w) :: P.zip vs) m x = _
    unfold bindC
    exact bindC_get (i := i) (List.nodup_cons.mp nd).2 (by simpa using h1) (by simpa using h2) hk

/-- the names' values at the entry -/
def start (N : List Str) (vs : List V) : St := vs.map some ++ List.replicate (N.length - vs.length) none

/-- the context of a def's body, at its entry; an exception leaves the frame, then lies as CX says -/
def cxOf (CX : CXT) (P : Program) (w : World) (K : PySem.W.Frag) (mg : Str → Option Value) (base : Heap) (N : List Str) (qual : Str) (scope : Scope) (f : Addr) (cd : Value) (A : Around) (outer : List Env) (s : Shared) (H : Hp) (E : XK) : Cx where
  prog := P
  w := w
  K := K
  mg := mg
  base := base
  A := A.deeper (envOfC qual scope s.heap.objs.size f cd)
  N := N
  s_0 := s
  H_0 := H
  env := envOfC qual scope s.heap.objs.size f cd
  outer := outer
  stack := envOfC qual scope s.heap.objs.size f cd :: outer
  ex := []
  calm := true
  fn := fun _ => true
  pn := []
  xe := fun e s' => wpAny (model P w) (A.deeper (envOfC qual scope s.heap.objs.size f cd)) (leaving (envOfC qual scope s.heap.objs.size f cd) e) (fun _ s'' => CX outer H s E e s'') (fun e' s'' => CX outer H s E e' s'') s'

theorem cell_has {sc : Scope} {n : Nat} {x : Str} (h : sc.names.lookup x = some .cell) : ∃ c, (cellsFrom n sc.names []).lookup x = some c := by
  have q := PySem.W.cellsFrom_some sc.names n [] (.inl h)
  exact Option.isSome_iff_exists.mp q

theorem inv_start {CX : CXT} {P : Program} {w : World} {K : PySem.W.Frag} {mg : Str → Option Value} {base : Heap} {N ps : List Str} {qual : Str} {scope : Scope} {f : Addr} {cd : Value} {A : Around} {outer : List Env} {s s1 : Shared} {H : Hp} {E : XK} {us : List Value} {vs : List V}
    (S : FnScope N ps scope) (hd : A.handled = none) (e0 : Env0 P w K mg base A outer s H) (hl : vs.length = ps.length) (r : Vals vs us)
    (x : InCallC s s.heap.objs.size (bindL (envOfC qual scope s.heap.objs.size f cd).kindOf (ps.zip us) fun _ => none) (cellsFrom (s.heap.objs.size + 1) scope.names []) (bindC (envOfC qual scope s.heap.objs.size f cd).kindOf (ps.zip us) fun _ => none) s1) :
    Inv (cxOf CX P w K mg base N qual scope f cd A outer s H E) [] (start N vs) H s1 := by
  have hpl : ps.length ≤ N.length := by have := congrArg List.length S.pre; rw [List.length_take] at this; omega
  obtain ⟨h1, tk, rfl, hk⟩ := x.done
  have noA : ∀ b : Addr, b ∉ (cxOf CX P w K mg base N qual scope f cd A outer s H E).ex := fun b z => absurd (show b ∈ ([] : List Addr) from z) (by simp)
  refine ⟨⟨e0.mod, S.kind, rfl, rfl, Nat.le_refl _, fun y z c h1 h2 => ?_, fun y hy => ?_, fun y c _ h => ?_, fun _ => hd, Around.frames_deeper e0.frames, .inr ⟨rfl, rfl⟩, fun b z => absurd z (noA b), e0.bs, e0.bsz, fun b _ _ => noA b, fun b z => absurd z (noA b), e0.funs, e0.frf⟩,
    rfl, e0.bare, Un.kept hk, ⟨_, x.toInCall.ns, fun i y v h1 h2 h3 => ?_⟩, fun y c h => ⟨_, x.cell y c h⟩, e0.hok.fresh (Nat.le_refl _), fun y c h => ?_, fun p hp => absurd (show p ∈ ([] : List (Addr × Obj)) from hp) (by simp), e0.hok.kept hk, ?_⟩
  · exact name_of_addr x.apart (PySem.mem_of_lookup h1) (PySem.mem_of_lookup h2)
  · have hy : scope.names.lookup y = some .cell ∨ scope.names.lookup y = some .free := hy
    rcases hy with hy | hy
    · exact cell_has hy
    · exact absurd rfl (S.nofree _ (PySem.mem_of_lookup hy))
  · exact Nat.le_of_lt (x.above y c (PySem.mem_of_lookup h))
  · have hi : i < vs.length := by
      unfold start at h2
      by_cases hi : i < vs.length
      · exact hi
      · rw [List.getElem?_append_right (by simpa using hi)] at h2
        rw [List.getElem?_replicate] at h2
        split at h2 <;> cases h2
    have ha : vs[i]? = some v := by
      unfold start at h2
      rw [List.getElem?_append_left (by simpa using hi), List.getElem?_map] at h2
      cases e : vs[i]? with
      | none => rw [e] at h2; cases h2
      | some a => rw [e] at h2; cases h2; rfl
    obtain ⟨u, hu, rv⟩ := r.get ha
    have hp : ps[i]? = some y := by
      rw [← S.pre, List.getElem?_take_of_lt (by omega)]; exact h1
    have ndP : ps.Nodup := by rw [← S.pre]; exact S.nd.sublist (List.take_sublist _ _)
    refine ⟨u, rv, ?_⟩
    rcases S.par y (List.mem_of_getElem? hp) with k | k
    · exact .inl ⟨k, bindL_get ndP hp hu k⟩
    · obtain ⟨c, e⟩ := cell_has (n := s.heap.objs.size + 1) k
      refine .inr ⟨.inl k, c, e, ?_⟩
      have q := x.cell y c e
      rw [bindC_get ndP hp hu (by show scope.names.lookup y ≠ _; rw [k]; decide)] at q
      exact q
  · exact e0.hok.fresh (Nat.le_of_lt (x.above y c (PySem.mem_of_lookup h)))
  · unfold start
    show _ = N.length
    rw [List.length_append, List.length_map, List.length_replicate]
    omega

/-- THE RULE: a def (or a method) of the text, by its body. The body's reading t is chosen for each entry; it is run at the parameters' values -/
theorem fn_of {CX : CXT} {P : Program} {w : World} {K : PySem.W.Frag} {mg : Str → Option Value} {base : Heap} {k : Nat} {f : Addr} {name qual : Str} {params : Arguments} {body : List Stmt} {scope : Scope} {dV kV doc pm cdv ct oc : Value} {an od : Option Addr}
    {osl : Array (Option Value)} {N ps : List Str} {sp : Sp} (lk : K.lookup f = some ⟨oc, od, .func (PySem.W.fnOf name qual params body scope dV kV doc pm an cdv ct), osl⟩) (hcd : PySem.W.codeIn K cdv qual = true) (S : FnScope N ps scope)
    (len : ∀ vs H Q E, sp vs H Q E → vs.length = ps.length)
    (hbody : ∀ (A : Around) (outer : List Env) (s : Shared) (H : Hp) (vs : List V) (Q : VK) (E : XK), Room k (A.deeper (envOfC qual scope s.heap.objs.size f cdv)) → sp vs H Q E →
      ∃ t, PSs (cxOf CX P w K mg base N qual scope f cdv A outer s H E) body t ∧ t { nx := fun _ H' => Q .non H', rt := Q } (start N vs) H) :
    FnOk P w K mg base CX (k + 1) f (PySem.W.fnOf name qual params body scope dV kV doc pm an cdv ct) ps sp := by
  refine ⟨len, fun A outer s H args us vs Q E hr e0 hb r hsp => ?_⟩
  have hl := len _ _ _ _ hsp
  have KX : K.In s.heap := e0.mod.kin.keeps fun b o e => (e0.bs b o e).1
  have lim : s.heap.NoLimit := e0.mod.nolimit.keeps fun b o e => (e0.bs b o e).1
  have hkind : ∀ y ∈ ps.zip us, scope.names.lookup y.1 = some .local ∨ (scope.names.lookup y.1 = some .cell ∧ ((cellsFrom (s.heap.objs.size + 1) scope.names []).lookup y.1).isSome = true) := fun ⟨n, v⟩ hy => by
    rcases S.par n (List.of_mem_zip hy).1 with q | q
    · exact .inl q
    · exact .inr ⟨q, PySem.W.cellsFrom_some _ _ _ (.inl q)⟩
  refine codeAny_call_function hr.depth (KX _ _ lk) rfl S.co S.gen rfl (PySem.W.codeRec_of KX hcd) (hb _ _ _ _ ?_)
  refine wpAny_newFunctionEnv_cells S.kind hkind fun env he s1 x => ?_
  subst he
  refine ⟨lim.keeps x.toInCall.keep, codeAny_func ?_⟩
  obtain ⟨t, ht, hq⟩ := hbody A outer s H vs Q E (hr.deeper _) hsp
  have I : Inv (cxOf CX P w K mg base N qual scope f cdv A outer s H E) [] (start N vs) H s1 := inv_start S hr.hd e0 hl r x
  refine wpAny_mono (ht [] s1 (start N vs) H _ I hq) (fun fl s' hs => ?_) fun e s' hs => hs
  have fin : ∀ {σ' : St} {H' : Hp} {v : V} {u : Value}, Inv (cxOf CX P w K mg base N qual scope f cdv A outer s H E) [] σ' H' s' → RelV v u → Q v H' → CE outer P w H s Q u s' :=
    fun {σ' H' v u} J rv q => ⟨v, H', J.os, J.bare, J.base, J.hok, rv, q⟩
  cases fl with
  | ret u =>
    obtain ⟨v, σ', H', J, rv, q⟩ := hs
    exact fin J rv q
  | next =>
    obtain ⟨σ', H', J, q⟩ := hs
    exact fin (v := V.non) (u := Value.none) J rfl q
  | brk =>
    obtain ⟨_, _, _, q⟩ := hs
    exact False.elim q
  | cont =>
    obtain ⟨_, _, _, q⟩ := hs
    exact False.elim q
end L2

namespace L2
open PySem PySem.Spec PyProof.Rows
section
variable {X : Cx} {x : Str} {p pos : Pos} {e : Expr} {es : List Expr} {t : TA} {id T : String} {r : List V → Hp → VK → Prop}

def tCB (r : List V → Hp → VK → Prop) (t : TA) : TE := fun σ H Q => t σ H fun vs H1 => r vs H1 Q
/-- f(e, ..), f a built-in function -/
theorem pe_callB (hc : CallR X (.builtin id) r) (hg : Gl X x) (hm : X.mg x = none) (hv : bootBuiltins x = some (.builtin id)) (ha : PA X (e :: es) t) (hn : x ≠ "__name__" := by decide) (hdb : (x == ("__debug__" : Str)) = false := by decide)
    (he : starEach (e :: es) X.env = (false, eval e X.env) :: starEach es X.env := by rfl) (hpl : (backTo pos (starEach es X.env)).any (·.1) = false := by rfl) : PE X (.Call (.Name x p) (e :: es) [] pos) (tCB r t) := by
  intro pins s σ H Q I h
  refine wpAny_Call_Name_kw (ld_blt I hg hm hv ?_ hn hdb)
  exact PyProof.Rows.callWith_builtin1 (thn (ha pos pins s σ H _ I h) fun us s1 ⟨vs, H1, I1, r1, q1⟩ => hc pins s1 σ H1 vs us Q I1 r1 q1) he hpl
/-- T(e, ..), T a built-in type -/
theorem pe_callTy (hc : CallR X (.type T) r) (hg : Gl X x) (hm : X.mg x = none) (hv : bootBuiltins x = some (.type T)) (ha : PA X (e :: es) t) (hn : x ≠ "__name__" := by decide) (hdb : (x == ("__debug__" : Str)) = false := by decide)
    (he : starEach (e :: es) X.env = (false, eval e X.env) :: starEach es X.env := by rfl) (hpl : (backTo pos (starEach es X.env)).any (·.1) = false := by rfl) : PE X (.Call (.Name x p) (e :: es) [] pos) (tCB r t) := by
  intro pins s σ H Q I h
  refine wpAny_Call_Name_kw (ld_blt I hg hm hv ?_ hn hdb)
  exact PyProof.Rows.callWith_type1 (thn (ha pos pins s σ H _ I h) fun us s1 ⟨vs, H1, I1, r1, q1⟩ => hc pins s1 σ H1 vs us Q I1 r1 q1) he hpl
end
end L2

namespace HT
open PySem PyProof.Rows

section
open PySem.SeqAt
open PySem.AutoSeq1 (wpAny_loadPart')
open PySem.MeetsSeq PySem.MeetsSeq2 PySem.MeetsSeq3

end

section
variable {prog : Program} {w : World} {A : Around} {E : Value → Shared → Prop} {s : Shared}

/-! ### t[a:b], not the whole -/
/-- a slice's bound as a place among n (d where it is left out) -/
def sIx (n d : Nat) : Option Int → Nat
  | none => d
  | some v => if v < 0 then (v + (n : Int)).toNat else min v.toNat n
theorem sIx_nat (n d k : Nat) : sIx n d (some (k : Int)) = min k n := by
  show (if (k : Int) < 0 then ((k : Int) + (n : Int)).toNat else min (k : Int).toNat n) = min k n
  rw [if_neg (by omega), Int.toNat_natCast]
end
end HT

namespace L2
open PySem PySem.Spec PyProof.Rows

/-! ### the parts of a slice -/
abbrev TO := St → Hp → (Option Int → Hp → Prop) → Prop
/-- a slice's part (left out, or an int) -/
def PO (X : Cx) (e : Option Expr) (t : TO) : Prop :=
  ∀ (pins : List (Addr × Obj)) (s : Shared) (σ : St) (H : Hp) (Q : Option Int → Hp → Prop), Inv X pins σ H s → t σ H Q →
    wpAny (model X.prog X.w) X.A (evalPart e X.env) (fun u s' => ∃ o H', Inv X pins σ H' s' ∧ IsPart u o ∧ Q o H') X.xe s
def tNoPart : TO := fun _ H Q => Q none H
def tPart (t : TE) : TO := fun σ H Q => t σ H fun x H1 => ∃ i, x = .int i ∧ Q (some i) H1

section
variable {X : Cx} {e : Expr} {te : TE} {lo hi : Option Expr} {tl th : TO} {pos p2 : Pos}

theorem po_some (h : PE X e te) : PO X (some e) (tPart te) := by
  intro pins s σ H Q I hw
  rw [evalPart_some]
  refine thn (h pins s σ H _ I hw) fun u s1 ⟨x, H1, I1, r1, q1⟩ => ?_
  obtain ⟨i, rfl, q⟩ := q1
  obtain ⟨t, rfl⟩ := r1
  exact ⟨some i, H1, I1, .int i t, q⟩

/-- what a slice of a value is, by values: the slice object stands at sl -/
def SlR (X : Cx) (r : V → Option Int → Option Int → Hp → VK → Prop) : Prop :=
  ∀ (pins : List (Addr × Obj)) (s : Shared) (σ : St) (H : Hp) (x : V) (v vl vu : Value) (lo hi : Option Int) (sl : Addr) (Q : VK), Inv X pins σ H s → RelV x v → s.heap.IsSliceOf sl vl vu .none → IsPart vl lo → IsPart vu hi → r x lo hi H Q →
    ∃ T id, typeLookup (.type T) "__getitem__" = pure (some (.builtin id)) ∧ s.TypeIs v T ∧ wpAny (model X.prog X.w) X.A (getItem v (.ref sl)) (EP X pins σ Q) X.xe s
theorem SlR.or {r r' : V → Option Int → Option Int → Hp → VK → Prop} (h : SlR X r) (h' : SlR X r') : SlR X (fun x lo hi H Q => r x lo hi H Q ∨ r' x lo hi H Q) := by
  intro pins s σ H x v vl vu lo hi sl Q I rx hs pl pu q
  rcases q with q | q
  · exact h pins s σ H x v vl vu lo hi sl Q I rx hs pl pu q
  · exact h' pins s σ H x v vl vu lo hi sl Q I rx hs pl pu q
def tSl (r : V → Option Int → Option Int → Hp → VK → Prop) (te : TE) (tl th : TO) : TE := fun σ H Q => te σ H fun x H1 => tl σ H1 fun l H2 => th σ H2 fun u H3 => r x l u H3 Q
/-- a[lo:hi], any a -/
theorem pe_slice {r : V → Option Int → Option Int → Hp → VK → Prop} (hr : SlR X r) (he : PE X e te) (hl : PO X lo tl) (hu : PO X hi th) : PE X (.Subscript e (.Slice lo hi none p2) pos) (tSl r te tl th) := by
  intro pins s σ H Q I h
  refine Subscript_ (thn (he pins s σ H _ I h) fun v s1 ⟨x, H1, I1, r1, q1⟩ => ?_)
  refine wpAny_Slice (thn (hl pins s1 σ H1 _ I1 q1) fun vl s2 ⟨l, H2, I2, pl, q2⟩ => thn (hu pins s2 σ H2 _ I2 q2) fun vu s3 ⟨u, H3, I3, pu, q3⟩ => ?_)
  rw [evalPart_none]
  refine wpAny_pure ?_
  have I4 : Inv X pins σ H3 { s3 with heap := s3.heap.push { cls := .type "slice", data := .fields #[vl, vu, .none] } } := I3.kept (t' := s3.toks) fun b ob q => Heap.get?_push_of_some _ q
  obtain ⟨T, id, hT, ht, hg⟩ := hr pins { s3 with heap := s3.heap.push { cls := .type "slice", data := .fields #[vl, vu, .none] } } σ H3 x v vl vu l u s3.heap.objs.size Q I4 r1 (Heap.IsSliceOf.new ..) pl pu q3
  show wpAny (model X.prog X.w) X.A (subscriptTail e (.Slice lo hi none p2) v (.ref s3.heap.objs.size)) (EP X pins σ Q) X.xe { s3 with heap := s3.heap.push { cls := .type "slice", data := .fields #[vl, vu, .none] } }
  exact tail_any (ops := [.ref s3.heap.objs.size, v]) ht hT hg (by with_unfolding_all rfl)

/-- the items of xs[lo:hi] -/
def cutV (xs : List V) (lo hi : Option Int) : List V := (xs.drop (HT.sIx xs.length 0 lo)).take (HT.sIx xs.length xs.length hi - HT.sIx xs.length 0 lo)
theorem cutV_length (xs : List V) (lo hi : Option Int) : (cutV xs lo hi).length ≤ xs.length := by
  unfold cutV
  rw [List.length_take, List.length_drop]
  omega
/-! ### t < u, t + u -/
end
end L2

namespace L2
open PySem PySem.Spec PyProof.Rows

/-! ### places -/
/-- the place that an index of any sign means -/
def ixN (n : Nat) (i : Int) : Option Nat := if 0 ≤ i then (if i < n then some i.toNat else none) else if -(n : Int) ≤ i then some (i + n).toNat else none
def atI {α : Type} (xs : List α) (i : Int) : Option α := (ixN xs.length i).bind fun j => xs[j]?
theorem ixN_seq {n : Nat} {i : Int} {j : Nat} (h : ixN n i = some j) : seqIndex? i n = some j ∧ j < n ∧ -(n : Int) ≤ i ∧ i < n := by
  unfold ixN at h
  by_cases h0 : 0 ≤ i
  · rw [if_pos h0] at h
    by_cases h1 : i < n
    · rw [if_pos h1] at h
      have e : i.toNat = j := Option.some.inj h
      exact ⟨by rw [seqIndex_of h0 h1, e], by omega, by omega, h1⟩
    · rw [if_neg h1] at h; cases h
  · rw [if_neg h0] at h
    by_cases h1 : -(n : Int) ≤ i
    · rw [if_pos h1] at h
      have e : (i + n).toNat = j := Option.some.inj h
      exact ⟨by rw [seqIndex_neg (by omega) h1, e], by omega, h1, by omega⟩
    · rw [if_neg h1] at h; cases h
theorem atI_get {α : Type} {xs : List α} {i : Int} {v : α} (h : atI xs i = some v) : ∃ j, seqIndex? i xs.length = some j ∧ xs[j]? = some v ∧ j < xs.length ∧ -(xs.length : Int) ≤ i ∧ i < xs.length := by
  unfold atI at h
  cases e : ixN xs.length i with
  | none => rw [e] at h; cases h
  | some j =>
    rw [e] at h
    obtain ⟨h1, h2, h3, h4⟩ := ixN_seq e
    exact ⟨j, h1, h, h2, h3, h4⟩
theorem atI_nat {α : Type} {xs : List α} {j : Nat} {v : α} (h : xs[j]? = some v) : atI xs (j : Int) = some v := by
  have hj : j < xs.length := (List.getElem?_eq_some_iff.mp h).1
  have e : ixN xs.length (j : Int) = some j := by
    unfold ixN
    rw [if_pos (by omega), if_pos (by omega)]; simp
  unfold atI; rw [e]; exact h
/-! ### what may be subscripted -/
/-- what stands as an index of a plain subscript -/
def PlainIx (b : Expr) : Prop := ∀ o i, subscripted b false o i = operate [o, i] (getItem o i)
/-- a subscript by values -/
def IxR (X : Cx) (r : R2) : Prop :=
  ∀ (value slice : Expr) (pins : List (Addr × Obj)) (s : Shared) (σ : St) (H : Hp) (x y : V) (v u : Value) (Q : VK), Inv X pins σ H s → RelV x v → RelV y u → r x y H Q →
    subscripted slice false v u = operate [v, u] (getItem v u) → wpAny (model X.prog X.w) X.A (subscriptTail value slice v u) (EP X pins σ Q) X.xe s
/-- a call of a builtin's method by values: the receiver, the arguments -/
def MtR (X : Cx) (id : String) (r : V → List V → Hp → VK → Prop) : Prop :=
  ∀ (pins : List (Addr × Obj)) (s : Shared) (σ : St) (H : Hp) (x : V) (xs : List V) (v : Value) (us : List Value) (Q : VK), Inv X pins σ H s → RelV x v → Vals xs us → r x xs H Q →
    wpAny (model X.prog X.w) X.A (call (.builtin id) (v :: us)) (EP X pins σ Q) X.xe s
section
variable {X : Cx} {a b : Expr} {ta tb : TE} {pos : Pos}
theorem IxR.or {r r' : R2} (h : IxR X r) (h' : IxR X r') : IxR X (fun x y H Q => r x y H Q ∨ r' x y H Q) := by
  intro value slice pins s σ H x y v u Q I rx ry q hs
  rcases q with q | q
  · exact h value slice pins s σ H x y v u Q I rx ry q hs
  · exact h' value slice pins s σ H x y v u Q I rx ry q hs
theorem MtR.or {id : String} {r r' : V → List V → Hp → VK → Prop} (h : MtR X id r) (h' : MtR X id r') : MtR X id (fun x xs H Q => r x xs H Q ∨ r' x xs H Q) := by
  intro pins s σ H x xs v us Q I rx rs q
  rcases q with q | q
  · exact h pins s σ H x xs v us Q I rx rs q
  · exact h' pins s σ H x xs v us Q I rx rs q
/-- a[b] -/
theorem pe_ix {r : R2} (hr : IxR X r) (ha : PE X a ta) (hb : PE X b tb) (hs : PlainIx b) : PE X (.Subscript a b pos) (tOp r ta tb) := by
  intro pins s σ H Q I h
  exact Subscript_ (binT ha hb I h fun v u s2 x y H2 I2 rx ry q => hr a b pins s2 σ H2 x y v u Q I2 rx ry q (hs _ _))

def rIxL (K : PySem.W.Frag) : R2 := fun x y H Q => ∃ p xs i v, x = .ref p ∧ y = .int i ∧ SqL K H p xs ∧ atI xs i = some v ∧ Q v H
def rIxT (K : PySem.W.Frag) : R2 := fun x y H Q => ∃ p xs i v, x = .ref p ∧ y = .int i ∧ SqT K H p xs ∧ atI xs i = some v ∧ Q v H
theorem ix_list : IxR X (rIxL X.K) := by
  intro value slice pins s σ H x y v u Q I rx ry h hs
  obtain ⟨p, xs, i, z, rfl, rfl, hq, he, q⟩ := h
  cases rx
  obtain ⟨t, rfl⟩ := ry
  obtain ⟨its, r, pl, hz⟩ := I.list hq
  obtain ⟨j, h1, h2, h3, h4, h5⟩ := atI_get he
  obtain ⟨w, ew, rw'⟩ := r.get h2
  have hl := r.length
  have hn := line63
  have fin : EP X pins σ Q w s := ⟨z, H, I, rw', q⟩
  by_cases h0 : 0 ≤ i
  · have hj : i.toNat = j := by
      rw [seqIndex_of h0 h5] at h1
      exact Option.some.inj h1
    exact item_listR pl.isList h0 (by omega) (by rw [hj]; simpa using ew) fin hs
  · have hj : (i + (its.toArray.size : Int)).toNat = j := by
      rw [seqIndex_neg (by omega) h4] at h1
      rw [List.size_toArray, ← hl]
      exact Option.some.inj h1
    exact subscriptTail_builtinR (x := w) pl.isList.typeIs slot_list_getitem.lookup
      (wpAny_getItem_list_neg (Q := fun r s' => r = w ∧ EP X pins σ Q r s') pl.isList (by omega) (by rw [List.size_toArray] <;> omega) (by omega) (by rw [hj]; simpa using ew) ⟨rfl, fin⟩) hs
theorem ix_tup : IxR X (rIxT X.K) := by
  intro value slice pins s σ H x y v u Q I rx ry h hs
  obtain ⟨p, xs, i, z, rfl, rfl, hq, he, q⟩ := h
  cases rx
  obtain ⟨t, rfl⟩ := ry
  obtain ⟨its, r, pl, hz⟩ := I.tuple hq
  obtain ⟨j, h1, h2, h3, h4, h5⟩ := atI_get he
  obtain ⟨w, ew, rw'⟩ := r.get h2
  have hl := r.length
  have hn := line63
  have fin : EP X pins σ Q w s := ⟨z, H, I, rw', q⟩
  exact subscriptTail_builtinR (x := w) pl.typeIs slot_tuple_getitem.lookup
    (getItem_tuple (j := j) (Q := fun r s' => r = w ∧ EP X pins σ Q r s') pl (by omega) (by omega) (by rw [List.size_toArray, ← hl]; exact h1) (by simpa using ew) ⟨rfl, fin⟩) hs
/-! ### xs[i] = v, any sign -/
/-- the list's object behind a store -/
theorem mapSeq_set (its : List Value) (n j : Nat) (u : Value) : Obj.mapSeq (·.setIfInBounds j u) { cls := .type "list", data := .seq its.toArray n } = { cls := .type "list", data := .seq (its.set j u).toArray n } := by
  simp [Obj.mapSeq]
theorem Inv.lst {pins : List (Addr × Obj)} {σ : St} {H : Hp} {s : Shared} {p : Addr} {xs : List V} (I : Inv X pins σ H s) (h : H p = some (.lst xs)) :
    ∃ (its : List Value) (n : Nat), Vals xs its ∧ s.heap.get? p = some { cls := .type "list", data := .seq its.toArray n } ∧ xs.length ≤ sizeLine := by
  obtain ⟨z, its, n, r, e⟩ := I.hok p _ h
  exact ⟨its, n, r, e, z⟩
/-- the list at p is written by an update of its object -/
theorem Inv.lstUpd {pins : List (Addr × Obj)} {σ : St} {H : Hp} {s : Shared} {p : Addr} {xs ys : List V} {its its' : List Value} {n n' : Nat} {f : Obj → Obj} (I : Inv X pins σ H s) (h : H p = some (.lst xs))
    (ho : s.heap.get? p = some { cls := .type "list", data := .seq its.toArray n }) (hf : f { cls := .type "list", data := .seq its.toArray n } = { cls := .type "list", data := .seq its'.toArray n' }) (r : Vals ys its') (hz : ys.length ≤ sizeLine) (t : Nat) :
    Inv X pins σ (upd H p (.lst ys)) { s with heap := s.heap.update p f, toks := t } := by
  have e : (s.heap.update p f).get? p = some { cls := .type "list", data := .seq its'.toArray n' } := by
    rw [Heap.get?_update_self f ho (by rw [hf] <;> rfl), hf]
  refine I.write (x := p) (e := p) (by rw [h]; trivial) (.inl rfl) (fun b u hb q => (Heap.get?_update_other _ _ (Ne.symm hb)).trans q) ⟨_, e⟩ ?_
  exact ⟨hz, its', n', r, e⟩
def rSetL : V → V → V → Hp → (Hp → Prop) → Prop := fun o i v H Q => ∃ p xs k j, o = .ref p ∧ i = .int k ∧ H p = some (.lst xs) ∧ ixN xs.length k = some j ∧ Q (upd H p (.lst (xs.set j v)))
theorem set_list : PSet X rSetL := by
  intro pins s σ H o i v ov iv u Q I ro ri rv h
  obtain ⟨p, xs, k, j, rfl, rfl, hp, hj, q⟩ := h
  cases ro
  obtain ⟨t, rfl⟩ := ri
  obtain ⟨its, n, r, ho, hz⟩ := I.lst hp
  obtain ⟨h1, h2, h3, h4⟩ := ixN_seq hj
  have hl := r.length
  have hn := line63
  have I' : Inv X pins σ (upd H p (.lst (xs.set j v))) { s with heap := s.heap.update p (Obj.mapSeq (·.setIfInBounds j u)) } :=
    I.lstUpd hp ho (mapSeq_set its n j u) (r.set rv j) (by rw [List.length_set]; exact hz) s.toks
  by_cases h0 : 0 ≤ k
  · have hk : k.toNat = j := by
      rw [seqIndex_of h0 h4] at h1
      exact Option.some.inj h1
    exact PySem.W.ki_setAt ho h0 (by omega) (by rw [List.size_toArray, ← hl]; exact h4) (by rw [hk]; exact ⟨_, I', q⟩)
  · have hk : (k + (its.toArray.size : Int)).toNat = j := by
      rw [seqIndex_neg (by omega) h3] at h1
      rw [List.size_toArray, ← hl]
      exact Option.some.inj h1
    exact PySem.W.ki_setBack ho (by omega) (by rw [List.size_toArray, ← hl]; exact h3) (by omega) (by rw [hk]; exact ⟨_, I', q⟩)

/-! ### slices -/
theorem slice_bounds (lo hi : Option Int) (n : Nat) : (sliceBounds lo hi none n).1 = ((HT.sIx n 0 lo : Nat) : Int) ∧ (sliceBounds lo hi none n).2.1 = ((HT.sIx n n hi : Nat) : Int) ∧ (sliceBounds lo hi none n).2.2 = 1 := by
  refine ⟨?_, ?_, rfl⟩
  · cases lo with
    | none => simp [sliceBounds, HT.sIx]
    | some i =>
      simp only [sliceBounds, HT.sIx, Option.getD_none, show (1 : Int) > 0 by decide, if_true]
      by_cases h : i < 0
      · simp only [h, if_true] <;> omega
      · simp only [h, if_false] <;> omega
  · cases hi with
    | none => simp [sliceBounds, HT.sIx]
    | some i =>
      simp only [sliceBounds, HT.sIx, Option.getD_none, show (1 : Int) > 0 by decide, if_true]
      by_cases h : i < 0
      · simp only [h, if_true] <;> omega
      · simp only [h, if_false] <;> omega
theorem slicePick_cut (its : List Value) (lo hi : Option Int) : slicePick its.toArray lo hi none = ((its.drop (HT.sIx its.length 0 lo)).take (HT.sIx its.length its.length hi - HT.sIx its.length 0 lo)).toArray := by
  obtain ⟨h1, h2, h3⟩ := slice_bounds lo hi its.toArray.size
  unfold slicePick
  rw [h1, h2, h3]
  simp only [sliceRange_one, pick_run, List.size_toArray] <;> rfl
/-- xs[lo:hi] of a list: a new list -/
def rSlL (K : PySem.W.Frag) : V → Option Int → Option Int → Hp → VK → Prop := fun x lo hi H Q => ∃ a xs, x = .ref a ∧ SqL K H a xs ∧ ∀ p, H p = none → Q (.ref p) (upd H p (.lst (cutV xs lo hi)))
theorem sl_list : SlR X (rSlL X.K) := by
  intro pins s σ H x v vl vu lo hi sl Q I rx hs pl pu h
  obtain ⟨a, xs, rfl, hx, q⟩ := h
  cases rx
  obtain ⟨its, r, ht, hz⟩ := I.list hx
  have hlen := r.length
  refine ⟨"list", _, slot_list_getitem.lookup, ht.isList.typeIs, ?_⟩
  refine wpAny_getItem_list_slice ht.isList hs pl pu .none (by simp) ?_ (by rw [List.size_toArray] <;> omega)
  rw [slicePick_cut, ← hlen]
  refine ⟨.ref s.heap.objs.size, _, I.laid (t' := s.toks) (o := .lst (cutV xs lo hi)) (fun b ob q => Heap.get?_push_of_some _ q) (Nat.le_refl _) ?_, rfl, q _ (I.hok.fresh (Nat.le_refl _))⟩
  exact ⟨Nat.le_trans (cutV_length xs lo hi) hz, _, 0, (r.drop (HT.sIx xs.length 0 lo)).take (HT.sIx xs.length xs.length hi - HT.sIx xs.length 0 lo), Heap.get?_push_size _ rfl⟩

/-! ### in, not in: flat items -/
def flatV : V → Bool
  | .non => true
  | .bl _ => true
  | .int _ => true
  | .str _ => true
  | _ => false
/-- == of flat values -/
def eqV : V → V → Bool
  | .non, .non => true
  | .bl a, .bl b => a == b
  | .bl a, .int b => (if a then 1 else 0) == b
  | .int a, .bl b => a == (if b then 1 else 0)
  | .int a, .int b => a == b
  | .str a, .str b => a == b
  | _, _ => false
theorem eqAt_V {A : Around} {s : Shared} {y x : V} {u v : Value} (ry : RelV y u) (rx : RelV x v) (fy : flatV y = true) (fx : flatV x = true) : SeqAt.EqAt A s u v (eqV y x) := by
  cases y with
  | non =>
    cases ry
    cases x with
    | non => cases rx; exact SeqAt.EqAt.same _
    | bl b => cases rx; exact SeqAt.EqAt.none_bool b
    | int b => obtain ⟨t, rfl⟩ := rx; exact SeqAt.EqAt.none_int b t
    | str b => obtain ⟨t, rfl⟩ := rx; exact SeqAt.EqAt.none_str b t
    | _ => exact absurd (show false = true from fx) Bool.false_ne_true
  | bl a =>
    cases ry
    cases x with
    | non => cases rx; exact SeqAt.EqAt.bool_none a
    | bl b => cases rx; exact SeqAt.EqAt.bool_bool a b
    | int b => obtain ⟨t, rfl⟩ := rx; exact SeqAt.EqAt.bool_int a b t
    | str b => obtain ⟨t, rfl⟩ := rx; exact SeqAt.EqAt.bool_str a b t
    | _ => exact absurd (show false = true from fx) Bool.false_ne_true
  | int a =>
    obtain ⟨t', rfl⟩ := ry
    cases x with
    | non => cases rx; exact SeqAt.EqAt.int_none a t'
    | bl b => cases rx; exact SeqAt.EqAt.int_bool a t' b
    | int b => obtain ⟨t, rfl⟩ := rx; exact SeqAt.EqAt.int_int a t' b t
    | str b => obtain ⟨t, rfl⟩ := rx; exact SeqAt.EqAt.int_str a t' b t
    | _ => exact absurd (show false = true from fx) Bool.false_ne_true
  | str a =>
    obtain ⟨t', rfl⟩ := ry
    cases x with
    | non => cases rx; exact SeqAt.EqAt.str_none a t'
    | bl b => cases rx; exact SeqAt.EqAt.str_bool a t' b
    | int b => obtain ⟨t, rfl⟩ := rx; exact SeqAt.EqAt.str_int a t' b t
    | str b => obtain ⟨t, rfl⟩ := rx; exact SeqAt.EqAt.str_str a t' b t
    | _ => exact absurd (show false = true from fx) Bool.false_ne_true
  | _ => exact absurd (show false = true from fy) Bool.false_ne_true
/-- the items' answers, read off the values (a value's own answer does not lean on its token) -/
def eqU (x : V) (u : Value) : Bool := match u with
  | .none => eqV .non x
  | .bool b => eqV (.bl b) x
  | .int i _ => eqV (.int i) x
  | .str z _ => eqV (.str z) x
  | _ => false
theorem eqU_of {x y : V} {u : Value} (r : RelV y u) (f : flatV y = true) : eqU x u = eqV y x := by
  cases y with
  | non => cases r; rfl
  | bl b => cases r; rfl
  | int i => obtain ⟨t, rfl⟩ := r; rfl
  | str z => obtain ⟨t, rfl⟩ := r; rfl
  | _ => exact absurd (show false = true from f) Bool.false_ne_true
theorem any_eqU {x : V} : ∀ {xs : List V} {us : List Value}, Vals xs us → xs.all flatV = true → us.any (eqU x) = xs.any fun y => eqV y x
  | _, _, .nil, _ => rfl
  | y :: xs, u :: us, .cons r t, f => by
    rw [List.all_cons, Bool.and_eq_true] at f
    rw [List.any_cons, List.any_cons, eqU_of r f.1, any_eqU t f.2]
theorem mem_eqAt {A : Around} {s : Shared} {x : V} {v : Value} (rx : RelV x v) (fx : flatV x = true) : ∀ {xs : List V} {us : List Value}, Vals xs us → xs.all flatV = true → ∀ u ∈ us, SeqAt.EqAt A s u v (eqU x u)
  | _, _, .nil, _ => fun u hu => by cases hu
  | y :: xs, u :: us, .cons r t, f => fun u' hu => by
    rw [List.all_cons, Bool.and_eq_true] at f
    rcases List.mem_cons.mp hu with rfl | hu
    · rw [eqU_of r f.1]; exact eqAt_V r rx f.1 fx
    · exact mem_eqAt rx fx t f.2 u' hu
def inV (x : V) (xs : List V) : Bool := xs.any fun y => eqV y x
/-- x in a list or tuple of flat items -/
def rIn (K : PySem.W.Frag) (neg : Bool) : R2 := fun x y H Q => ∃ p xs, y = .ref p ∧ (SqL K H p xs ∨ SqT K H p xs) ∧ flatV x = true ∧ xs.all flatV = true ∧ Q (.bl (if neg then !inV x xs else inV x xs)) H
theorem op_in_seq : OpR X (compareOp .In) (rIn X.K false) := by
  intro pins s σ H x y v u Q I rx ry h
  obtain ⟨p, xs, rfl, hq, fx, fs, q⟩ := h
  cases ry
  rcases hq with hq | hq
  · obtain ⟨its, r, pl, hz⟩ := I.list hq
    refine SeqAt.in_listAt (eqU x) pl.isList (fun w hw => mem_eqAt rx fx r fs w (by simpa using hw)) ⟨.bl _, H, I, rfl, ?_⟩
    rw [show its.toArray.any (eqU x) = its.any (eqU x) by simp, any_eqU r fs]
    exact q
  · obtain ⟨its, r, pl, hz⟩ := I.tuple hq
    refine SeqAt.in_tupleAt (eqU x) pl (fun w hw => mem_eqAt rx fx r fs w (by simpa using hw)) ⟨.bl _, H, I, rfl, ?_⟩
    rw [show its.toArray.any (eqU x) = its.any (eqU x) by simp, any_eqU r fs]
    exact q
/-! ### len, list(x), tuple(x) of any list or tuple that is read -/
theorem call_len_seq : CallR X (.builtin "len") (fun xs H Q => ∃ p ys, xs = [.ref p] ∧ (SqL X.K H p ys ∨ SqT X.K H p ys) ∧ Q (.int ys.length) H) := by
  intro pins s σ H xs us Q I r h
  obtain ⟨p, ys, rfl, hq, q⟩ := h
  obtain ⟨u, rfl, rx⟩ := vals1 r
  cases rx
  have hn := line63
  rcases hq with hq | hq
  · obtain ⟨its, r', pl, hz⟩ := I.list hq
    have hlen := r'.length
    exact Calls.call_len_list pl.isList (by simp only [List.size_toArray] <;> omega) ⟨.int ys.length, H, I.tok _, ⟨s.toks + 1, by rw [List.size_toArray, hlen]⟩, q⟩
  · obtain ⟨its, r', pl, hz⟩ := I.tuple hq
    have hlen := r'.length
    exact len_tuple pl (by simp only [List.size_toArray] <;> omega) ⟨.int ys.length, H, I.tok _, ⟨s.toks + 1, by rw [List.size_toArray, hlen]⟩, q⟩
theorem CallR.or {f : Value} {r r' : List V → Hp → VK → Prop} (h : CallR X f r) (h' : CallR X f r') : CallR X f (fun xs H Q => r xs H Q ∨ r' xs H Q) := by
  intro pins s σ H xs us Q I rs q
  rcases q with q | q
  · exact h pins s σ H xs us Q I rs q
  · exact h' pins s σ H xs us Q I rs q
/-! ### the call of a builtin's method: o.m(..) -/
/-- the value is of that builtin type -/
def tyV (K : PySem.W.Frag) (T : String) (x : V) (H : Hp) : Prop := match x with
  | .str _ => T = "str"
  | .int _ => T = "int"
  | .ref p => (T = "list" ∧ ∃ xs, SqL K H p xs) ∨ (T = "tuple" ∧ ∃ o, K.lookup p = some o ∧ o.cls = .type "tuple" ∧ o.dict = none) ∨
      (T = "dict" ∧ ((∃ kvs, H p = some (.dK kvs)) ∨ ∃ kvs, H p = some (.dT kvs))) ∨ (T = "set" ∧ ∃ S n, H p = some (.set S n))
  | _ => False
theorem tyV_is {pins : List (Addr × Obj)} {σ : St} {H : Hp} {s : Shared} {T : String} {x : V} {v : Value} (I : Inv X pins σ H s) (r : RelV x v) (ty : tyV X.K T x H) :
    s.TypeIs v T ∧ ∀ a, v = .ref a → ∃ ob, s.heap.get? a = some ob ∧ ob.dict = none := by
  cases x with
  | str z =>
    obtain ⟨t, rfl⟩ := r
    cases (show T = "str" from ty)
    exact ⟨typeIs_str s z t, fun _ e => nomatch e⟩
  | int i =>
    obtain ⟨t, rfl⟩ := r
    cases (show T = "int" from ty)
    exact ⟨typeIs_int s i t, fun _ e => nomatch e⟩
  | ref p =>
    cases r
    rcases ty with ⟨rfl, xs, hq⟩ | ⟨rfl, o, hk, hc, hd⟩ | ⟨rfl, hk⟩ | ⟨rfl, S, n, hk⟩
    · obtain ⟨its, _, pl, _⟩ := I.list hq
      refine ⟨pl.isList.typeIs, fun a e => ?_⟩
      cases e
      obtain ⟨o, n, e, c, hd, _⟩ := pl
      exact ⟨o, e, hd⟩
    · refine ⟨⟨o, I.kIn p o hk, hc⟩, fun a e => ?_⟩
      cases e
      exact ⟨o, I.kIn _ o hk, hd⟩
    · have z : ∃ o, s.heap.get? p = some o ∧ o.ExactDict := by
        rcases hk with ⟨kvs, hk⟩ | ⟨kvs, hk⟩
        · obtain ⟨_, _, _, _, o, _, _, e, ex, _⟩ := I.hok p _ hk
          exact ⟨o, e, ex⟩
        · obtain ⟨_, _, _, _, o, _, _, e, ex, _⟩ := I.hok p _ hk
          exact ⟨o, e, ex⟩
      obtain ⟨o, e, ex⟩ := z
      refine ⟨⟨o, e, ex.1⟩, fun a e2 => ?_⟩
      cases e2
      exact ⟨o, e, ex.2.1⟩
    · obtain ⟨o, _, _, _, e, ex, _⟩ := I.hok p _ hk
      refine ⟨⟨o, e, ex.1⟩, fun a e2 => ?_⟩
      cases e2
      exact ⟨o, e, ex.2.1⟩
  | _ => exact False.elim ty
def tBM0 (K : PySem.W.Frag) (T : String) (r : V → List V → Hp → VK → Prop) (to : TE) : TE := fun σ H Q => to σ H fun x H1 => tyV K T x H1 ∧ r x [] H1 Q
def tBM (K : PySem.W.Frag) (T : String) (r : V → List V → Hp → VK → Prop) (to : TE) (t : TA) : TE := fun σ H Q => to σ H fun x H1 => tyV K T x H1 ∧ t σ H1 fun xs H2 => r x xs H2 Q
variable {o e : Expr} {es : List Expr} {to : TE} {t : TA} {name : Str} {apos cpos : Pos} {T id : String} {r : V → List V → Hp → VK → Prop}
theorem pe_bm0 (pa : PlainAttrs T) (slot : Slot T name id) (hty : typeOf (.builtin id) = pure (.type "method_descriptor")) (hm : MtR X id r) (ho : PE X o to)
    (hbase : attributeBase o name X.env (eval o X.env) = eval o X.env := by rfl) (hline : (apos.endLine == cpos.line) = true := by rfl) : PE X (.Call (.Attribute o name apos) [] [] cpos) (tBM0 X.K T r to) := by
  intro pins s σ H Q I h
  refine wpAny_Call_method0_late hbase hline (thn (ho pins s σ H _ I h) fun v s1 ⟨x, H1, I1, r1, ty, q1⟩ => ?_)
  obtain ⟨h1, h2⟩ := tyV_is I1 r1 ty
  exact ⟨T, id, pa, slot, hty, h1, h2, Calls.callWith_builtin rfl (PySem.evalArgs_none (hm pins s1 σ H1 x [] v [] Q I1 r1 .nil q1))⟩
theorem pe_bm (pa : PlainAttrs T) (slot : Slot T name id) (hty : typeOf (.builtin id) = pure (.type "method_descriptor")) (hm : MtR X id r) (ho : PE X o to) (ha : PA X (e :: es) t)
    (hbase : attributeBase o name X.env (eval o X.env) = eval o X.env := by rfl)
    (hfew : ((backTo cpos (starEach (e :: es) X.env)).all (fun x => !x.1) && (backToKw cpos (keywordEach [] X.env)).all (fun x => x.1.isSome)
      && decide ((e :: es).length + ([] : List Keyword).length + (if ([] : List Keyword).isEmpty then 0 else 1) < 30)) = true := by rfl)
    (hline : (apos.endLine == cpos.line) = true := by rfl) (hs : starEach (e :: es) X.env = (false, eval e X.env) :: starEach es X.env := by rfl) (hplain : (backTo cpos (starEach es X.env)).any (·.1) = false := by rfl) :
    PE X (.Call (.Attribute o name apos) (e :: es) [] cpos) (tBM X.K T r to t) := by
  intro pins s σ H Q I h
  refine wpAny_Call_method_late hbase hfew hline rfl (thn (ho pins s σ H _ I h) fun v s1 ⟨x, H1, I1, r1, ty, q1⟩ => ?_)
  obtain ⟨h1, h2⟩ := tyV_is I1 r1 ty
  refine ⟨T, id, pa, slot, hty, h1, h2, ?_⟩
  have hA := ha cpos pins s1 σ H1 _ I1 q1
  rw [hs] at hA ⊢
  refine Calls.callWith_builtin (by show (false || (backTo cpos (starEach es X.env)).any (·.1)) = false; rw [hplain] <;> rfl) (Calls.evalArgs_plain ?_)
  exact thn hA fun us s2 ⟨vs, H2, I2, r2, q2⟩ => hm pins s2 σ H2 x vs v us Q I2 r1 r2 q2
/- xs.append(e), list.index on a module's tuple .. are MtR facts of 06m -/
end
end L2

namespace L2
open PySem PySem.Spec PyProof.Rows

def MtM (X : Cx) (id : String) (r : V → List V → Hp → VK → Prop) : Prop :=
  ∀ (pins : List (Addr × Obj)) (s : Shared) (σ : St) (H : Hp) (x : V) (xs : List V) (v : Value) (us : List Value) (Q : VK), Inv X pins σ H s → RelV x v → Vals xs us → r x xs H Q →
    wpAny (model X.prog X.w) X.A (call (.builtin id) (v :: us)) (EP X pins σ Q) X.xe s

/-! ### lists of values -/
theorem Vals.one : ∀ {x : V} {us : List Value}, Vals [x] us → ∃ u, us = [u] ∧ RelV x u
  | _, _, .cons r .nil => ⟨_, rfl, r⟩
theorem Vals.two : ∀ {x y : V} {us : List Value}, Vals [x, y] us → ∃ u v, us = [u, v] ∧ RelV x u ∧ RelV y v
  | _, _, _, .cons r (.cons q .nil) => ⟨_, _, rfl, r, q⟩
theorem Vals.zero : ∀ {us : List Value}, Vals [] us → us = []
  | _, .nil => rfl
theorem Vals.dropLast {xs : List V} {us : List Value} (h : Vals xs us) : Vals xs.dropLast us.dropLast := by
  induction h with
  | nil => exact .nil
  | cons r t ih =>
    cases t with
    | nil => exact .nil
    | cons q t' => exact .cons r ih
theorem Vals.eraseIdx : ∀ {xs : List V} {us : List Value} (i : Nat), Vals xs us → Vals (xs.eraseIdx i) (us.eraseIdx i)
  | _, _, _, .nil => .nil
  | _, _, 0, .cons _ t => t
  | _, _, i + 1, .cons r t => .cons r (Vals.eraseIdx i t)
theorem Vals.reverse {xs : List V} {us : List Value} (h : Vals xs us) : Vals xs.reverse us.reverse := by
  induction h with
  | nil => exact .nil
  | cons r t ih => rw [List.reverse_cons, List.reverse_cons]; exact Vals.append ih (.cons r .nil)
theorem Vals.rep {xs : List V} {us : List Value} (h : Vals xs us) : ∀ k : Nat, Vals (List.replicate k xs).flatten (List.replicate k us).flatten
  | 0 => .nil
  | k + 1 => by
    rw [List.replicate_succ, List.replicate_succ, List.flatten_cons, List.flatten_cons]
    exact Vals.append h (Vals.rep h k)
theorem erase_last {α : Type} (l : List α) : l.eraseIdx (l.length - 1) = l.dropLast := by
  induction l with
  | nil => rfl
  | cons a r ih =>
    cases r with
    | nil => rfl
    | cons b r =>
      have e : (a :: b :: r).length - 1 = ((b :: r).length - 1) + 1 := by
        have h1 : (a :: b :: r).length = r.length + 2 := rfl
        have h2 : (b :: r).length = r.length + 1 := rfl
        omega
      rw [e, List.eraseIdx_cons_succ, ih]
      all_goals rfl
theorem foldl_rep (its : List Value) : ∀ (k : Nat) (acc : List Value),
    List.foldl (fun x1 x2 => x1 ++ x2) acc.toArray (List.replicate k its.toArray) = (acc ++ (List.replicate k its).flatten).toArray
  | 0, acc => by simp
  | k + 1, acc => by
    have e : acc.toArray ++ its.toArray = (acc ++ its).toArray := by simp
    have e2 : (acc ++ its) ++ (List.replicate k its).flatten = acc ++ (List.replicate (k + 1) its).flatten := by
      rw [List.replicate_succ, List.flatten_cons, List.append_assoc]
    rw [← e2, ← foldl_rep its k (acc ++ its), ← e, List.replicate_succ, List.foldl_cons]

section
variable {X : Cx} {pins : List (Addr × Obj)} {σ : St} {H : Hp} {s : Shared} {l b : Addr} {xs ys zs : List V}

/-! ### the two steps: a tracked list is rewritten, a new list is laid -/
theorem Inv.lset {its its' : List Value} {n : Nat} {f : Array Value → Array Value} {t' : Nat} (I : Inv X pins σ H s) (hH : H l = some (.lst xs))
    (e : s.heap.get? l = some { cls := .type "list", data := .seq its.toArray n }) (hf : f its.toArray = its'.toArray) (hv : Vals ys its') (hz : ys.length ≤ sizeLine) :
    Inv X pins σ (upd H l (.lst ys)) { s with heap := s.heap.update l (Obj.mapSeq f), toks := t' } := by
  have q := PySem.IsL.update e f
  rw [hf] at q
  refine I.write (x := l) (e := l) (by rw [hH]; exact trivial) (.inl rfl) (fun b' u hb hu => (Heap.get?_update_other s.heap (Obj.mapSeq f) (Ne.symm hb)).trans hu) ⟨_, q⟩ ?_
  exact ⟨hz, its', _, hv, q⟩
theorem Inv.lnew {its : List Value} {t' : Nat} (I : Inv X pins σ H s) (hv : Vals ys its) (hz : ys.length ≤ sizeLine) :
    Inv X pins σ (upd H s.heap.objs.size (.lst ys)) { s with heap := s.heap.push { cls := .type "list", data := .seq its.toArray }, toks := t' } :=
  I.laid (fun _ _ q => Heap.get?_push_of_some _ q) (Nat.le_refl _) ⟨hz, its, 0, hv, Heap.get?_push_size _ rfl⟩
theorem Inv.fresh (I : Inv X pins σ H s) : H s.heap.objs.size = none := I.hok.fresh (Nat.le_refl _)
theorem Inv.lstM (I : Inv X pins σ H s) (hH : H l = some (.lst xs)) : xs.length ≤ sizeLine ∧ ∃ (its : List Value) (n : Nat), Vals xs its ∧ xs.length = its.length ∧ s.heap.get? l = some { cls := .type "list", data := .seq its.toArray n } := by
  obtain ⟨z, its, n, r, e⟩ := I.hok l _ hH
  exact ⟨z, its, n, r, r.length, e⟩

theorem notLongL {n : Nat} (h : n ≤ sizeLine) : Builtin.List.listTooLong n = false := by
  unfold Builtin.List.listTooLong
  exact decide_eq_false (by omega)
end

section
variable {X : Cx}

/-! ### methods -/
def rAppend : V → List V → Hp → VK → Prop := fun x vs H Q => ∃ l xs y, x = .ref l ∧ vs = [y] ∧ H l = some (.lst xs) ∧ xs.length < sizeLine ∧ Q .non (upd H l (.lst (xs ++ [y])))
theorem mt_append : MtM X "list.append" rAppend := by
  intro pins s σ H x vs v us Q I rx rv h
  obtain ⟨l, xs, y, rfl, rfl, hH, hz, q⟩ := h
  cases rx
  obtain ⟨u, rfl, ru⟩ := rv.one
  obtain ⟨z, its, n, r, hl, e⟩ := I.lstM hH
  refine call_meets F.slot_list_append ⟨_, e, rfl⟩ F.entry_list_append (F.args_list_append_2 _ _) (PySem.list_append l its.toArray n u (by rw [List.size_toArray]; omega)) ⟨e, ?_⟩
  refine ⟨.non, _, I.lset (its' := its ++ [u]) hH e (by simp) (r.append (.cons ru .nil)) ?_, rfl, q⟩
  rw [List.length_append, List.length_singleton]
  omega

def rExtend : V → List V → Hp → VK → Prop := fun x vs H Q => ∃ l b xs zs, x = .ref l ∧ vs = [.ref b] ∧ H l = some (.lst xs) ∧ H b = some (.lst zs) ∧ xs.length + zs.length ≤ sizeLine ∧ Q .non (upd H l (.lst (xs ++ zs)))
theorem mt_extend : MtM X "list.extend" rExtend := by
  intro pins s σ H x vs v us Q I rx rv h
  obtain ⟨l, b, xs, zs, rfl, rfl, hH, hB, hz, q⟩ := h
  cases rx
  obtain ⟨u, rfl, ru⟩ := rv.one
  cases ru
  obtain ⟨z, its, n, r, hl, e⟩ := I.lstM hH
  obtain ⟨z2, its2, n2, r2, hl2, e2⟩ := I.lstM hB
  have hsz : its.toArray.size + its2.toArray.size ≤ sizeLine := by rw [List.size_toArray, List.size_toArray]; omega
  have hlong : ¬ (!its.toArray.isEmpty && Builtin.List.listTooLong (its.toArray.size + its2.toArray.size)) = true := by
    rw [notLongL hsz, Bool.and_false]
    exact Bool.false_ne_true
  refine call_meets F.slot_list_extend ⟨_, e, rfl⟩ F.entry_list_extend (F.args_list_extend_2 _ _)
    (AutoSeq1.list_extend_list_list_0 l its.toArray n b its2.toArray n2 hlong (by rw [List.size_toArray]; omega) (by omega)) ⟨e, e2, ?_⟩
  refine ⟨.non, _, I.lset (its' := its ++ its2) hH e (by simp) (r.append r2) ?_, rfl, q⟩
  rw [List.length_append]
  omega

def rPop : V → List V → Hp → VK → Prop := fun x vs H Q => ∃ l xs y, x = .ref l ∧ vs = [] ∧ H l = some (.lst xs) ∧ xs[xs.length - 1]? = some y ∧ Q y (upd H l (.lst xs.dropLast))
theorem mt_pop : MtM X "list.pop" rPop := by
  intro pins s σ H x vs v us Q I rx rv h
  obtain ⟨l, xs, y, rfl, rfl, hH, hy, q⟩ := h
  cases rx
  have hus := rv.zero
  subst hus
  obtain ⟨z, its, n, r, hl, e⟩ := I.lstM hH
  obtain ⟨u, hu, ru⟩ := r.get hy
  have hy' : its.toArray[its.toArray.size - 1]? = some u := by
    show its.toArray[its.length - 1]? = some u
    rw [← Array.getElem?_toList, ← hl]
    exact hu
  refine call_meets F.slot_list_pop ⟨_, e, rfl⟩ F.entry_list_pop (F.args_list_pop_1 _) (MeetsSeq.list_pop_last l its.toArray n u hy' (by rw [List.size_toArray]; omega)) ⟨e, ?_⟩
  refine ⟨y, _, I.lset (its' := its.dropLast) hH e ?_ r.dropLast ?_, ru, q⟩
  · show its.toArray.eraseIdxIfInBounds (its.toArray.size - 1) = its.dropLast.toArray
    rw [List.size_toArray, List.eraseIdxIfInBounds_toArray, erase_last]
  · rw [List.length_dropLast]
    omega

/-! ### list + list, list += list, list * int -/
def rCat : R2 := fun x y H Q => ∃ l b xs zs, x = .ref l ∧ y = .ref b ∧ H l = some (.lst xs) ∧ H b = some (.lst zs) ∧ xs.length + zs.length ≤ sizeLine ∧ ∀ p, H p = none → Q (.ref p) (upd H p (.lst (xs ++ zs)))
theorem op_cat : OpR X (binaryOp .Add) rCat := by
  intro pins s σ H x y v u Q I rx ry h
  obtain ⟨l, b, xs, zs, rfl, rfl, hH, hB, hz, q⟩ := h
  cases rx
  cases ry
  obtain ⟨z, its, n, r, hl, e⟩ := I.lstM hH
  obtain ⟨z2, its2, n2, r2, hl2, e2⟩ := I.lstM hB
  refine PySem.P.add_list e e2 ?_ (by rw [List.size_toArray, List.size_toArray]; omega)
  have ea : its.toArray ++ its2.toArray = (its ++ its2).toArray := by simp
  rw [ea]
  exact ⟨.ref _, _, I.lnew (t' := s.toks) (r.append r2) (by rw [List.length_append]; omega), rfl, q _ I.fresh⟩
/-- a list times an int (a negative one is nothing) -/
def rRep : R2 := fun x y H Q => ∃ l k xs, x = .ref l ∧ y = .int k ∧ H l = some (.lst xs) ∧ -(2 ^ 63) ≤ k ∧ k < 2 ^ 63 ∧ xs.length * k.toNat ≤ sizeLine ∧
  ∀ p, H p = none → Q (.ref p) (upd H p (.lst (List.replicate k.toNat xs).flatten))
theorem len_rep {α : Type} (xs : List α) (k : Nat) : (List.replicate k xs).flatten.length = k * xs.length := by
  induction k with
  | zero => simp
  | succ k ih => rw [List.replicate_succ, List.flatten_cons, List.length_append, ih, Nat.succ_mul, Nat.add_comm]
theorem op_rep : OpR X (binaryOp .Mult) rRep := by
  intro pins s σ H x y v u Q I rx ry h
  obtain ⟨l, k, xs, rfl, rfl, hH, h1, h2, hz, q⟩ := h
  cases rx
  obtain ⟨t, rfl⟩ := ry
  obtain ⟨z, its, n, r, hl, e⟩ := I.lstM hH
  have hlen : its.toArray.size * k.toNat ≤ sizeLine := by rw [List.size_toArray, ← hl]; exact hz
  have hcap : ¬ its.toArray.size * k.toNat > (2 ^ 63 - 1) / 8 := by
    have : (sizeLine : Nat) ≤ (2 ^ 63 - 1) / 8 := by decide
    omega
  have hfit : ¬ (!Builtin.List.listFitsIndex k) = true := by
    rw [fitsIndex_both h1 h2]
    exact Bool.false_ne_true
  have hlong : ¬ Builtin.List.listTooLong (its.toArray.size * k.toNat) = true := by
    rw [notLongL hlen]
    exact Bool.false_ne_true
  have hnew : List.foldl (fun x1 x2 => x1 ++ x2) #[] (List.replicate (if its.toArray.isEmpty = true then 0 else k.toNat) its.toArray) = (List.replicate k.toNat its).flatten.toArray := by
    have f0 : ∀ m : Nat, List.foldl (fun x1 x2 => x1 ++ x2) #[] (List.replicate m its.toArray) = (List.replicate m its).flatten.toArray := fun m => by
      have := foldl_rep its m []
      rw [List.nil_append] at this
      exact this
    rw [f0]
    cases its with
    | nil => simp
    | cons a r' => rw [if_neg (by simp)]
  refine wpAny_binaryOp_repeat_ref (T := "list") (U := "int") (by decide) ⟨_, e, rfl⟩ (fun s' => typeIs_int s' k t) noFill_list_mul F.fills_int_mul F.slot_int_rmul repeat_list F.slot_int_index.lookup
    (call_meets F.slot_int_rmul (typeIs_int s k t) F.entry_int_rmul (F.args_int_rmul_2 _ _) (int___rmul___int_list k t l its.toArray n)
      ⟨e, rfl, ⟨_, e, rfl⟩, call_meets F.slot_list_mul ⟨_, e, rfl⟩ F.entry_list_mul (F.args_list_mul_2 _ _) (AutoListH.list___mul___list_int_3 l its.toArray n k t hfit hcap hlong) ⟨e, ?_⟩⟩)
  rw [hnew]
  exact ⟨.ref _, _, I.lnew (t' := s.toks) (r.rep k.toNat) (by rw [len_rep, Nat.mul_comm]; exact hz), rfl, q _ I.fresh⟩

/-! ### del xs[i] -/
end

/-! ### xs[a:b] = ys -/
section
variable {prog : Program} {w : World} {A : Around} {E : Value → Shared → Prop} {s : Shared}
set_option maxRecDepth 100000 in
end

section
variable {X : Cx}
end
end L2

namespace L2
open PySem PySem.Spec PyProof.Rows

theorem Vals.ints : ∀ {ns : List Int} {us : List Value}, Vals (ns.map V.int) us → IntsAre us ns
  | [], us, h => by
    rw [List.map_nil] at h
    cases h
    exact IntsAre.nil
  | n :: ns, us, h => by
    rw [List.map_cons] at h
    cases h with
    | cons r t =>
      obtain ⟨k, rfl⟩ := r
      exact IntsAre.cons n k (Vals.ints t)
theorem vals_of_ints : ∀ {us : List Value} {ns : List Int}, IntsAre us ns → Vals (ns.map V.int) us
  | _, _, .nil => by rw [List.map_nil]; exact Paired.nil
  | _, _, .cons n t h => by rw [List.map_cons]; exact Paired.cons (show RelV (V.int n) (Value.int n t) from ⟨t, rfl⟩) (vals_of_ints h)
theorem Vals.strs : ∀ {xs : List Str} {us : List Value}, Vals (xs.map V.str) us → StrsAre us xs
  | [], us, h => by
    rw [List.map_nil] at h
    cases h
    exact StrsAre.nil
  | x :: xs, us, h => by
    rw [List.map_cons] at h
    cases h with
    | cons r t =>
      obtain ⟨k, rfl⟩ := r
      exact StrsAre.cons x k (Vals.strs t)
theorem Vals.bls : ∀ {bs : List Bool} {us : List Value}, Vals (bs.map V.bl) us → us = bs.map Value.bool
  | [], us, h => by
    rw [List.map_nil] at h
    cases h
    rfl
  | b :: bs, us, h => by
    rw [List.map_cons] at h
    cases h with
    | cons r t =>
      cases r
      rw [Vals.bls t, List.map_cons]
theorem Vals.ref1 {a : Addr} {us : List Value} (r : Vals [V.ref a] us) : us = [Value.ref a] := by
  cases r with
  | cons r t =>
    cases t
    cases r
    rfl
/-! ### the library's walks over a list of ints, kept objects alone -/
section
variable {prog : Program} {w : World} {A : Around} {E : Value → Shared → Prop} {s : Shared} {l : Addr} {its : List Value} {ns : List Int} {Q : Value → Shared → Prop}
end

/-! ### the calls, by values (CallR of 03t; MtR of 06l) -/
section
variable {X : Cx}
/-! sorted, sort (fewer than 64 items: the library's own bound) -/
end

/-! ### list.index, flat items -/
section
variable {X : Cx}
end

/-! ### type(x) of an own instance; is, is not of a module's class -/
section
variable {X : Cx}
end

/-! ### any(xs), all(xs) of a list of bools -/
theorem iter_any {prog : Program} {w : World} {A : Around} {E : Value → Shared → Prop} {s : Shared} {l : Addr} {items : Array Value} {Q : Value → Shared → Prop} (hl : s.heap.IsList l items)
    (h : ∀ s₂ : Shared, s₂ = { s with heap := s.heap.push { cls := .type "list_iterator", data := .fields #[.ref l, .int 0 0] } } →
      (s₂.heap.IsListIter s.heap.objs.size l 0 ∧ s₂.heap.IsList l items) → l ≠ s.heap.objs.size → Q (.ref s.heap.objs.size) s₂) : wpAny (model prog w) A (pyIter (.ref l)) Q E s := by
  have hlt : l < s.heap.objs.size := by obtain ⟨_, e, _⟩ := hl; exact Heap.lt_size e
  exact wpAny_pyIter_list hl (h _ rfl ⟨⟨_, Heap.get?_push_size _ rfl, rfl, rfl⟩, hl.push _⟩ (Nat.ne_of_lt hlt))
theorem truth_bools {prog : Program} {w : World} {A : Around} {bs : List Bool} {its : List Value} (e : its = bs.map Value.bool) :
    TruthOf prog w A (fun i v => its.toArray[i]? = some v) (fun i => bs.getD i false) := fun i v s Q E hv hq => by
  have hv' : its[i]? = some v := by simpa using hv
  rw [e, List.getElem?_map] at hv'
  obtain ⟨b, hb, rfl⟩ := Option.map_eq_some_iff.mp hv'
  have hg : bs.getD i false = b := by rw [List.getD_eq_getElem?_getD, hb] <;> rfl
  have hq' : Q (bs.getD i false) s := hq
  rw [hg] at hq'
  exact wpAny_truthy_bool hq'
theorem any_range : ∀ bs : List Bool, (List.range bs.length).any (fun i => bs.getD i false) = bs.any id
  | [] => rfl
  | b :: bs => by
    rw [List.length_cons, List.range_succ_eq_map, List.any_cons, List.any_map, List.any_cons, ← any_range bs]
    all_goals rfl
theorem all_range : ∀ bs : List Bool, (List.range bs.length).all (fun i => bs.getD i false) = bs.all id
  | [] => rfl
  | b :: bs => by
    rw [List.length_cons, List.range_succ_eq_map, List.all_cons, List.all_map, List.all_cons, ← all_range bs]
    all_goals rfl
section
variable {X : Cx}
def rAny (K : PySem.W.Frag) : List V → Hp → VK → Prop := fun vs H Q => ∃ (a : Addr) (bs : List Bool), vs = [V.ref a] ∧ SqL K H a (bs.map V.bl) ∧ Q (.bl (bs.any id)) H
def rAll (K : PySem.W.Frag) : List V → Hp → VK → Prop := fun vs H Q => ∃ (a : Addr) (bs : List Bool), vs = [V.ref a] ∧ SqL K H a (bs.map V.bl) ∧ Q (.bl (bs.all id)) H
theorem cr_any (hc : X.calm = true) : CallR X (.builtin "any") (rAny X.K) := by
  intro pins s σ H vs us Q I r h
  obtain ⟨a, bs, rfl, hs, q⟩ := h
  obtain ⟨its, rv, hl, _⟩ := I.list hs
  rw [Vals.ref1 r]
  have hb := rv.bls
  refine call_any_walk (iter_any hl.isList fun s₂ e2 st hne => ?_)
  subst e2
  refine ⟨_, _, _, _, _, _, _, rfl, Walks.list (A := X.A.in1) (I.ok.hd hc) _ a hne its.toArray, st, truth_bools hb, fun h' tk hk => ?_⟩
  refine ⟨.bl _, H, I.kept fun b o eo => hk b o (fun hmem => ?_) (Heap.get?_push_of_some _ eo), ?_, q⟩
  · rcases List.mem_cons.mp hmem with e1 | hmem
    · exact absurd (e1 ▸ Heap.lt_size eo) (Nat.lt_irrefl _)
    · cases hmem
  · show Value.bool _ = Value.bool _
    rw [← any_range, hb, List.size_toArray, List.length_map]
theorem cr_all (hc : X.calm = true) : CallR X (.builtin "all") (rAll X.K) := by
  intro pins s σ H vs us Q I r h
  obtain ⟨a, bs, rfl, hs, q⟩ := h
  obtain ⟨its, rv, hl, _⟩ := I.list hs
  rw [Vals.ref1 r]
  have hb := rv.bls
  refine call_all_walk (iter_any hl.isList fun s₂ e2 st hne => ?_)
  subst e2
  refine ⟨_, _, _, _, _, _, _, rfl, Walks.list (A := X.A.in1) (I.ok.hd hc) _ a hne its.toArray, st, truth_bools hb, fun h' tk hk => ?_⟩
  refine ⟨.bl _, H, I.kept fun b o eo => hk b o (fun hmem => ?_) (Heap.get?_push_of_some _ eo), ?_, q⟩
  · rcases List.mem_cons.mp hmem with e1 | hmem
    · exact absurd (e1 ▸ Heap.lt_size eo) (Nat.lt_irrefl _)
    · cases hmem
  · show Value.bool _ = Value.bool _
    rw [← all_range, hb, List.size_toArray, List.length_map]
end

/-! ### == and != of data at any depth: none, bools, ints, texts, lists, tuples -/
mutual
inductive Dp (K : PySem.W.Frag) (H : Hp) : V → PyData → Prop
  | non : Dp K H .non .none
  | bl (b : Bool) : Dp K H (.bl b) (.bool b)
  | int (i : Int) : Dp K H (.int i) (.int i)
  | str (x : Str) : Dp K H (.str x) (.str x)
  | lst {a : Addr} {xs : List V} {ds : List PyData} : SqL K H a xs → DpAll K H xs ds → Dp K H (.ref a) (.list ds)
  | tup {a : Addr} {xs : List V} {ds : List PyData} : SqT K H a xs → DpAll K H xs ds → Dp K H (.ref a) (.tuple ds)
inductive DpAll (K : PySem.W.Frag) (H : Hp) : List V → List PyData → Prop
  | nil : DpAll K H [] []
  | cons {v : V} {vs : List V} {d : PyData} {ds : List PyData} : Dp K H v d → DpAll K H vs ds → DpAll K H (v :: vs) (d :: ds)
end
section
variable {X : Cx} {pins : List (Addr × Obj)} {σ : St} {H : Hp} {s : Shared}
mutual
theorem Dp.reads (I : Inv X pins σ H s) : ∀ (d : PyData) (v : V) (u : Value), Dp X.K H v d → RelV v u → ∃ as, Reads s.heap u d as
  | .none, _, _, h, r => by
    cases h
    cases r
    exact ⟨_, Reads.none⟩
  | .bool b, _, _, h, r => by
    cases h
    cases r
    exact ⟨_, Reads.bool b⟩
  | .int i, _, _, h, r => by
    cases h
    obtain ⟨t, rfl⟩ := r
    exact ⟨_, Reads.int i t⟩
  | .str x, _, _, h, r => by
    cases h
    obtain ⟨t, rfl⟩ := r
    exact ⟨_, Reads.str x t⟩
  | .list ds, _, _, h, r => by
    cases h with
    | lst hs ha =>
      cases r
      obtain ⟨its, rv, ⟨o, n, ho, hc, _, hd⟩, _⟩ := I.list hs
      obtain ⟨as, hr⟩ := Dp.readsAll I ds _ its ha rv
      exact ⟨_, Reads.list ho hc hd hr⟩
  | .tuple ds, _, _, h, r => by
    cases h with
    | tup hs ha =>
      cases r
      obtain ⟨its, rv, ⟨o, ho, hc, n, hd⟩, _⟩ := I.tuple hs
      obtain ⟨as, hr⟩ := Dp.readsAll I ds _ its ha rv
      exact ⟨_, Reads.tuple ho hc hd hr⟩
  | .dict _, _, _, h, _ => by cases h
theorem Dp.readsAll (I : Inv X pins σ H s) : ∀ (ds : List PyData) (vs : List V) (us : List Value), DpAll X.K H vs ds → Vals vs us → ∃ as, ReadsAll s.heap us ds as
  | [], _, _, h, r => by
    cases h
    cases r
    exact ⟨_, ReadsAll.nil⟩
  | d :: ds, _, _, h, r => by
    cases h with
    | cons h1 h2 =>
      cases r with
      | cons r1 r2 =>
        obtain ⟨as, q1⟩ := Dp.reads I d _ _ h1 r1
        obtain ⟨bs, q2⟩ := Dp.readsAll I ds _ _ h2 r2
        exact ⟨_, ReadsAll.cons q1 q2⟩
end
end
section
variable {X : Cx}
def rNeD (K : PySem.W.Frag) : R2 := fun x y H Q => ∃ d e, Dp K H x d ∧ Dp K H y e ∧ SeqAt.shaped d = true ∧ SeqAt.shaped e = true ∧ Q (.bl (!PyData.eqv d e)) H
theorem op_neD (hu : X.A.units + 64 < cLine) : OpR X (compareOp .NotEq) (rNeD X.K) := by
  intro pins s σ H x y v u Q I rx ry h
  obtain ⟨d, e, hd, he, sd, se, q⟩ := h
  obtain ⟨as, r1⟩ := Dp.reads I d x v hd rx
  obtain ⟨bs, r2⟩ := Dp.reads I e y u he ry
  exact SeqAt.compareNe_shaped r1 r2 sd se hu ⟨.bl _, H, I, rfl, q⟩
end
end L2

namespace L2
open PySem PySem.Spec PyProof.Rows
abbrev CellAt (h : Heap) (c : Addr) (v : Option Value) : Prop := h.IsCell c v
def relS (scope sc : Scope) : Scope :=
  { scope with names := scope.names.map fun (n, k) => if (k == .free && sc.kind == .function && sc.names.lookup n == some .cell) then (n, .cell) else (n, k) }

def cloFrom (cells : List (Str × Addr)) : List (Str × NameKind) → List (Str × Addr) → List (Str × Addr)
  | [], acc => acc
  | (n, k) :: r, acc => if k == .free then cloFrom cells r ((n, (cells.lookup n).getD 0) :: acc) else cloFrom cells r acc

theorem closure_loop (env : Env) (f : Str × NameKind → List (Str × Addr) → Sem (ForInStep (List (Str × Addr))))
    (hf : ∀ n k c, f (n, k) c = if k == .free then (do let a ← cellOf env n; pure (.yield ((n, a) :: c))) else pure (.yield c)) :
    ∀ (names : List (Str × NameKind)) (acc : List (Str × Addr)), (∀ y ∈ names, y.2 = .free → ∃ c, env.cells.lookup y.1 = some c) → forIn names acc f = pure (cloFrom env.cells names acc)
  | [], acc, _ => by rw [List.forIn_nil]; rfl
  | (n, k) :: r, acc, h => by
    rw [List.forIn_cons, hf]
    have ih := fun acc => closure_loop env f hf r acc fun y hy => h y (List.mem_cons_of_mem _ hy)
    unfold cloFrom
    by_cases hk : (k == NameKind.free) = true
    · rw [if_pos hk, if_pos hk]
      obtain ⟨c, hc⟩ := h (n, k) List.mem_cons_self (by simpa using hk)
      have e : cellOf env n = pure c := by unfold cellOf; rw [hc]
      rw [e]
      have e2 : (env.cells.lookup n).getD 0 = c := by rw [hc]; rfl
      rw [e2]
      exact ih _
    · rw [if_neg hk, if_neg hk]
      exact ih _
theorem closure_ok {scope : Scope} {env : Env} (h : ∀ y ∈ scope.names, y.2 = .free → ∃ c, env.cells.lookup y.1 = some c) : closureFor scope env = pure (cloFrom env.cells scope.names []) := by
  simp only [closureFor]
  rw [closure_loop env _ (fun n k c => rfl) scope.names [] h]
  rfl

theorem mem_lookup {α : Type} : ∀ {l : List (Str × α)} {n : Str} {c : α}, (n, c) ∈ l → ∃ c', l.lookup n = some c'
  | (k, v) :: r, n, c, h => by
    rw [List.lookup_cons]
    cases hb : n == k with
    | true => exact ⟨_, rfl⟩
    | false =>
      rcases List.mem_cons.mp h with e | h
      · cases e; simp at hb
      · exact mem_lookup h

theorem cloFrom_mem {cells : List (Str × Addr)} : ∀ {names : List (Str × NameKind)} {acc : List (Str × Addr)} {n : Str} {c : Addr}, (n, c) ∈ cloFrom cells names acc → (n, c) ∈ acc ∨ ((n, .free) ∈ names ∧ c = (cells.lookup n).getD 0)
  | [], _, _, _, h => .inl h
  | (m, k) :: r, acc, n, c, h => by
    unfold cloFrom at h
    split at h
    · rename_i hk
      have hk : k = .free := by simpa using hk
      rcases cloFrom_mem h with h | ⟨h1, h2⟩
      · rcases List.mem_cons.mp h with e | h
        · cases e; exact .inr ⟨hk ▸ List.mem_cons_self, rfl⟩
        · exact .inl h
      · exact .inr ⟨List.mem_cons_of_mem _ h1, h2⟩
    · rcases cloFrom_mem h with h | ⟨h1, h2⟩
      · exact .inl h
      · exact .inr ⟨List.mem_cons_of_mem _ h1, h2⟩
theorem cloFrom_acc {cells : List (Str × Addr)} : ∀ {names : List (Str × NameKind)} {acc : List (Str × Addr)} {p : Str × Addr}, p ∈ acc → p ∈ cloFrom cells names acc
  | [], _, _, h => h
  | (m, k) :: r, acc, p, h => by
    unfold cloFrom
    split
    · exact cloFrom_acc (List.mem_cons_of_mem _ h)
    · exact cloFrom_acc h
theorem cloFrom_has {cells : List (Str × Addr)} : ∀ {names : List (Str × NameKind)} {acc : List (Str × Addr)} {n : Str}, (n, .free) ∈ names → (n, (cells.lookup n).getD 0) ∈ cloFrom cells names acc
  | (m, k) :: r, acc, n, h => by
    unfold cloFrom
    rcases List.mem_cons.mp h with e | h
    · cases e
      exact cloFrom_acc List.mem_cons_self
    · split
      · exact cloFrom_has h
      · exact cloFrom_has h

theorem cells_mem : ∀ {names : List (Str × NameKind)} {h : Heap} {acc : List (Str × Addr)} {x : Str} {c : Addr}, (x, c) ∈ cellsFrom h.objs.size names acc →
    (x, c) ∈ acc ∨ ((x, .cell) ∈ names ∧ h.objs.size ≤ c ∧ CellAt (pushCells h names) c none)
  | [], _, _, _, _, h => .inl h
  | (n, k) :: r, h, acc, x, c, hm => by
    unfold cellsFrom at hm
    unfold pushCells
    split at hm
    · rename_i hk
      rw [if_pos hk]
      have hk : k = .cell := by simpa using hk
      rw [← Heap.size_push h { cls := .type "cell", data := .cell none }] at hm
      rcases cells_mem hm with hm | ⟨h1, h2, h3⟩
      · rcases List.mem_cons.mp hm with e | hm
        · cases e
          exact .inr ⟨hk ▸ List.mem_cons_self, Nat.le_refl _, _, pushCells_keeps r _ _ _ (Heap.get?_push_size _ rfl), rfl⟩
        · exact .inl hm
      · rw [Heap.size_push] at h2
        exact .inr ⟨List.mem_cons_of_mem _ h1, Nat.le_of_succ_le h2, h3⟩
    · rename_i hk
      rw [if_neg hk]
      rcases cells_mem hm with hm | ⟨h1, h2, h3⟩
      · exact .inl hm
      · exact .inr ⟨List.mem_cons_of_mem _ h1, h2, h3⟩
theorem cells_acc : ∀ {names : List (Str × NameKind)} {n : Nat} {acc : List (Str × Addr)} {p : Str × Addr}, p ∈ acc → p ∈ cellsFrom n names acc
  | [], _, _, _, h => h
  | (m, k) :: r, n, acc, p, h => by
    unfold cellsFrom
    split
    · exact cells_acc (List.mem_cons_of_mem _ h)
    · exact cells_acc h
theorem cells_has : ∀ {names : List (Str × NameKind)} {n : Nat} {acc : List (Str × Addr)} {x : Str}, (x, .cell) ∈ names → ∃ c, (x, c) ∈ cellsFrom n names acc
  | (m, k) :: r, n, acc, x, h => by
    unfold cellsFrom
    rcases List.mem_cons.mp h with e | h
    · cases e
      exact ⟨n, cells_acc List.mem_cons_self⟩
    · split
      · exact cells_has h
      · exact cells_has h
theorem cells_inj : ∀ {names : List (Str × NameKind)} {h : Heap} {acc : List (Str × Addr)} {x y : Str} {c : Addr}, (∀ p ∈ acc, p.2 < h.objs.size) → (∀ x y c, (x, c) ∈ acc → (y, c) ∈ acc → x = y) →
    (x, c) ∈ cellsFrom h.objs.size names acc → (y, c) ∈ cellsFrom h.objs.size names acc → x = y
  | [], _, _, _, _, _, _, hi, h1, h2 => hi _ _ _ h1 h2
  | (n, k) :: r, h, acc, x, y, c, hl, hi, h1, h2 => by
    unfold cellsFrom at h1 h2
    split at h1
    · rename_i hk
      rw [if_pos hk] at h2
      rw [← Heap.size_push h { cls := .type "cell", data := .cell none }] at h1 h2
      refine cells_inj (h := h.push _) (fun p hp => ?_) (fun x y c a b => ?_) h1 h2
      · rw [Heap.size_push]
        rcases List.mem_cons.mp hp with rfl | hp
        · exact Nat.lt_succ_self _
        · exact Nat.lt_succ_of_lt (hl p hp)
      · rcases List.mem_cons.mp a with e | a <;> rcases List.mem_cons.mp b with e' | b
        · cases e; cases e'; rfl
        · cases e; exact absurd (hl _ b) (Nat.lt_irrefl _)
        · cases e'; exact absurd (hl _ a) (Nat.lt_irrefl _)
        · exact hi _ _ _ a b
    · rename_i hk
      rw [if_neg hk] at h2
      exact cells_inj hl hi h1 h2

theorem newEnv_comp {M : Model} {A : Around} {E : Value → Shared → Prop} {s : Shared} {scope : Scope} {globals : Addr} {closure : List (Str × Addr)} {qual : Str} {func : Option Addr} {code : Value} {around : Env} {builtins : Addr} {Q : Env → Shared → Prop}
    (h : Q (newEnv scope s.heap.objs.size globals (cellsFrom (s.heap.objs.size + 1) scope.names closure) qual func code (some around) builtins)
      { s with heap := pushCells (s.heap.push { cls := .type "dict", data := .dict #[] }) scope.names }) :
    wpAny M A (newFunctionEnv scope globals closure [] qual func code (some around) builtins) Q E s := by
  simp only [newFunctionEnv, Option.isSome_some, if_true]
  refine wpAny_bind (wpAny_alloc ?_)
  refine wpAny_bind (wpAny_layCells _ (fun n k c => rfl) scope.names closure _ _ ?_)
  rw [show ({ s with heap := s.heap.push { cls := .type "dict", data := .dict #[] } } : Shared).heap.objs.size = s.heap.objs.size + 1 from Heap.size_push ..]
  rw [List.forIn_nil]
  exact wpAny_bind (wpAny_pure (wpAny_pure h))

/-- every name of the written scope, in the scope that runs -/
theorem lookup_relS {sc : Scope} : ∀ {names : List (Str × NameKind)} {x : Str} {k : NameKind},
    (names.map fun (n, k) => if (k == NameKind.free && sc.kind == .function && sc.names.lookup n == some .cell) then (n, NameKind.cell) else (n, k)).lookup x = some k →
    ∃ k', names.lookup x = some k' ∧ (k = k' ∨ (k' = .free ∧ k = .cell))
  | [], _, _, h => by simp at h
  | (n, k₀) :: r, x, k, h => by
    have ih := @lookup_relS sc r x k
    have h' : List.lookup x ((if (k₀ == NameKind.free && sc.kind == .function && sc.names.lookup n == some .cell) = true then (n, NameKind.cell) else (n, k₀)) :: (r.map _)) = some k := h
    cases hx : x == n with
    | true =>
      simp only [List.lookup_cons, hx]
      by_cases hc : (k₀ == NameKind.free && sc.kind == .function && sc.names.lookup n == some .cell) = true
      · rw [if_pos hc] at h'
        simp only [List.lookup_cons, hx] at h'
        cases h'
        simp only [Bool.and_eq_true, beq_iff_eq] at hc
        exact ⟨k₀, rfl, .inr ⟨hc.1.1, rfl⟩⟩
      · rw [if_neg hc] at h'
        simp only [List.lookup_cons, hx] at h'
        cases h'
        exact ⟨_, rfl, .inl rfl⟩
    | false =>
      simp only [List.lookup_cons, hx]
      by_cases hc : (k₀ == NameKind.free && sc.kind == .function && sc.names.lookup n == some .cell) = true
      · rw [if_pos hc] at h'
        simp only [List.lookup_cons, hx] at h'
        exact ih h'
      · rw [if_neg hc] at h'
        simp only [List.lookup_cons, hx] at h'
        exact ih h'
/-- the names of a comprehension's block: its own (with their places in N), or captured -/
structure BlkOk (N : List Str) (sc scope : Scope) (own : List (Str × Nat)) : Prop where
  kind : scope.kind = .function
  uniq : ∀ y ∈ scope.names, scope.names.lookup y.1 = some y.2
  ix : ∀ p ∈ own, N[p.2]? = some p.1
  free : ∀ y ∈ scope.names, y.2 = .free → sc.names.lookup y.1 = some .cell ∨ sc.names.lookup y.1 = some .free
  own : ∀ y ∈ scope.names, y.2 = .local ∨ y.2 = .cell → y.1 ∈ own.map (·.1) ∨ y.1 ∉ N
/-- the slots of the block's own names forgotten -/
def wipe (σ : St) : List Nat → St
  | [] => σ
  | v :: vs => (wipe σ vs).set v none
theorem wipe_length (σ : St) : ∀ vs : List Nat, (wipe σ vs).length = σ.length
  | [] => rfl
  | v :: vs => by unfold wipe; rw [List.length_set, wipe_length σ vs]
theorem wipe_some {σ : St} {i : Nat} {x : V} : ∀ {vs : List Nat}, (wipe σ vs)[i]? = some (some x) → σ[i]? = some (some x) ∧ i ∉ vs
  | [], h => ⟨h, by simp⟩
  | v :: vs, h => by
    unfold wipe at h
    by_cases hi : v = i
    · subst hi
      by_cases hv : v < (wipe σ vs).length
      · rw [List.getElem?_set_self hv] at h; cases h
      · rw [List.getElem?_eq_none (by simpa using hv)] at h; cases h
    · rw [List.getElem?_set_ne hi] at h
      obtain ⟨h1, h2⟩ := wipe_some h
      exact ⟨h1, by simp only [List.mem_cons, not_or]; exact ⟨fun e => hi e.symm, h2⟩⟩

/-- the context of a block that starts at s, its iterator's objects at fp -/
abbrev Cx.blk (X : Cx) (s : Shared) (H : Hp) (scope : Scope) (cenv : Env) (fp : List Addr) : Cx := { X with s_0 := s, H_0 := H, env := cenv, outer := X.stack, ex := fp, fn := fun x => scope.names.lookup x == some .cell, pn := [], xe := fun _ _ => False }
section
variable {X : Cx} {pins : List (Addr × Obj)} {σ : St} {H : Hp} {s : Shared}
theorem block_start {scope : Scope} {own : List (Str × Nat)} {fp : List Addr} (I : Inv X pins σ H s) (ok : BlkOk X.N X.env.scope scope own) (hN : X.N.Nodup) (hfp : ∀ b ∈ fp, FpOk X pins H b ∧ b < s.heap.objs.size) :
    Inv (X.blk s H scope (compEnvC scope (cellsFrom (s.heap.objs.size + 1) scope.names (cloFrom X.env.cells scope.names [])) s.heap.objs.size X.env) fp) [] (wipe σ (own.map (·.2))) H { s with heap := pushCells (s.heap.push { cls := .type "dict", data := .dict #[] }) scope.names } := by
  have hfree : ∀ y ∈ scope.names, y.2 = .free → ∃ c, X.env.cells.lookup y.1 = some c := fun y hy e => by
    rcases ok.free y hy e with k | k
    · exact I.ok.has _ (.inl k)
    · exact I.ok.has _ (.inr k)
  generalize hcenv : compEnvC scope (cellsFrom (s.heap.objs.size + 1) scope.names (cloFrom X.env.cells scope.names [])) s.heap.objs.size X.env = cenv
  have kp : ∀ b o, s.heap.get? b = some o → (pushCells (s.heap.push { cls := .type "dict", data := .dict #[] }) scope.names).get? b = some o := fun b o e => pushCells_keeps _ _ _ _ (Heap.get?_push_of_some _ e)
  have hL : cenv.locals = s.heap.objs.size := by rw [← hcenv]; rfl
  have hcl : cenv.cells = cellsFrom (s.heap.objs.size + 1) scope.names (cloFrom X.env.cells scope.names []) := by rw [← hcenv]; rfl
  have hsc : cenv.scope = relS scope X.env.scope := by rw [← hcenv]; rfl
  rw [← Heap.size_push s.heap { cls := .type "dict", data := .dict #[] }] at hcl
  have cm : ∀ {y c}, (y, c) ∈ cloFrom X.env.cells scope.names [] → X.env.cells.lookup y = some c ∧ c < s.heap.objs.size := fun {y c} hm => by
    rcases cloFrom_mem hm with hm | ⟨h1, rfl⟩
    · cases hm
    · obtain ⟨c, hc⟩ := hfree _ h1 rfl
      rw [hc]
      obtain ⟨w, z⟩ := I.cell _ _ hc
      exact ⟨rfl, z.lt⟩
  have mem : ∀ {y c}, cenv.cells.lookup y = some c → (X.env.cells.lookup y = some c ∧ c < s.heap.objs.size) ∨ (s.heap.objs.size + 1 ≤ c ∧ CellAt (pushCells (s.heap.push { cls := .type "dict", data := .dict #[] }) scope.names) c none) := fun {y c} e => by
    rw [hcl] at e
    rcases cells_mem (PySem.mem_of_lookup e) with hm | ⟨_, h2, h3⟩
    · exact .inl (cm hm)
    · rw [Heap.size_push] at h2; exact .inr ⟨h2, h3⟩
  have look : ∀ {y}, scope.names.lookup y = some .free → ∃ c, cenv.cells.lookup y = some c ∧ X.env.cells.lookup y = some c := fun {y} hl => by
    have hy : (y, NameKind.free) ∈ scope.names := PySem.mem_of_lookup hl
    obtain ⟨c', e'⟩ := mem_lookup (cells_acc (names := scope.names) (n := (s.heap.push { cls := .type "dict", data := .dict #[] }).objs.size) (cloFrom_has (cells := X.env.cells) (acc := []) hy))
    rw [← hcl] at e'
    refine ⟨c', e', ?_⟩
    rw [hcl] at e'
    rcases cells_mem (PySem.mem_of_lookup e') with hm | ⟨h1, _, _⟩
    · exact (cm hm).1
    · have := ok.uniq _ h1
      rw [hl] at this; cases this
  have okB : (X.blk s H scope cenv fp).Ok := by
    refine ⟨I.ok.mod, by show cenv.scope.kind = _; rw [hsc]; exact ok.kind, by show cenv.globals = _; rw [← hcenv]; exact I.ok.glob, by show cenv.builtins = _; rw [← hcenv]; exact I.ok.blt, by show s.heap.objs.size ≤ cenv.locals; rw [hL]; exact Nat.le_refl _,
      fun y z c e1 e2 => ?_, fun y hy => ?_, fun y c z e => ?_, I.ok.hd, I.ok.frames, .inl rfl, fun b hb => ⟨?_, fun y c e z => ?_⟩, I.bs, Nat.le_trans I.ok.bsz I.sz, fun b o e hb => ?_, fun b hb z => ?_, I.stack, I.stkFree⟩
    · have e1 : cenv.cells.lookup y = some c := e1
      have e2 : cenv.cells.lookup z = some c := e2
      rw [hcl] at e1 e2
      refine cells_inj (fun p hp => ?_) (fun y z c a b => I.ok.inj y z c (cm a).1 (cm b).1) (PySem.mem_of_lookup e1) (PySem.mem_of_lookup e2)
      rw [Heap.size_push]
      exact Nat.lt_succ_of_lt (cm (y := p.1) (c := p.2) hp).2
    · show ∃ c, cenv.cells.lookup y = some c
      have key : ∀ k, cenv.kindOf y = some k → (k = .cell ∨ k = .free) → ∃ c, cenv.cells.lookup y = some c := fun k hk hk' => by
        unfold Env.kindOf at hk
        rw [hsc] at hk
        obtain ⟨k', e, r⟩ := lookup_relS hk
        have : k' = .cell ∨ k' = .free := by
          rcases r with rfl | ⟨rfl, _⟩
          · exact hk'
          · exact .inr rfl
        rcases this with rfl | rfl
        · obtain ⟨c, hm⟩ := cells_has (n := (s.heap.push { cls := .type "dict", data := .dict #[] }).objs.size) (acc := cloFrom X.env.cells scope.names []) (PySem.mem_of_lookup e)
          obtain ⟨c', e'⟩ := mem_lookup hm
          exact ⟨c', by rw [hcl]; exact e'⟩
        · obtain ⟨c, h1, _⟩ := look e
          exact ⟨c, h1⟩
      rcases hy with hy | hy
      · exact key _ hy (.inl rfl)
      · exact key _ hy (.inr rfl)
    · have z : (scope.names.lookup y == some NameKind.cell) = true := z
      have z : scope.names.lookup y = some .cell := by simpa using z
      have e : cenv.cells.lookup y = some c := e
      rw [hcl] at e
      rcases cells_mem (PySem.mem_of_lookup e) with hm | ⟨_, h2, _⟩
      · rcases cloFrom_mem hm with hm | ⟨h1, _⟩
        · cases hm
        · have q := ok.uniq _ h1
          rw [z] at q; cases q
      · rw [Heap.size_push] at h2
        exact Nat.le_of_succ_le h2
    · show b ≠ cenv.locals
      rw [hL]; exact Nat.ne_of_lt (hfp b hb).2
    · have e : cenv.cells.lookup y = some c := e
      rcases mem e with ⟨h1, _⟩ | ⟨h1, _⟩
      · exact (hfp b hb).1.2.2.2.2.1 y c h1 z
      · have h2 : s.heap.objs.size + 1 ≤ b := by rw [← z]; exact h1
        exact absurd (Nat.lt_of_lt_of_le (hfp b hb).2 (Nat.le_of_succ_le h2)) (Nat.lt_irrefl _)
    · rcases (hfp b hb).1.2.2.2.1 with z | z
      · exact I.ok.noex b o e z
      · exact absurd (Nat.lt_of_lt_of_le (Heap.lt_size e) (Nat.le_trans I.ok.bsz z)) (Nat.lt_irrefl _)
    · rcases List.mem_cons.mp (I.stkSub b z) with z | z
      · exact (hfp b hb).1.2.1 z
      · exact (hfp b hb).1.2.2.1 z
  refine ⟨okB, rfl, I.bare, Un.kept kp, ⟨fun _ => none, ?_, fun i y av e1 e2 e3 => ?_⟩, fun y c e => ?_, ?_, fun y c e => ?_, fun p hp => ?_, I.hok.kept kp, by rw [wipe_length]; exact I.len⟩
  · show Heap.Ns _ cenv.locals _
    rw [hL]
    exact Heap.Ns.keeps (Heap.Ns.new ..) fun b o e => pushCells_keeps _ _ _ _ e
  · obtain ⟨e2, hne⟩ := wipe_some e2
    have hfr : scope.names.lookup y = some .free ∧ (cenv.kindOf y = some .cell ∨ cenv.kindOf y = some .free) := by
      have key : ∀ k, cenv.scope.names.lookup y = some k → k = .local ∨ k = .cell ∨ k = .free → scope.names.lookup y = some .free ∧ (cenv.kindOf y = some .cell ∨ cenv.kindOf y = some .free) := fun k hk hk' => by
        have hk0 := hk
        rw [hsc] at hk
        obtain ⟨k', e, r⟩ := lookup_relS hk
        have no : ¬ (k' = .local ∨ k' = .cell) := fun hh => by
          rcases ok.own _ (PySem.mem_of_lookup e) hh with e' | e'
          · obtain ⟨p, hp, hpy⟩ := List.mem_map.mp e'
            have e3 := ok.ix p hp
            have : p.1 = y := hpy
            rw [this] at e3
            exact hne (List.mem_map.mpr ⟨p, hp, nodup_ix hN e3 e1⟩)
          · exact e' (List.mem_of_getElem? e1)
        rcases r with rfl | ⟨rfl, rfl⟩
        · rcases hk' with rfl | rfl | rfl
          · exact absurd (.inl rfl) no
          · exact absurd (.inr rfl) no
          · exact ⟨e, .inr hk0⟩
        · exact ⟨e, .inl hk0⟩
      have e3 : Vis cenv.scope y := e3
      rcases e3 with e3 | e3 | e3
      · exact key _ e3 (.inl rfl)
      · exact key _ e3 (.inr (.inl rfl))
      · exact key _ e3 (.inr (.inr rfl))
    obtain ⟨m, hn, hl⟩ := I.loc
    have hvis : Vis X.env.scope y := (ok.free _ (PySem.mem_of_lookup hfr.1) rfl).elim (fun k => .inr (.inl k)) (fun k => .inr (.inr k))
    obtain ⟨w, r, q⟩ := hl i y av e1 e2 hvis
    refine ⟨w, r, .inr ⟨hfr.2, ?_⟩⟩
    obtain ⟨c, h1, h2⟩ := look hfr.1
    rcases q with ⟨k, _⟩ | ⟨_, c', e', z⟩
    · have k : X.env.scope.names.lookup y = some .local := k
      rcases ok.free _ (PySem.mem_of_lookup hfr.1) rfl with k' | k' <;> rw [show X.env.scope.names.lookup y = _ from k'] at k <;> cases k
    · rw [h2] at e'; cases e'
      exact ⟨c, h1, z.keeps kp⟩
  · have e : cenv.cells.lookup y = some c := e
    rcases mem e with ⟨h1, _⟩ | ⟨_, z⟩
    · obtain ⟨w, z⟩ := I.cell y c h1
      exact ⟨w, z.keeps kp⟩
    · exact ⟨_, z⟩
  · show H cenv.locals = none
    rw [hL]; exact I.hok.fresh (Nat.le_refl _)
  · have e : cenv.cells.lookup y = some c := e
    rcases mem e with ⟨h1, _⟩ | ⟨h1, _⟩
    · exact I.freeC y c h1
    · exact I.hok.fresh (Nat.le_of_succ_le h1)
  · exact absurd (show p ∈ ([] : List (Addr × Obj)) ++ [] from hp) (by simp)

/-- an item appended to a tracked list -/
theorem app_ok {E : Value → Shared → Prop} {D : Addr} {xs : List V} {y : V} {v : Value} {Q : Value → Shared → Prop} (I : Inv X pins σ H s) (hD : H D = some (.lst xs)) (hz : xs.length < sizeLine) (r : RelV y v)
    (h : ∀ s', Inv X pins σ (upd H D (.lst (xs ++ [y]))) s' → Q .none s') : wpAny (model X.prog X.w) X.A (call (.builtin "list.append") [.ref D, v]) Q E s := by
  obtain ⟨hz', its, n, ri, e⟩ := I.hok D _ hD
  have hl := ri.length
  refine append_at (hsz := by rw [List.size_toArray]; omega) e fun h' sb ho' => ?_
  refine h { s with heap := h' } (I.write (t' := s.toks) (by rw [hD]; trivial) (.inl rfl) (fun b u hb q => (sb.2 b hb).trans q) ⟨_, ho'⟩ ⟨by rw [List.length_append]; exact hz, its ++ [v], n + 1, ri.append (.cons r .nil), ?_⟩)
  rw [ho']
  simp

/-- a clause's tests -/
def PTs (X : Cx) (ifs : List Expr) (t : TT) : Prop :=
  ∀ (pins : List (Addr × Obj)) (s : Shared) (σ : St) (H : Hp) (Q : Bool → Hp → Prop), Inv X pins σ H s → t σ H Q →
    wpAny (model X.prog X.w) X.A (forIn ifs true fun c r => if r = true then do let ok ← isTrue c X.env (eval c X.env); pure (ForInStep.yield ok) else pure (ForInStep.yield r)) (TP X pins σ Q) X.xe s
def tYes : TT := fun _ H Q => Q true H
theorem pts_nil : PTs X [] tYes := fun _ _ _ H _ I h => wpAny_tests_nil ⟨H, I, h⟩
end

theorem thnF {α : Type} {t : Sem α} {Q Q' : α → Shared → Prop} {M : Model} {A : Around} {E : Value → Shared → Prop} {s : Shared} (h : wpAny M A t Q (fun _ _ => False) s) (hQ : ∀ a s, Q a s → Q' a s) : wpAny M A t Q' E s := wpAny_mono h hQ fun _ _ z => False.elim z

/-- the loop of a list comprehension's block, the target of any form (codeAny_compLoop_tests asks a target that no tuple goes to; statement and proof follow it, PyProof/CompMap.lean:41-61, with the step letOwnedTupleGo kept) -/
theorem compLoop_any {prog : Program} {w : World} {A : Around} {R : Result → Shared → Prop} {s : Shared} {elt target iter : Expr} {ifs : List Expr} {scope : Scope} {pos : Pos} {it acc : Value} {env : Env} (I : Nat → Shared → Prop)
    (turn : ∀ n s, I n s → wpAny (model prog w) A (pyNext it) (fun r s₁ => match r with
      | none => R (.ok .next) s₁
      | some v => wpAny (model prog w) A (letOwnedTupleGo target it v) (fun _ s₁' => wpAny (model prog w) A (assign target env v) (fun _ s₂ =>
          wpAny (model prog w) A (forIn ifs true fun c r => if r = true then do let ok ← isTrue c env (eval c env); pure (ForInStep.yield ok) else pure (ForInStep.yield r)) (fun ok s₃ =>
            if ok = true then wpAny (model prog w) A (eval elt env) (fun x s₄ =>
              wpAny (model prog w) A (call (.builtin "list.append") [acc, x]) (fun _ s₅ => ∃ m, m < n ∧ I m s₅) (notedBy (model prog w) A env fun e s' => R (.error e) s') s₄) (notedBy (model prog w) A env fun e s' => R (.error e) s') s₃
            else ∃ m, m < n ∧ I m s₃) (notedBy (model prog w) A env fun e s' => R (.error e) s') s₂) (notedBy (model prog w) A env fun e s' => R (.error e) s') s₁') (notedBy (model prog w) A env fun e s' => R (.error e) s') s₁) (notedBy (model prog w) A env fun e s' => R (.error e) s') s)
    (n : Nat) (h : I n s) :
    codeAny (model prog w) A (.compLoop (.ListComp elt [⟨target, iter, ifs, 0⟩] scope pos) 0 it acc env) R s := by
  refine codeAny_loop rfl I (fun n s hI => ?_) n h
  show wpAny _ A ((compTurn (.ListComp elt [⟨target, iter, ifs, 0⟩] scope pos) 0 it acc env).onRaise (fun x => do noteFrame x env; theTreesLotGoes x)) _ _ s
  refine wpAny_noted ?_
  rw [compTurn_list]
  refine wpAny_bind (wpAny_standAt (wpAny_bind (wpAny_mono (turn n s hI) (fun r s₁ h₁ => ?_) fun _ _ h' => h')))
  cases r with
  | none => exact wpAny_pure h₁
  | some v =>
    refine wpAny_bind (wpAny_mono h₁ (fun _ s₁' h₁' => ?_) fun _ _ h' => h')
    refine wpAny_bind (wpAny_mono h₁' (fun _ s₂ h₂ => wpAny_bind (wpAny_mono h₂ (fun ok s₃ h₃ => ?_) fun _ _ h' => h')) fun _ _ h' => h')
    cases ok with
    | false => exact wpAny_pure ⟨rfl, h₃⟩
    | true =>
      exact wpAny_bind (wpAny_bind (wpAny_mono h₃ (fun x s₄ h₄ => wpAny_bind (wpAny_mono h₄ (fun _ s₅ h₅ => wpAny_pure (wpAny_pure ⟨rfl, h₅⟩)) fun _ _ h' => h')) fun _ _ h' => h'))

section
variable {X : Cx}
/-- [elt for target in iter if ..]: D the new list; W by the turn and a measure, Nx what a turn is to reach -/
def tLc (wi : TI) (g : TG) (tt : TT) (te : TE) (vs : List Nat) : TE := fun σ H Q => wi σ H fun J H1 => ∀ D, H1 D = none → ∃ W : Nat → Nat → Hp → Prop, (∃ m, W 0 m (upd H1 D (.lst []))) ∧ ∀ i m H, W i m H →
  (J.stop i H ∧ Q (.ref D) H) ∨ (J.go i H ∧ ∃ Nx : Hp → Prop, (∀ H', Nx H' → ∃ m', m' < m ∧ W (i + 1) m' H') ∧ ∀ x H', J.yld i H x H' → g x (wipe σ vs) H' fun σ2 H2 => wipe σ2 vs = wipe σ vs ∧ tt σ2 H2 fun b H3 =>
    if b = true then te σ2 H3 fun y H4 => ∃ acc, H4 D = some (.lst acc) ∧ acc.length < sizeLine ∧ Nx (upd H4 D (.lst (acc ++ [y]))) else Nx H3)
theorem lc_core {pins : List (Addr × Obj)} {s : Shared} {σ : St} {H : Hp} {Q : VK} {elt tg iter : Expr} {ifs : List Expr} {scope : Scope} {own : List (Str × Nat)} {pos pos' : Pos} {wi : TI} {g : TG} {tt : TT} {te : TE} {use : Option (Value → Sem Unit)} {Qf : Value → Shared → Prop}
    (hc : X.calm = true) (hN : X.N.Nodup) (I : Inv X pins σ H s) (hi : PI X tg iter wi) (ok : BlkOk X.N X.env.scope scope own)
    (hg : ∀ (s : Shared) (H : Hp) (C : Addr) (cl : List (Str × Addr)) (fp : List Addr), PG (X.blk s H scope (compEnvC scope cl C X.env) fp) tg g) (ht : ∀ (s : Shared) (H : Hp) (C : Addr) (cl : List (Str × Addr)) (fp : List Addr), PTs (X.blk s H scope (compEnvC scope cl C X.env) fp) ifs tt)
    (he : ∀ (s : Shared) (H : Hp) (C : Addr) (cl : List (Str × Addr)) (fp : List Addr), PE (X.blk s H scope (compEnvC scope cl C X.env) fp) elt te) (hs : ∀ x, foldedSetIterable iter X.env x = pure x)
    (h : tLc wi g tt te (own.map (·.2)) σ H Q)
    (hRR : ∀ D C s' m H', Inv X pins σ H' s' → Q (.ref D) H' → s'.heap.Ns C m → FpOk X pins H' C → compPost (model X.prog X.w) X.A X.xe use Qf (.ref D) C (.ok .next) s') :
    wpAny (model X.prog X.w) X.A (comprehension (.ListComp elt [⟨tg, iter, ifs, 0⟩] scope pos) scope X.env pos' (newList []) false (eval iter X.env) use) Qf X.xe s := by
  have hfree : ∀ y ∈ scope.names, y.2 = .free → ∃ c, X.env.cells.lookup y.1 = some c := fun y hy e => by
    rcases ok.free y hy e with k | k
    · exact I.ok.has _ (.inl k)
    · exact I.ok.has _ (.inr k)
  refine wpAny_comprehension_free (use := use) rfl hs (closure_ok hfree) ok.kind (fun y hy e => by rw [ok.uniq y hy, e])
    (thn (hi pins s σ H _ I h) fun xv s1 hx => thn hx fun itv s2 h2 => ?_)
  obtain ⟨it, fp, tn, J, H2, e, I2, T, st2, f2, q⟩ := h2
  subst e
  refine wpAny_newObj_type (newEnv_comp ?_) (by show 0 ≤ sizeLine; decide)
  generalize hD : s2.heap.objs.size = D
  have hDn : H2 D = none := I2.hok.fresh (Nat.le_of_eq hD)
  obtain ⟨W, ⟨m0, w0⟩, turn⟩ := q D hDn
  -- the new list
  generalize hs3 : ({ s2 with heap := s2.heap.push { cls := .type "list", data := .seq ([] : List Value).toArray } } : Shared) = s3
  have I3 : Inv X pins σ (upd H2 D (.lst [])) s3 := by
    rw [← hs3]
    refine I2.laid (t' := s2.toks) (fun b o e => Heap.get?_push_of_some _ e) (Nat.le_of_eq hD) ⟨Nat.zero_le _, [], 0, .nil, ?_⟩
    rw [← hD]
    exact Heap.get?_push_size _ rfl
  have h3 : s3.heap = s2.heap.push { cls := .type "list", data := .seq ([] : List Value).toArray } := by rw [← hs3]
  have sz : ∀ b ∈ fp, b < s2.heap.objs.size := fun b hb => by
    obtain ⟨o, e, _⟩ := T.obj _ _ st2 b hb
    exact Heap.lt_size e
  have f3 : ∀ b ∈ fp, FpOk X pins (upd H2 D (.lst [])) b ∧ b < s3.heap.objs.size := fun b hb => by
    have hlt := sz b hb
    refine ⟨⟨?_, (f2 b hb).2⟩, by rw [h3, Heap.size_push]; exact Nat.lt_succ_of_lt hlt⟩
    rw [upd_ne (by rw [← hD]; exact Nat.ne_of_lt hlt)]
    exact (f2 b hb).1
  have st3 : tn 0 s3.heap := T.keep _ _ _ st2 fun b _ o e => by rw [h3]; exact Heap.get?_push_of_some _ e
  have I4 := block_start I3 ok hN f3
  have pg := hg s3 (upd H2 D (.lst [])) s3.heap.objs.size (cellsFrom (s3.heap.objs.size + 1) scope.names (cloFrom X.env.cells scope.names [])) fp
  have pt := ht s3 (upd H2 D (.lst [])) s3.heap.objs.size (cellsFrom (s3.heap.objs.size + 1) scope.names (cloFrom X.env.cells scope.names [])) fp
  have pe := he s3 (upd H2 D (.lst [])) s3.heap.objs.size (cellsFrom (s3.heap.objs.size + 1) scope.names (cloFrom X.env.cells scope.names [])) fp
  show codeAny _ _ (.compStart (.ListComp elt [⟨tg, iter, ifs, 0⟩] scope pos) 0 (.ref it) (.ref D) (compEnvC scope (cellsFrom (s3.heap.objs.size + 1) scope.names (cloFrom X.env.cells scope.names [])) s3.heap.objs.size X.env)) (compPost (model X.prog X.w) X.A X.xe use Qf (.ref D) s3.heap.objs.size) { s3 with heap := pushCells (s3.heap.push { cls := .type "dict", data := .dict #[] }) scope.names }
  have nfp : ∀ b ∈ fp, (upd H2 D (.lst [])) b = none := fun b hb => (f3 b hb).1.1
  generalize hce : compEnvC scope (cellsFrom (s3.heap.objs.size + 1) scope.names (cloFrom X.env.cells scope.names [])) s3.heap.objs.size X.env = ce at I4 pg pt pe ⊢
  have cL : ce.locals = s3.heap.objs.size := by subst hce; rfl
  generalize hH3 : upd H2 D (.lst []) = H3 at I3 I4 pg pt pe w0 nfp f3
  generalize hs4 : ({ s3 with heap := pushCells (s3.heap.push { cls := .type "dict", data := .dict #[] }) scope.names } : Shared) = s4 at I4 ⊢
  have st4 : tn 0 s4.heap := T.keep _ _ _ st3 fun b _ o e => by rw [← hs4]; exact pushCells_keeps _ _ _ _ (Heap.get?_push_of_some _ e)
  have stat : ∀ {σ' : St} {H' : Hp} {s' : Shared}, Inv (X.blk s3 H3 scope ce fp) [] σ' H' s' → (∀ b ∈ fp, H' b = none) → ∀ b ∈ fp, FpOk (X.blk s3 H3 scope ce fp) [] H' b := fun {σ' H' s'} I' hn b hb =>
    ⟨hn b hb, (I'.ok.exf b hb).1, I'.ok.exfs b hb, .inl hb, fun x c e => (I'.ok.exf b hb).2 x c e, fun p hp => absurd (show p ∈ ([] : List (Addr × Obj)) ++ [] from hp) (by simp)⟩
  have loop : codeAny (model X.prog X.w) X.A (.compLoop (.ListComp elt [⟨tg, iter, ifs, 0⟩] scope pos) 0 (.ref it) (.ref D) ce) (compPost (model X.prog X.w) X.A X.xe use Qf (.ref D) s3.heap.objs.size) s4 := by
    refine compLoop_any (fun n s' => ∃ i H', Inv (X.blk s3 H3 scope ce fp) [] (wipe σ (own.map (·.2))) H' s' ∧ tn i s'.heap ∧ (∀ b ∈ fp, H' b = none) ∧ W i n H') ?_ m0 ⟨0, H3, I4, st4, nfp, w0⟩
    rintro n s5 ⟨i, H5, I5, st5, n5, w5⟩
    rcases turn i n H5 w5 with ⟨stop, qq⟩ | ⟨go, Nx, hNx, step⟩
    · have td := T.done (X.blk s3 H3 scope ce fp) rfl rfl rfl hc i [] s5 _ H5 (fun _ _ => False) I5 (stat I5 n5) st5 stop
      refine thnF td fun r s6 ⟨hr, I6⟩ => ?_
      subst hr
      -- back in the def's context
      have I7 : Inv X pins σ H5 s6 := I3.call' (ch := fp) I6.os I6.base I6.hok I6.bare fun b hb => ⟨(f3 b hb).1.2.2.2.1, (f3 b hb).1.2.1, (f3 b hb).1.2.2.2.2.1, (f3 b hb).1.2.2.2.2.2⟩
      have nC : H5 s3.heap.objs.size = none := by
        have z : H5 ce.locals = none := I6.free
        rw [cL] at z
        exact z
      obtain ⟨m, hn, _⟩ := I6.loc
      have hn : s6.heap.Ns ce.locals m := hn
      rw [cL] at hn
      exact hRR D s3.heap.objs.size s6 m H5 I7 qq hn (I3.fpOk (Nat.le_refl _) nC)
    · have ti := T.item (X.blk s3 H3 scope ce fp) rfl rfl rfl hc i [] s5 _ H5 (fun _ _ => False) I5 (stat I5 n5) st5 go
      refine thnF ti fun r s6 ⟨u, hr, h6⟩ => ?_
      subst hr
      refine thnF h6 fun _ s7 ⟨x, H7, I7, r7, y7, st7, n7⟩ => ?_
      have I7' := I7.pinned (stat I7 n7) (T.obj _ _ st7)
      refine thnF (pg _ s7 _ H7 x u _ I7' r7 (step x H7 y7)) fun _ s8 ⟨σ8, H8, I8, hw8, q8⟩ => ?_
      refine thnF (pt _ s8 σ8 H8 _ I8 q8) fun b s9 ⟨H9, I9, q9⟩ => ?_
      -- the turn's end
      have fin : ∀ {s' : Shared} {H' : Hp}, Inv (X.blk s3 H3 scope ce fp) ([] ++ pinsAt fp s7.heap) σ8 H' s' → Nx H' → ∃ m, m < n ∧ ∃ i H', Inv (X.blk s3 H3 scope ce fp) [] (wipe σ (own.map (·.2))) H' s' ∧ tn i s'.heap ∧ (∀ b ∈ fp, H' b = none) ∧ W i m H' := fun {s' H'} I' nx => by
        obtain ⟨m', hm, w'⟩ := hNx H' nx
        have pin' : ∀ b ∈ fp, ∀ o, s7.heap.get? b = some o → s'.heap.get? b = some o ∧ H' b = none := fun b hb o e =>
          let z := I'.pin (b, o) (List.mem_append_right _ (List.mem_append_right _ (mem_pinsAt hb e)))
          ⟨z.1, z.2.1⟩
        have hl : (wipe σ (own.map (·.2))).length = σ8.length := by rw [← hw8, wipe_length]
        refine ⟨m', hm, i + 1, H', (I'.unpinned (pins := [])).weak hl (fun j v e => ?_), T.keep _ _ _ st7 fun b hb o e => (pin' b hb o e).1, fun b hb => ?_, w'⟩
        · rw [← hw8] at e
          exact (wipe_some e).1
        · obtain ⟨o, e, _⟩ := T.obj _ _ st7 b hb
          exact (pin' b hb o e).2
      cases b with
      | false =>
        simp only [Bool.false_eq_true, if_false] at q9 ⊢
        exact fin I9 q9
      | true =>
        simp only [if_true] at q9 ⊢
        refine thnF (pe _ s9 σ8 H9 _ I9 q9) fun z s10 ⟨yv, H10, I10, r10, acc, hD10, hz10, nx⟩ => ?_
        exact app_ok (X := X.blk s3 H3 scope ce fp) I10 hD10 hz10 r10 fun s11 I11 => fin I11 nx
  exact codeAny_compStart_list loop (T.self X.A 0 _ _ _ st4 loop)
/-- as a value -/
theorem pe_lc {elt tg iter : Expr} {ifs : List Expr} {scope : Scope} {own : List (Str × Nat)} {pos : Pos} {wi : TI} {g : TG} {tt : TT} {te : TE} (hc : X.calm = true) (hN : X.N.Nodup) (hi : PI X tg iter wi) (ok : BlkOk X.N X.env.scope scope own)
    (hg : ∀ (s : Shared) (H : Hp) (C : Addr) (cl : List (Str × Addr)) (fp : List Addr), PG (X.blk s H scope (compEnvC scope cl C X.env) fp) tg g) (ht : ∀ (s : Shared) (H : Hp) (C : Addr) (cl : List (Str × Addr)) (fp : List Addr), PTs (X.blk s H scope (compEnvC scope cl C X.env) fp) ifs tt)
    (he : ∀ (s : Shared) (H : Hp) (C : Addr) (cl : List (Str × Addr)) (fp : List Addr), PE (X.blk s H scope (compEnvC scope cl C X.env) fp) elt te) (hs : ∀ x, foldedSetIterable iter X.env x = pure x := by intro _; rfl) :
    PE X (.ListComp elt [⟨tg, iter, ifs, 0⟩] scope pos) (tLc wi g tt te (own.map (·.2))) := by
  intro pins s σ H Q I h
  rw [eval_ListComp]
  refine lc_core hc hN I hi ok hg ht he hs h fun D C s' m H' I' q hn f => ⟨m, hn, fun h'' sb => ?_⟩
  obtain ⟨f0, f1, f2, f3, f4, f5⟩ := f
  exact ⟨.ref D, H', I'.turned (t' := s'.toks) (fun b o hb e => (sb.2 b hb).trans e) f0 f1 f3 f4 f5, rfl, q⟩
end

/-! ### the forms one uses -/
/-- over a list that the block leaves as it is -/
theorem lc_list {K : PySem.W.Frag} {a : Addr} {xs : List V} {g : TG} {tt : TT} {te : TE} {vs : List Nat} {σ : St} {H1 : Hp} {D : Addr} {Qd : Hp → Prop} (Pv : Nat → Hp → Prop) (h0 : Pv 0 (upd H1 D (.lst []))) (hl : ∀ i H, i ≤ xs.length → Pv i H → SqL K H a xs)
    (hs : ∀ i x H, xs[i]? = some x → Pv i H → g x (wipe σ vs) H fun σ2 H2 => wipe σ2 vs = wipe σ vs ∧ tt σ2 H2 fun b H3 =>
      if b = true then te σ2 H3 fun y H4 => ∃ acc, H4 D = some (.lst acc) ∧ acc.length < sizeLine ∧ Pv (i + 1) (upd H4 D (.lst (acc ++ [y]))) else Pv (i + 1) H3) (hd : ∀ H, Pv xs.length H → Qd H) :
    ∃ W : Nat → Nat → Hp → Prop, (∃ m, W 0 m (upd H1 D (.lst []))) ∧ ∀ i m H, W i m H →
      ((Itl K a).stop i H ∧ Qd H) ∨ ((Itl K a).go i H ∧ ∃ Nx : Hp → Prop, (∀ H', Nx H' → ∃ m', m' < m ∧ W (i + 1) m' H') ∧ ∀ x H', (Itl K a).yld i H x H' → g x (wipe σ vs) H' fun σ2 H2 => wipe σ2 vs = wipe σ vs ∧ tt σ2 H2 fun b H3 =>
        if b = true then te σ2 H3 fun y H4 => ∃ acc, H4 D = some (.lst acc) ∧ acc.length < sizeLine ∧ Nx (upd H4 D (.lst (acc ++ [y]))) else Nx H3) := by
  refine ⟨fun i m H => m = xs.length - i ∧ i ≤ xs.length ∧ Pv i H, ⟨xs.length, by simp, Nat.zero_le _, h0⟩, ?_⟩
  rintro i m H ⟨rfl, hi, p⟩
  have q := hl i H hi p
  by_cases hlt : i < xs.length
  · refine .inr ⟨⟨xs, xs[i], q, by simp [hlt]⟩, Pv (i + 1), fun H' p' => ⟨xs.length - (i + 1), by omega, rfl, hlt, p'⟩, fun x H' y => ?_⟩
    obtain ⟨e, y⟩ := y
    subst e
    exact hs i x _ (y xs q) p
  · have e : i = xs.length := by omega
    subst e
    exact .inl ⟨⟨xs, q, Nat.le_refl _⟩, hd H p⟩
end L2

namespace L2
open PySem PySem.Spec PyProof.Rows

section
variable {prog : Program} {w : World} {A : Around} {R : Result → Shared → Prop} {s : Shared} {elt t0 i0 t1 i1 : Expr} {ifs0 ifs1 : List Expr} {scope : Scope} {pos : Pos} {it acc : Value} {env : Env}
end

section
variable {X : Cx}
end
end L2

namespace L2
open PySem PySem.Spec PyProof.Rows

/-! ### lists of pairs as tables -/
section
variable {κ : Type} [DecidableEq κ]
def valV (kvs : List (κ × V)) (k : κ) : Option V := (kvs.find? fun kv => decide (kv.1 = k)).map (·.2)
/-- in its place, or at the end -/
def putK (kvs : List (κ × V)) (k : κ) (v : V) : List (κ × V) :=
  if (kvs.any fun kv => decide (kv.1 = k)) = true then kvs.map (fun kv => if kv.1 = k then (kv.1, v) else kv) else kvs ++ [(k, v)]
def dropK (kvs : List (κ × V)) (k : κ) : List (κ × V) := kvs.filter fun kv => decide (kv.1 ≠ k)

theorem valV_pos {p : κ × V} {r : List (κ × V)} {k : κ} (e : p.1 = k) : valV (p :: r) k = some p.2 := by simp [valV, List.find?_cons, e]
theorem valV_neg {p : κ × V} {r : List (κ × V)} {k : κ} (e : ¬ p.1 = k) : valV (p :: r) k = valV r k := by simp [valV, List.find?_cons, e]
theorem valV_any (k : κ) : ∀ kvs : List (κ × V), (kvs.any fun kv => decide (kv.1 = k)) = (valV kvs k).isSome
  | [] => rfl
  | p :: r => by
    rw [List.any_cons]
    by_cases e : p.1 = k
    · simp only [valV_pos e, decide_eq_true e, Bool.true_or, Option.isSome_some]
    · rw [valV_neg e, decide_eq_false e, Bool.false_or]; exact valV_any k r
theorem length_putK (kvs : List (κ × V)) (k : κ) (v : V) : (putK kvs k v).length ≤ kvs.length + 1 := by
  unfold putK
  split
  · rw [List.length_map]; omega
  · rw [List.length_append, List.length_cons, List.length_nil]; omega
theorem putK_new {kvs : List (κ × V)} {k : κ} (v : V) (h : valV kvs k = none) : putK kvs k v = kvs ++ [(k, v)] := by
  unfold putK
  rw [valV_any, h]
  exact if_neg (by decide)

theorem RelO.isSome_eq {o : Option V} {u : Option Value} (r : RelO o u) : o.isSome = u.isSome := by
  cases o with
  | none => cases u with
    | none => rfl
    | some _ => exact (show False from r).elim
  | some _ => cases u with
    | none => exact (show False from r).elim
    | some _ => rfl
theorem RelO.getD {o : Option V} {u : Option Value} {d : V} {d' : Value} (r : RelO o u) (rd : RelV d d') : RelV (o.getD d) (u.getD d') := by
  cases o with
  | none => cases u with
    | none => exact rd
    | some _ => exact (show False from r).elim
  | some _ => cases u with
    | none => exact (show False from r).elim
    | some _ => exact r

/-- raw tables of the same keys -/
theorem KV.val {kvs : List (κ × V)} {vs : List (κ × Value)} (r : KV kvs vs) (k : κ) : RelO (valV kvs k) (valueAt vs k) := by
  unfold KV at r
  induction r with
  | nil => exact True.intro
  | @cons p q ps qs h t ih =>
    obtain ⟨h1, h2⟩ := h
    by_cases e : p.1 = k
    · have e' : q.1 = k := h1.symm.trans e
      have b : valueAt (q :: qs) k = some q.2 := by simp [valueAt, List.find?_cons, e']
      rw [valV_pos e, b]; exact h2
    · have e' : ¬ q.1 = k := fun z => e (h1.trans z)
      have b : valueAt (q :: qs) k = valueAt qs k := by simp [valueAt, List.find?_cons, e']
      rw [valV_neg e, b]; exact ih
theorem KV.any {kvs : List (κ × V)} {vs : List (κ × Value)} (r : KV kvs vs) (k : κ) : (kvs.any fun kv => decide (kv.1 = k)) = vs.any fun kv => decide (kv.1 = k) := by
  unfold KV at r
  induction r with
  | nil => rfl
  | cons h t ih => rw [List.any_cons, List.any_cons, ih, h.1]
theorem KV.repl {kvs : List (κ × V)} {vs : List (κ × Value)} (r : KV kvs vs) (k : κ) {y : V} {u : Value} (ry : RelV y u) :
    KV (kvs.map fun kv => if kv.1 = k then (kv.1, y) else kv) (vs.map fun kv => if kv.1 = k then (kv.1, u) else kv) := by
  unfold KV at r ⊢
  induction r with
  | nil => exact .nil
  | @cons p q ps qs h t ih =>
    rw [List.map_cons, List.map_cons]
    refine .cons ?_ ih
    obtain ⟨h1, h2⟩ := h
    by_cases e : p.1 = k
    · rw [if_pos e, if_pos (h1.symm.trans e)]; exact ⟨h1, ry⟩
    · rw [if_neg e, if_neg (fun z => e (h1.trans z))]; exact ⟨h1, h2⟩
theorem KV.put {kvs : List (κ × V)} {vs : List (κ × Value)} (r : KV kvs vs) (k : κ) {y : V} {u : Value} (ry : RelV y u) : KV (putK kvs k y) (stored vs k u) := by
  unfold putK stored
  rw [r.any k]
  by_cases e : (vs.any fun kv => decide (kv.1 = k)) = true
  · rw [if_pos e, if_pos e]; exact r.repl k ry
  · rw [if_neg e, if_neg e]; exact Paired.snoc r ⟨rfl, ry⟩
theorem KV.drop {kvs : List (κ × V)} {vs : List (κ × Value)} (r : KV kvs vs) (k : κ) : KV (dropK kvs k) (without vs k) := by
  unfold KV at r ⊢
  unfold dropK without
  induction r with
  | nil => exact .nil
  | @cons p q ps qs h t ih =>
    obtain ⟨h1, h2⟩ := h
    rw [List.filter_cons, List.filter_cons]
    by_cases e : p.1 = k
    · have a : ¬ decide (p.1 ≠ k) = true := by simp [e]
      have b : ¬ decide (q.1 ≠ k) = true := by simp [h1.symm.trans e]
      rw [if_neg a, if_neg b]; exact ih
    · have e' : ¬ q.1 = k := fun z => e (h1.trans z)
      have a : decide (p.1 ≠ k) = true := by simp [e]
      have b : decide (q.1 ≠ k) = true := by simp [e']
      rw [if_pos a, if_pos b]; exact .cons ⟨h1, h2⟩ ih
theorem KV.keys {kvs : List (κ × V)} {vs : List (κ × Value)} (r : KV kvs vs) : kvs.map (·.1) = vs.map (·.1) := by
  unfold KV at r
  induction r with
  | nil => rfl
  | cons h t ih => rw [List.map_cons, List.map_cons, ih, h.1]
theorem KV.length {kvs : List (κ × V)} {vs : List (κ × Value)} (r : KV kvs vs) : kvs.length = vs.length := Paired.length r
end

/-! ### a tracked dict, its keys ints and texts or tuples of these -/
theorem kV_is {P : Program} {w : World} {k : Key} {u : Value} (r : RelV (kV k) u) : (mixKind P w).is k u = true := by
  cases k with
  | inl i => obtain ⟨t, e⟩ := (show ∃ t, u = Value.int i t from r); subst e; exact mixKind_int P w i t
  | inr x => obtain ⟨t, e⟩ := (show ∃ t, u = Value.str x t from r); subst e; exact mixKind_str P w x t
theorem items_are {P : Program} {w : World} : ∀ {ks : List Key} {us : List Value}, Vals (ks.map kV) us → ItemsAre (mixKind P w) ks us
  | [], _, r => by rw [List.map_nil] at r; cases r; exact .nil
  | k :: ks, _, r => by
    rw [List.map_cons] at r
    cases r with
    | cons h t => exact .cons (kV_is h) (items_are t)

/-- raw entries of a dict with tuple keys -/
abbrev KT (H : Hp) : List (List Key × V) → List (List Key × Addr × Value) → Prop := Paired fun p q => p.1 = q.1 ∧ H q.2.1 = some (.tup (p.1.map kV)) ∧ RelV p.2 q.2.2
theorem KT.val {H : Hp} {kvs : List (List Key × V)} {xs : List (List Key × Addr × Value)} (r : KT H kvs xs) (k : List Key) : RelO (valV kvs k) ((atKey xs k).map (·.2)) := by
  induction r with
  | nil => exact True.intro
  | @cons p q ps qs h t ih =>
    obtain ⟨h1, _, h2⟩ := h
    by_cases e : p.1 = k
    · have e' : q.1 = k := h1.symm.trans e
      have b : atKey (q :: qs) k = some q.2 := by simp [atKey, List.find?_cons, e']
      rw [valV_pos e, b]; exact h2
    · have e' : ¬ q.1 = k := fun z => e (h1.trans z)
      have b : atKey (q :: qs) k = atKey qs k := by simp [atKey, List.find?_cons, e']
      rw [valV_neg e, b]; exact ih
theorem KT.repl {H : Hp} {kvs : List (List Key × V)} {xs : List (List Key × Addr × Value)} (r : KT H kvs xs) (k : List Key) {y : V} {u : Value} (ry : RelV y u) :
    KT H (kvs.map fun kv => if kv.1 = k then (kv.1, y) else kv) (xs.map (putAt k u)) := by
  induction r with
  | nil => exact .nil
  | @cons p q ps qs h t ih =>
    rw [List.map_cons, List.map_cons]
    refine .cons ?_ ih
    obtain ⟨h1, h2, h3⟩ := h
    unfold putAt
    by_cases e : p.1 = k
    · rw [if_pos e, if_pos (h1.symm.trans e)]; exact ⟨h1, h2, ry⟩
    · rw [if_neg e, if_neg (fun z => e (h1.trans z))]; exact ⟨h1, h2, h3⟩
theorem KT.put {H : Hp} {kvs : List (List Key × V)} {xs : List (List Key × Addr × Value)} (r : KT H kvs xs) (k : List Key) {b : Addr} {y : V} {u : Value} (hb : H b = some (.tup (k.map kV))) (ry : RelV y u) :
    KT H (putK kvs k y) (storedH xs k b u) := by
  have e : (kvs.any fun kv => decide (kv.1 = k)) = (atKey xs k).isSome := by
    rw [valV_any, (r.val k).isSome_eq, Option.isSome_map]
  unfold putK storedH
  rw [e]
  by_cases q : (atKey xs k).isSome = true
  · rw [if_pos q, if_pos q]; exact r.repl k ry
  · rw [if_neg q, if_neg q]; exact Paired.snoc r ⟨rfl, hb, ry⟩
theorem KT.keeps {H H' : Hp} {kvs : List (List Key × V)} {xs : List (List Key × Addr × Value)} (r : KT H kvs xs) (ht : ∀ b ys, H b = some (.tup ys) → H' b = some (.tup ys)) : KT H' kvs xs :=
  Paired.mapP r fun _ _ z => ⟨z.1, ht _ _ z.2.1, z.2.2⟩

section
variable {P : Program} {w : World} {H : Hp} {h : Heap} {a : Addr}
theorem rd_of {u : HO} (ok : HOk P w H h) (e : Rd H a u) : ObjOk P w H h a u := e.ok ok
theorem dk_rd {kvs : List (Key × V)} (ok : HOk P w H h) (e : Rd H a (.dK kvs)) : kvs.length ≤ sizeLine ∧ (a == sysModules) = false ∧ ∃ vs, KV kvs vs ∧ h.DictOf (mixKind P w) a vs :=
  show ObjOk P w H h a (.dK kvs) from rd_of ok e
theorem dk_of {kvs : List (Key × V)} (ok : HOk P w H h) (e : H a = some (.dK kvs)) : kvs.length ≤ sizeLine ∧ (a == sysModules) = false ∧ ∃ vs, KV kvs vs ∧ h.DictOf (mixKind P w) a vs := dk_rd ok (.inl e)
/-- a tracked tuple of ints and texts is a key -/
theorem key_of {ks : List Key} (ok : HOk P w H h) (e : H a = some (.tup (ks.map kV))) : (tupleKind (mixKind P w)).is h ks a := by
  obtain ⟨_, its, r, o, h1, h2, n, h3⟩ := (show ObjOk P w H h a (.tup (ks.map kV)) from ok a _ e)
  exact ⟨o, its.toArray, n, h1, h2, h3, by simpa using items_are r⟩
theorem dt_rd {kvs : List (List Key × V)} (ok : HOk P w H h) (e : Rd H a (.dT kvs)) : kvs.length ≤ sizeLine ∧ (a == sysModules) = false ∧
    ∃ xs, KT H kvs xs ∧ h.DictOfH (tupleKind (mixKind P w)) a xs := by
  obtain ⟨z, y, xs, r, o, es, ep, h1, h2, h3, h4, h5⟩ := (show ObjOk P w H h a (.dT kvs) from rd_of ok e)
  refine ⟨z, y, xs, r, o, es, ep, h1, h2, h3, h4, fun x hx => ?_, h5⟩
  have all : ∀ {l : List (List Key × V)} {m : List (List Key × Addr × Value)}, KT H l m → ∀ x ∈ m, (tupleKind (mixKind P w)).is h x.1 x.2.1 := by
    intro l m q
    induction q with
    | nil => intro x hx; exact nomatch hx
    | @cons p q ps qs hq t ih =>
      intro x hx
      rcases List.mem_cons.mp hx with e | hx
      · subst e
        exact key_of ok (by rw [← hq.1]; exact hq.2.1)
      · exact ih x hx
  exact all r x hx
theorem dt_of {kvs : List (List Key × V)} (ok : HOk P w H h) (e : H a = some (.dT kvs)) : kvs.length ≤ sizeLine ∧ (a == sysModules) = false ∧
    ∃ xs, KT H kvs xs ∧ h.DictOfH (tupleKind (mixKind P w)) a xs := dt_rd ok (.inl e)
end

/-- what the dict at a holds at the key y -/
def DGet (H : Hp) (a : Addr) (y : V) (r : Option V) : Prop :=
  (∃ kvs k, Rd H a (.dK kvs) ∧ y = kV k ∧ r = valV kvs k) ∨ ∃ kvs k b, Rd H a (.dT kvs) ∧ y = .ref b ∧ H b = some (.tup (k.map kV)) ∧ r = valV kvs k
/-- the heap behind a[y] = v -/
def DPut (H : Hp) (a : Addr) (y v : V) (H' : Hp) : Prop :=
  (∃ kvs k, H a = some (.dK kvs) ∧ y = kV k ∧ kvs.length < sizeLine ∧ H' = upd H a (.dK (putK kvs k v))) ∨
  ∃ kvs k b, H a = some (.dT kvs) ∧ y = .ref b ∧ H b = some (.tup (k.map kV)) ∧ kvs.length < sizeLine ∧ H' = upd H a (.dT (putK kvs k v))
theorem DGet.k {H : Hp} {a : Addr} {kvs : List (Key × V)} {k : Key} (e : H a = some (.dK kvs)) : DGet H a (kV k) (valV kvs k) := .inl ⟨kvs, k, .inl e, rfl, rfl⟩
theorem DGet.t {H : Hp} {a b : Addr} {kvs : List (List Key × V)} {k : List Key} (e : H a = some (.dT kvs)) (eb : H b = some (.tup (k.map kV))) : DGet H a (.ref b) (valV kvs k) := .inr ⟨kvs, k, b, .inl e, rfl, eb, rfl⟩
theorem DPut.k {H : Hp} {a : Addr} {kvs : List (Key × V)} {k : Key} {v : V} (e : H a = some (.dK kvs)) (hl : kvs.length < sizeLine) : DPut H a (kV k) v (upd H a (.dK (putK kvs k v))) := .inl ⟨kvs, k, e, rfl, hl, rfl⟩
theorem DPut.t {H : Hp} {a b : Addr} {kvs : List (List Key × V)} {k : List Key} {v : V} (e : H a = some (.dT kvs)) (eb : H b = some (.tup (k.map kV))) (hl : kvs.length < sizeLine) :
    DPut H a (.ref b) v (upd H a (.dT (putK kvs k v))) := .inr ⟨kvs, k, b, e, rfl, eb, hl, rfl⟩

section
variable {X : Cx} {pins : List (Addr × Obj)} {σ : St} {H : Hp} {s : Shared} {a : Addr} {y v : V} {u r : Value} {o : Option V} {A : Around} {E : Value → Shared → Prop}

theorem Inv.big (I : Inv X pins σ H s) : sysModules < s.heap.objs.size := by
  have h : mainGlobals < s.heap.objs.size := (I.mod.glob.keeps I.bk).lt
  exact Nat.lt_trans (by decide) h

/-- d[y], there -/
theorem d_getItem {Q : Value → Shared → Prop} (hu : A.units + 1 < cLine) (I : Inv X pins σ H s) (g : DGet H a y (some v)) (ry : RelV y u) (h : ∀ w' s', Inv X pins σ H s' → RelV v w' → Q w' s') :
    wpAny (model X.prog X.w) A (getItem (.ref a) u) Q E s := by
  rcases g with ⟨kvs, k, e, ey, l⟩ | ⟨kvs, k, b, e, ey, eb, l⟩
  · subst ey
    obtain ⟨z, hd, vs, rel, dd⟩ := dk_rd I.hok e
    obtain ⟨w', hw, rw'⟩ := RelO.some_of (v := v) (o := valueAt vs k) (by rw [l]; exact rel.val k)
    exact wpAny_getItem_of (kV_is ry) dd.mapOf hw (h w' _ (I.tok _) rw')
  · subst ey
    cases (show u = Value.ref b from ry)
    obtain ⟨z, hd, xs, rel, dd⟩ := dt_rd I.hok e
    obtain ⟨w', hw, rw'⟩ := RelO.some_of (v := v) (o := (atKey xs k).map (·.2)) (by rw [l]; exact rel.val k)
    obtain ⟨p, hp, hp2⟩ := Option.map_eq_some_iff.mp hw
    refine wpAny_getItem_heap (tupleKind_room_in1 hu) (key_of I.hok eb) dd hp ?_
    rw [hp2]
    exact h w' _ (I.tok _) rw'
/-- y in d -/
theorem d_in {Q : Value → Shared → Prop} (hu : A.units + 1 < cLine) (I : Inv X pins σ H s) (g : DGet H a y o) (ry : RelV y u) (h : ∀ s', Inv X pins σ H s' → Q (.bool o.isSome) s') :
    wpAny (model X.prog X.w) A (compareOp .In u (.ref a)) Q E s := by
  rcases g with ⟨kvs, k, e, ey, l⟩ | ⟨kvs, k, b, e, ey, eb, l⟩
  · subst ey
    obtain ⟨z, hd, vs, rel, dd⟩ := dk_rd I.hok e
    refine wpAny_in_of (kV_is ry) hd dd.mapOf ?_
    rw [← (rel.val k).isSome_eq, ← l]
    exact h _ (I.tok _)
  · subst ey
    cases (show u = Value.ref b from ry)
    obtain ⟨z, hd, xs, rel, dd⟩ := dt_rd I.hok e
    refine wpAny_in_heap (tupleKind_room_in1 hu) (key_of I.hok eb) hd dd ?_
    have q := (rel.val k).isSome_eq
    rw [Option.isSome_map] at q
    rw [← q, ← l]
    exact h _ (I.tok _)
theorem d_notIn {Q : Value → Shared → Prop} (hu : A.units + 1 < cLine) (I : Inv X pins σ H s) (g : DGet H a y o) (ry : RelV y u) (h : ∀ s', Inv X pins σ H s' → Q (.bool (!o.isSome)) s') :
    wpAny (model X.prog X.w) A (compareOp .NotIn u (.ref a)) Q E s := by
  rcases g with ⟨kvs, k, e, ey, l⟩ | ⟨kvs, k, b, e, ey, eb, l⟩
  · subst ey
    obtain ⟨z, hd, vs, rel, dd⟩ := dk_rd I.hok e
    refine wpAny_notIn_of (kV_is ry) hd dd.mapOf ?_
    rw [← (rel.val k).isSome_eq, ← l]
    exact h _ (I.tok _)
  · subst ey
    cases (show u = Value.ref b from ry)
    obtain ⟨z, hd, xs, rel, dd⟩ := dt_rd I.hok e
    refine wpAny_notIn_heap (tupleKind_room_in1 hu) (key_of I.hok eb) hd dd ?_
    have q := (rel.val k).isSome_eq
    rw [Option.isSome_map] at q
    rw [← q, ← l]
    exact h _ (I.tok _)
/-- a dict's object is replaced -/
theorem d_write {h' : Heap} {t' : Nat} {ob : HO} (I : Inv X pins σ H s) (mu : Mut (H a)) (hs : Heap.SameBut a s.heap h') (he : ∃ q, h'.get? a = some q) (new : ObjOk X.prog X.w (upd H a ob) h' a ob) :
    Inv X pins σ (upd H a ob) { s with heap := h', toks := t' } :=
  I.write (x := a) (e := a) mu (.inl rfl) (fun b q hb z => (hs.2 b hb).trans z) he new
theorem dk_new {P : Program} {w : World} {H' : Hp} {h' : Heap} {kvs : List (Key × V)} {vs : List (Key × Value)} (z : kvs.length ≤ sizeLine) (hd : (a == sysModules) = false) (rel : KV kvs vs) (dd : h'.DictOf (mixKind P w) a vs) :
    ObjOk P w H' h' a (.dK kvs) := ⟨z, hd, vs, rel, dd⟩
/-- d[y] = v -/
theorem d_setItem {H' : Hp} {Q : Unit → Shared → Prop} (hu : A.units + 1 < cLine) (I : Inv X pins σ H s) (g : DPut H a y v H') (ry : RelV y u) (rv : RelV v r) (h : ∀ s', Inv X pins σ H' s' → Q () s') :
    wpAny (model X.prog X.w) A (setItem (.ref a) u r) Q E s := by
  rcases g with ⟨kvs, k, e, ey, l, eH⟩ | ⟨kvs, k, b, e, ey, eb, l, eH⟩
  · subst ey eH
    obtain ⟨z, hd, vs, rel, dd⟩ := dk_of I.hok e
    have hz : vs.length ≤ sizeLine := by rw [← rel.length]; exact z
    have hl : (putK kvs k v).length ≤ sizeLine := by have := length_putK kvs k v; omega
    refine wpAny_setItem_pairs (hsz := hz) (kV_is ry) dd fun h' dd' hs => h _ ?_
    have he : ∃ q, h'.get? a = some q := let ⟨q, _, _, hq, _⟩ := dd'; ⟨q, hq⟩
    exact d_write I (by rw [e]; exact True.intro) hs he (dk_new hl hd (rel.put k rv) dd')
  · subst ey eH
    cases (show u = Value.ref b from ry)
    obtain ⟨z, hd, xs, rel, dd⟩ := dt_of I.hok e
    have hz : xs.length ≤ sizeLine := by rw [← Paired.length rel]; exact z
    have hl : (putK kvs k v).length ≤ sizeLine := by have := length_putK kvs k v; omega
    refine wpAny_setItem_heap (hsz := hz) (tupleKind_room_in1 hu) (key_of I.hok eb) dd fun h' dd' hs => h _ ?_
    obtain ⟨q, es, ep, hq, h2, h3, h4, _, h5⟩ := dd'
    refine d_write I (by rw [e]; exact True.intro) hs ⟨q, hq⟩ ⟨hl, hd, _, (rel.put k eb rv).keeps fun c ys ec => ?_, q, es, ep, hq, h2, h3, h4, h5⟩
    rw [upd_ne (ne_of ec e (fun z => nomatch z))]
    exact ec
end

section
variable {X : Cx} {pins : List (Addr × Obj)} {σ : St} {H : Hp} {s : Shared} {a : Addr} {kvs : List (Key × V)} {k : Key} {u : Value} {A : Around} {E : Value → Shared → Prop}
/-- len(d) -/
theorem d_len {Q : Value → Shared → Prop} (I : Inv X pins σ H s) (e : Rd H a (.dK kvs)) (h : ∀ t s', Inv X pins σ H s' → Q (.int kvs.length t) s') : wpAny (model X.prog X.w) A (call (.builtin "len") [.ref a]) Q E s := by
  obtain ⟨z, hd, vs, rel, dd⟩ := dk_rd I.hok e
  refine call_len_dict hd dd (by rw [← rel.length]; rw [sizeLine_eq] at z; omega) ?_
  rw [← rel.length]
  exact h _ _ (I.tok _)
end

/-! ### readings and rules -/
/-- the element of a subscription, not a slice -/
def NoSl (i : Expr) : Prop := ∀ ov iv, subscripted i false ov iv = operate [ov, iv] (getItem ov iv)
theorem subD_of {prog : Program} {w : World} {A : Around} {E : Value → Shared → Prop} {s : Shared} {env : Env} {value slice : Expr} {pos : Pos} {T id : String} {Q : Value → Shared → Prop}
    (hl : typeLookup (.type T) "__getitem__" = pure (some (.builtin id))) (hs : NoSl slice)
    (h : wpAny (model prog w) A (eval value env) (fun o s₁ => wpAny (model prog w) A (eval slice env) (fun i s₂ => s₂.TypeIs o T ∧ wpAny (model prog w) A (getItem o i) Q E s₂) E s₁) E s) :
    wpAny (model prog w) A (eval (.Subscript value slice pos) env) Q E s := by
  refine Subscript_ (wpAny_mono h (fun o s₁ h₁ => wpAny_mono h₁ (fun i s₂ h₂ => ?_) fun _ _ x => x) fun _ _ x => x)
  obtain ⟨hT, h₂⟩ := h₂
  unfold subscriptTail
  refine wpAny_bind ?_
  rw [getitemInPython_of_ne hT.not_modules]
  refine wpAny_bind (wpAny_specialOf hT hl ?_)
  have fin : wpAny (model prog w) A (subscripted slice false o i) (fun r s₃ => wpAny (model prog w) A (letTemporaryGo value o r >>= fun _ => pure r) Q E s₃) E s₂ := by
    rw [hs o i]
    exact wpAny_operating (wpAny_mono h₂ (fun r s₃ h₃ => wpAny_bind (wpAny_letTemporaryGo (wpAny_pure h₃))) fun _ _ x => x)
  first
    | exact wpAny_pure (wpAny_bind fin)
    | exact wpAny_bind (wpAny_pure (wpAny_bind fin))
    | exact wpAny_bind fin

theorem dict_typeIs {X : Cx} {pins : List (Addr × Obj)} {σ : St} {H : Hp} {s : Shared} {a : Addr} {y : V} {o : Option V} (I : Inv X pins σ H s) (g : DGet H a y o) : s.TypeIs (.ref a) "dict" := by
  rcases g with ⟨kvs, k, e, _, _⟩ | ⟨kvs, k, b, e, _, _, _⟩
  · obtain ⟨_, _, vs, _, dd⟩ := dk_rd I.hok e
    exact dd.typeIs
  · obtain ⟨_, _, xs, _, dd⟩ := dt_rd I.hok e
    exact dd.typeIs
/-- d[y] -/
def tDGet (td ty : TE) : TE := fun σ H Q => td σ H fun x H1 => ty σ H1 fun y H2 => ∃ a v, x = .ref a ∧ DGet H2 a y (some v) ∧ Q v H2
/-- y in d, y not in d -/
def tDIn (ty td : TE) : TE := fun σ H Q => ty σ H fun y H1 => td σ H1 fun x H2 => ∃ a o, x = .ref a ∧ DGet H2 a y o ∧ Q (.bl o.isSome) H2
def tDNotIn (ty td : TE) : TE := fun σ H Q => ty σ H fun y H1 => td σ H1 fun x H2 => ∃ a o, x = .ref a ∧ DGet H2 a y o ∧ Q (.bl (!o.isSome)) H2
/-- d[y] = v -/
def sDPut (td ty tv : TE) : TS := fun D σ H => tv σ H fun v H1 => td σ H1 fun x H2 => ty σ H2 fun y H3 => ∃ a H4, x = .ref a ∧ DPut H3 a y v H4 ∧ D.nx σ H4
section
variable {X : Cx} {o i e value : Expr} {pos pos' tpos : Pos} {td ty tv : TE}
theorem pe_dget (hu : X.A.units + 1 < cLine) (ho : PE X o td) (hi : PE X i ty) (hs : NoSl i) : PE X (.Subscript o i pos) (tDGet td ty) := by
  intro pins s σ H Q I h
  refine subD_of PySem.F.slot_dict_getitem.lookup hs (thn (ho pins s σ H _ I h) fun u s1 ⟨x, H1, I1, rx, q1⟩ => thn (hi pins s1 σ H1 _ I1 q1) fun iv s2 ⟨y, H2, I2, ry, a, v, ex, g, q2⟩ => ?_)
  subst ex
  obtain rfl : u = Value.ref a := rx
  exact ⟨dict_typeIs I2 g, d_getItem hu I2 g ry fun w' s3 I3 rw' => ⟨v, H2, I3, rw', q2⟩⟩
theorem pc_din (hu : X.A.units + 1 < cLine) (hi : PE X i ty) (ho : PE X o td) : PC X .In i o (tDIn ty td) := by
  intro pins s σ H Q I h
  refine thn (hi pins s σ H _ I h) fun iv s1 ⟨y, H1, I1, ry, q1⟩ => thn (ho pins s1 σ H1 _ I1 q1) fun u s2 ⟨x, H2, I2, rx, a, ov, ex, g, q2⟩ => ?_
  subst ex
  obtain rfl : u = Value.ref a := rx
  exact d_in hu I2 g ry fun s3 I3 => ⟨.bl ov.isSome, H2, I3, rfl, q2⟩
theorem pc_dnotin (hu : X.A.units + 1 < cLine) (hi : PE X i ty) (ho : PE X o td) : PC X .NotIn i o (tDNotIn ty td) := by
  intro pins s σ H Q I h
  refine thn (hi pins s σ H _ I h) fun iv s1 ⟨y, H1, I1, ry, q1⟩ => thn (ho pins s1 σ H1 _ I1 q1) fun u s2 ⟨x, H2, I2, rx, a, ov, ex, g, q2⟩ => ?_
  subst ex
  obtain rfl : u = Value.ref a := rx
  exact d_notIn hu I2 g ry fun s3 I3 => ⟨.bl (!ov.isSome), H2, I3, rfl, q2⟩
theorem ps_dput (hu : X.A.units + 1 < cLine) (ho : PE X o td) (hi : PE X i ty) (hv : PE X value tv) (hs : swapsWith value (some (.Subscript o i pos')) pos.line X.env = pure false) :
    PS X (.Assign [.Subscript o i pos'] value pos) (sDPut td ty tv) := by
  intro pins s σ H D I h
  refine wpAny_Assign_Subscript (thn (hv pins s σ H _ I h) fun r s1 ⟨v, H1, I1, rv, q1⟩ => thn (ho pins s1 σ H1 _ I1 q1) fun u s2 ⟨x, H2, I2, rx, q2⟩ => thn (hi pins s2 σ H2 _ I2 q2) fun iv s3 ⟨y, H3, I3, ry, a, H4, ex, g, q3⟩ => ?_) hs
  subst ex
  obtain rfl : u = Value.ref a := rx
  exact d_setItem hu I3 g ry rv fun s4 I4 => ⟨σ, H4, I4, q3⟩
end

/-! ### displays -/
theorem dk_empty {P : Program} {w : World} {H : Hp} (h : Heap) (hb : sysModules < h.objs.size) : ObjOk P w H (h.push { cls := .type "dict", data := .dict #[] }) h.objs.size (.dK []) :=
  ⟨Nat.zero_le _, beq_eq_false_iff_ne.mpr (Ne.symm (Nat.ne_of_lt hb)), [], .nil, Heap.DictOf.new h⟩
/-- {}, to be a dict of the kind that is wanted -/
def tDNewK : TE := fun _ H Q => ∀ p, H p = none → Q (.ref p) (upd H p (.dK []))
section
variable {X : Cx} {pos : Pos}
theorem pe_dnewK : PE X (.Dict [] [] pos) tDNewK := fun pins s σ H Q I h =>
  wpAny_Dict_empty ⟨.ref s.heap.objs.size, _, I.laid (a := s.heap.objs.size) (o := .dK []) (t' := s.toks) (fun _ _ q => Heap.get?_push_of_some _ q) (Nat.le_refl _) (dk_empty s.heap I.big), rfl, h _ (I.hok.fresh (Nat.le_refl _))⟩
end

/-! ### methods -/
section
variable {X : Cx} {pins : List (Addr × Obj)} {σ : St} {H : Hp} {s : Shared} {a : Addr} {y d : V} {u r : Value} {o : Option V} {A : Around} {E : Value → Shared → Prop}
end

section
variable {X : Cx} {o e f : Expr} {apos cpos : Pos} {td ty tx : TE}
end

/-! ### dict(d): a copy -/
section
variable {X : Cx} {pins : List (Addr × Obj)} {σ : St} {H : Hp} {s : Shared} {a : Addr} {kvs : List (Key × V)} {A : Around} {E : Value → Shared → Prop}
theorem d_copyOf {Q : Value → Shared → Prop} (I : Inv X pins σ H s) (e : Rd H a (.dK kvs)) (h : ∀ p s', H p = none → Inv X pins σ (upd H p (.dK kvs)) s' → Q (.ref p) s') : wpAny (model X.prog X.w) A (call (.type "dict") [.ref a]) Q E s := by
  obtain ⟨z, hd, vs, rel, dd⟩ := dk_rd I.hok e
  refine kt_call_dict hd dd (by rw [← rel.length]; exact z) fun h' dd' hs => ?_
  refine h _ _ (I.hok.fresh (Nat.le_refl _)) (I.laid (a := s.heap.objs.size) (o := .dK kvs) (t' := s.toks) (fun b q hq => ?_) (Nat.le_refl _) (dk_new z (beq_eq_false_iff_ne.mpr (Ne.symm (Nat.ne_of_lt I.big))) rel dd'))
  exact (hs.2 b (Nat.ne_of_lt (Heap.lt_size hq))).trans (Heap.get?_push_of_some _ hq)
end

section
variable {X : Cx} {pins : List (Addr × Obj)} {σ : St} {H : Hp} {s : Shared} {a : Addr} {y : V} {u : Value} {A : Around} {E : Value → Shared → Prop}
end
end L2

namespace L2
open PySem PySem.Spec PyProof.Rows

section
variable {prog : Program} {w : World} {A : Around} {E : Value → Shared → Prop}
end

section
variable {X : Cx}
end
end L2

namespace L2
open PySem PySem.Spec PyProof.Rows

theorem boot_reversed5 : bootBuiltins "reversed" = some (.type "reversed") := by decide +kernel

section
variable {X : Cx} {pins : List (Addr × Obj)} {σ : St} {H : Hp} {s : Shared} {h' : Heap}
/-! ### locking a thing while a statement runs -/
theorem Inv.lock {d : Addr} {u : HO} (I : Inv X pins σ H s) (h : H d = some u) (mu : Mut (some u)) : ∃ od, Inv X pins σ (upd H d (.frz od u)) s := by
  have x := I.hok d u h
  have ex : ∃ od, s.heap.get? d = some od := by
    cases u with
    | lst xs => obtain ⟨_, _, _, _, e⟩ := x; exact ⟨_, e⟩
    | dK kvs => obtain ⟨_, _, _, _, o, _, _, e, _⟩ := x; exact ⟨o, e⟩
    | dT kvs => obtain ⟨_, _, _, _, o, _, _, e, _⟩ := x; exact ⟨o, e⟩
    | set S n => obtain ⟨o, _, _, _, e, _⟩ := x; exact ⟨o, e⟩
    | ins C dx fs => obtain ⟨_, _, _, e, _⟩ := x; exact ⟨_, e⟩
    | ext φ => obtain ⟨_, ⟨_, e⟩, _⟩ := x; exact ⟨_, e⟩
    | _ => exact False.elim mu
  obtain ⟨od, e⟩ := ex
  have new : ObjOk X.prog X.w (upd H d (.frz od u)) s.heap d (.frz od u) := by
    refine ⟨e, x.stay (fun b v _ q => q) (fun b q => ?_) fun b xs q => ?_⟩
    · rw [upd_ne (fun z => by rw [z, h] at q; cases q; exact mu)]; exact q
    · rw [upd_ne (fun z => by rw [z, h] at q; cases q; exact mu)]; exact q
  exact ⟨od, I.write (x := d) (e := d) (t' := s.toks) (h' := s.heap) (by rw [h]; exact mu) (.inl rfl) (fun b v _ q => q) ⟨od, e⟩ new⟩
theorem Inv.nofrz {d : Addr} {u : HO} (I : Inv X pins σ H s) (h : H d = some u) (mu : Mut (some u)) : ∀ o' u', X.H_0 d ≠ some (.frz o' u') := fun o' u' e => by
  have q := I.base.frzs d o' u' e
  rw [h] at q
  cases q
  exact mu
theorem Inv.unlock {d : Addr} {od : Obj} {u : HO} (I : Inv X pins σ H s) (h : H d = some (.frz od u)) (hn : ∀ o' u', X.H_0 d ≠ some (.frz o' u')) : Inv X pins σ (upd H d u) s := by
  have neH : ∀ b o, H b = some o → (∀ o' u', o ≠ .frz o' u') → b ≠ d := fun b o e hne z => by
    rw [z, h] at e
    cases e
    exact hne _ _ rfl
  have neN : ∀ b, H b = none → b ≠ d := fun b e z => by rw [z, h] at e; cases e
  refine ⟨I.ok, I.os, I.bare, ⟨I.base.keep, I.base.slot, fun b o e n hx => ?_, I.base.there, fun b xs e => ?_, fun b o x e => ?_, fun b ps e => ?_⟩, I.loc, I.cell, ?_, fun x c e => ?_, fun p hp => ?_, fun b o e => ?_, I.len⟩
  · rw [upd_ne (neN b (I.base.free b o e n hx))]; exact I.base.free b o e n hx
  · have q := I.base.tups b xs e
    rw [upd_ne (neH b _ q (fun _ _ z => nomatch z))]; exact q
  · have q := I.base.frzs b o x e
    rw [upd_ne (fun z => by rw [z] at e; exact hn _ _ e)]; exact q
  · obtain ⟨m, q⟩ := I.base.tbls b ps e
    exact ⟨m, by rw [upd_ne (neH b _ q (fun _ _ z => nomatch z))]; exact q⟩
  · rw [upd_ne (neN _ I.free)]; exact I.free
  · rw [upd_ne (neN c (I.freeC x c e))]; exact I.freeC x c e
  · obtain ⟨e, n, r⟩ := I.pin p hp
    exact ⟨e, by rw [upd_ne (neN _ n)]; exact n, r⟩
  · by_cases hb : b = d
    · rw [hb, upd_same] at e
      cases e
      rw [hb]
      obtain ⟨_, x⟩ := I.hok d _ h
      exact x.stay (fun c v _ q => q) (fun c q => by rw [upd_ne (neH c _ q (fun _ _ z => nomatch z))]; exact q) fun c xs q => by rw [upd_ne (neH c _ q (fun _ _ z => nomatch z))]; exact q
    · rw [upd_ne hb] at e
      exact (I.hok b o e).stay (fun c v _ q => q) (fun c q => by rw [upd_ne (neH c _ q (fun _ _ z => nomatch z))]; exact q) fun c xs q => by rw [upd_ne (neH c _ q (fun _ _ z => nomatch z))]; exact q
end
/-- the statement runs while the thing at d is locked (read, not written); d and what stands there are the reading's choice -/
def tLock (t : TS) : TS := fun D σ H => ∃ d u, H d = some u ∧ Mut (some u) ∧ ∀ od, t ⟨fun σ' H' => H' d = some (.frz od u) ∧ D.nx σ' (upd H' d u), fun v H' => H' d = some (.frz od u) ∧ D.rt v (upd H' d u), fun σ' H' => H' d = some (.frz od u) ∧ D.bk σ' (upd H' d u), fun σ' H' => H' d = some (.frz od u) ∧ D.ct σ' (upd H' d u)⟩ σ (upd H d (.frz od u))
def tLockE (t : TE) : TE := fun σ H Q => ∃ d u, H d = some u ∧ Mut (some u) ∧ ∀ od, t σ (upd H d (.frz od u)) fun v H' => H' d = some (.frz od u) ∧ Q v (upd H' d u)
section
variable {X : Cx}
theorem ps_lock {st : Stmt} {t : TS} (h : PS X st t) : PS X st (tLock t) := by
  intro pins s σ H D I hw
  obtain ⟨d, u, hd, mu, hw⟩ := hw
  obtain ⟨od, I1⟩ := I.lock hd mu
  refine thn (h pins s σ _ _ I1 (hw od)) fun f s1 q => ?_
  cases f with
  | next => obtain ⟨σ', H', I2, e, q⟩ := q; exact ⟨σ', _, I2.unlock e (I.nofrz hd mu), q⟩
  | brk => obtain ⟨σ', H', I2, e, q⟩ := q; exact ⟨σ', _, I2.unlock e (I.nofrz hd mu), q⟩
  | cont => obtain ⟨σ', H', I2, e, q⟩ := q; exact ⟨σ', _, I2.unlock e (I.nofrz hd mu), q⟩
  | ret v => obtain ⟨x, σ', H', I2, r, e, q⟩ := q; exact ⟨x, σ', _, I2.unlock e (I.nofrz hd mu), r, q⟩
theorem pe_lock {e : Expr} {t : TE} (h : PE X e t) : PE X e (tLockE t) := by
  intro pins s σ H Q I hw
  obtain ⟨d, u, hd, mu, hw⟩ := hw
  obtain ⟨od, I1⟩ := I.lock hd mu
  refine thn (h pins s σ _ _ I1 (hw od)) fun v s1 ⟨x, H1, I2, r, e2, q⟩ => ?_
  exact ⟨x, _, I2.unlock e2 (I.nofrz hd mu), r, q⟩

/-! ### one iterator just laid -/
theorem pi_one {tg : Expr} {pins : List (Addr × Obj)} {σ : St} {H : Hp} {s : Shared} {R : It → Hp → Prop} {J : It} {tn : Nat → Heap → Prop} {tk : Nat} (I : Inv X pins σ H s) (o : Obj)
    (T : Turn X.prog X.w X.K tg J [s.heap.objs.size] s.heap.objs.size tn) (st : tn 0 (s.heap.push o)) (q : R J H) : PIE X pins σ tg R (.ref s.heap.objs.size) { s with heap := s.heap.push o, toks := tk } := by
  refine ⟨s.heap.objs.size, [s.heap.objs.size], tn, J, H, rfl, I.kept fun b ob e => Heap.get?_push_of_some _ e, T, st, fun b hb => ?_, q⟩
  have e : b = s.heap.objs.size := by simpa using hb
  subst e
  exact I.fpOk (Nat.le_refl _) (I.hok.fresh (Nat.le_refl _))
end

/-! ### range with a step -/
/-- range(i, j, c): small bounds, n items -/
def RgC (i j c : Int) (n : Nat) : Prop := c ≠ 0 ∧ c.natAbs < 1073741824 ∧ Builtin.Range.small i j c = true ∧ Builtin.Range.rangeSize i j c = n
theorem RgC.neg {i j : Int} (ha : -(2 ^ 62) ≤ i) (ha' : i < 2 ^ 62) (hb : -(2 ^ 62) ≤ j) (hb' : j < 2 ^ 62) : RgC i j (-1) (i - j).toNat :=
  ⟨by decide, by decide, PySem.W.small_down ha ha' hb hb', PySem.W.rangeSize_downNat i j⟩
section
variable {X : Cx} {tg : Expr}
end
/-! ### reversed(list) -/
section
variable {X : Cx} {tg : Expr}
end

/-! ### a str -/
/-! ### a dict's keys: any dict's entries -/
section
variable {prog : Program} {w : World} {A : Around} {E : Value → Shared → Prop} {s : Shared}
theorem iter_keys {d : Addr} {o : Obj} {es : Array DictEntry} {ep : Nat} {Q : Value → Shared → Prop} (hd : (d == sysModules) = false) (ho : s.heap.get? d = some o) (hc : o.ExactDict) (hdat : o.data = .dict es ep)
    (hQ : Q (.ref s.heap.objs.size) { s with heap := s.heap.push { cls := .type "dict_keyiterator", data := .fields #[.ref d, .int 0 0, .int es.size 0, .int ep 0] } }) :
    wpAny (model prog w) A (pyIter (.ref d)) Q E s := by
  have hT : s.TypeIs (.ref d) "dict" := ⟨o, ho, hc.1⟩
  refine wpAny_pyIter_slot hT F.slot_dict_iter (wpAny_call_entry F.slot_dict_iter hT F.entry_dict_iter ?_ (F.args_dict_iter_1 _))
  unfold Builtin.«dict.__iter__»
  refine wpAny_bind ?_
  unfold Builtin.Dict.dictSlotNone
  refine wpAny_bind (wpAny_notOrdered_dict hT ?_)
  show wpAny _ _ (pure (Value.ref d)) _ _ s
  refine wpAny_pure ?_
  show wpAny _ _ (Builtin.Dict.showsAll d >>= _) _ _ s
  unfold Builtin.Dict.showsAll
  rw [if_neg (by rw [hd]; exact Bool.false_ne_true)]
  refine wpAny_bind (wpAny_pure ?_)
  refine wpAny_bind (wpAny_dictEntries ho hdat ?_)
  refine wpAny_bind (wpAny_dictEpoch ho hdat ?_)
  refine wpAny_bind (wpAny_newObj_type (wpAny_pure ⟨_, rfl, "dict_keyiterator", _, ⟨_, Heap.get?_push_size _ rfl, rfl⟩, F.slot_dict_keyiterator_next.lookup, ?_⟩))
  simpa [rawInt] using hQ
theorem next_key_item {it d : Addr} {i n ep : Nat} {od : Obj} {es : Array DictEntry} {en : DictEntry} {Q : Option Value → Shared → Prop} (hit : s.heap.IsKeyIter it d i n ep) (hod : s.heap.get? d = some od) (hdd : od.data = .dict es ep)
    (hsz : es.size = n) (hx : es[i]? = some en) (hQ : ∀ h', h'.IsKeyIter it d (i + 1) n ep → Heap.SameBut it s.heap h' → Q (some en.key) { s with heap := h' }) : wpAny (model prog w) A (pyNext (.ref it)) Q E s := by
  obtain ⟨o, ho, hc, hd⟩ := id hit
  unfold pyNext
  refine wpAny_bind (wpAny_attempt (wpAny_callSpecial?_slot (name := Str.ofString "__next__") hit.typeIs F.slot_dict_keyiterator_next
    (wpAny_call_entry F.slot_dict_keyiterator_next hit.typeIs F.entry_dict_keyiterator_next ?_ (F.args_dict_keyiterator_next_1 _))))
  refine wpAny_bind (wpAny_pure ?_)
  refine wpAny_bind ?_
  refine wpAny_bind ?_
  first | refine wpAny_bind (wpAny_typeNameOfWhole_keyiter hit.typeIs (wpAny_pure ?_)) | refine wpAny_bind (wpAny_typeNameOf_keyiter hit.typeIs (wpAny_pure ?_))
  refine wpAny_bind (wpAny_fieldsOf ho hd ?_)
  have hown : Builtin.Dict_items.ownsTuple "dict_keyiterator" = false := by decide
  simp only [hown, Bool.false_eq_true, if_false]
  show wpAny _ _ (if (Value.ref d == Value.none) = true then _ else _) _ _ s
  rw [if_neg (show ¬ ((Value.ref d == Value.none) = true) from Bool.false_ne_true)]
  refine wpAny_bind (wpAny_pure ?_)
  refine wpAny_bind (wpAny_dictEntries hod hdd ?_)
  rw [if_neg (by rw [hsz]; simp)]
  refine wpAny_bind (wpAny_pure ?_)
  refine wpAny_bind (wpAny_dictEpoch hod hdd ?_)
  rw [if_neg (by simp)]
  refine wpAny_pure ?_
  obtain ⟨hlt', hen⟩ := Array.getElem?_eq_some_iff.mp hx
  simp only [show ¬ ((i : Int) < 0) from by omega, if_false, Int.toNat_natCast, Array.getElem?_eq_getElem hlt']
  refine wpAny_bind ?_
  first | refine wpAny_bind (wpAny_typeNameOfWhole_keyiter hit.typeIs (wpAny_pure ?_)) | refine wpAny_bind (wpAny_typeNameOf_keyiter hit.typeIs (wpAny_pure ?_))
  refine wpAny_bind (wpAny_isOneOf_keyiter hit.typeIs ?_)
  show wpAny _ _ (setField (.ref it) 1 (rawInt ((i : Int) + 1)) >>= _) _ _ s
  refine wpAny_bind (wpAny_setField ho hd (by simp) ?_)
  have hit' : (s.heap.update it (Obj.mapFields (·.setIfInBounds 1 (rawInt ((i : Int) + 1))))).IsKeyIter it d (i + 1) n ep :=
    ⟨_, Heap.get?_update_self _ ho (Obj.isFreed_of_fields (Obj.data_mapFields hd _)), (Obj.cls_mapFields ..).trans hc, by rw [Obj.data_mapFields hd]; simp [rawInt]⟩
  refine wpAny_bind (wpAny_holding ?_)
  refine wpAny_bind (wpAny_isOneOf_keyiter (s := { s with heap := s.heap.update it (Obj.mapFields (·.setIfInBounds 1 (rawInt ((i : Int) + 1)))) }) hit'.typeIs ?_)
  show wpAny _ _ (pure es[i].key) _ _ _
  rw [hen]
  exact wpAny_pure (wpAny_pure ⟨_, rfl, wpAny_pure (hQ _ hit' (Heap.SameBut.update ..))⟩)
theorem next_key_end {it d : Addr} {i n ep : Nat} {od : Obj} {es : Array DictEntry} {Q : Option Value → Shared → Prop} (hh : A.handled = none) (hit : s.heap.IsKeyIter it d i n ep) (hod : s.heap.get? d = some od) (hdd : od.data = .dict es ep)
    (hsz : es.size = n) (hge : n ≤ i) (hQ : ∀ h', Heap.ExtBut it s.heap h' → Q none { s with heap := h' }) : wpAny (model prog w) A (pyNext (.ref it)) Q E s := by
  obtain ⟨o, ho, hc, hd⟩ := id hit
  unfold pyNext
  refine wpAny_bind (wpAny_attempt (wpAny_callSpecial?_slot (name := Str.ofString "__next__") hit.typeIs F.slot_dict_keyiterator_next
    (wpAny_call_entry F.slot_dict_keyiterator_next hit.typeIs F.entry_dict_keyiterator_next ?_ (F.args_dict_keyiterator_next_1 _))))
  refine wpAny_bind (wpAny_pure ?_)
  refine wpAny_bind ?_
  refine wpAny_bind ?_
  first | refine wpAny_bind (wpAny_typeNameOfWhole_keyiter hit.typeIs (wpAny_pure ?_)) | refine wpAny_bind (wpAny_typeNameOf_keyiter hit.typeIs (wpAny_pure ?_))
  refine wpAny_bind (wpAny_fieldsOf ho hd ?_)
  have hown : Builtin.Dict_items.ownsTuple "dict_keyiterator" = false := by decide
  simp only [hown, Bool.false_eq_true, if_false]
  show wpAny _ _ (if (Value.ref d == Value.none) = true then _ else _) _ _ s
  rw [if_neg (show ¬ ((Value.ref d == Value.none) = true) from Bool.false_ne_true)]
  refine wpAny_bind (wpAny_pure ?_)
  refine wpAny_bind (wpAny_dictEntries hod hdd ?_)
  rw [if_neg (by rw [hsz]; simp)]
  refine wpAny_bind (wpAny_pure ?_)
  refine wpAny_bind (wpAny_dictEpoch hod hdd ?_)
  rw [if_neg (by simp)]
  refine wpAny_pure ?_
  have hge' : es.size ≤ i := by rw [hsz]; exact hge
  simp only [show ¬ ((i : Int) < 0) from by omega, if_false, Int.toNat_natCast, Array.getElem?_eq_none hge']
  refine wpAny_bind ?_
  first | refine wpAny_bind (wpAny_typeNameOfWhole_keyiter hit.typeIs (wpAny_pure ?_)) | refine wpAny_bind (wpAny_typeNameOf_keyiter hit.typeIs (wpAny_pure ?_))
  show wpAny _ _ (setField (.ref it) 0 .none >>= _) _ _ s
  refine wpAny_bind (wpAny_setField ho hd (by simp) ?_)
  show wpAny _ _ (newExc (.type "StopIteration") [] >>= _) _ _ _
  refine wpAny_bind ?_
  simp only [newExc, newTuple]
  refine wpAny_bind (wpAny_newObj_type ?_ (by size_fits))
  refine wpAny_bind (m := firstArgMember _ _) (wpAny_of_eq (a := Value.none) (by first | rfl | (simp only [firstArgMember]; rfl)) ?_)
  refine wpAny_newObj_type ?_ (by size_fits)
  simp only [raiseNew]
  refine wpAny_bind (wpAny_handled ?_)
  rw [show A.in1.handled = none from hh]
  refine wpAny_bind (wpAny_pure (wpAny_throw ?_))
  refine wpAny_bind (wpAny_isInstance (T := "StopIteration") (b := true) ⟨_, Heap.get?_push_size _ rfl, rfl⟩ isSubtype_stop ?_)
  exact wpAny_pure (hQ _ (((Heap.SameBut.update ..).extBut.push _).push _))
end

/-! ### a locked dict -/
theorem kv_get {κ : Type} {kvs : List (κ × V)} {vs : List (κ × Value)} (h : KV kvs vs) : ∀ {i : Nat} {k : κ} {v : V}, kvs[i]? = some (k, v) → ∃ u, vs[i]? = some (k, u) ∧ RelV v u := by
  unfold KV at h
  induction h with
  | nil => intro i k v e; simp at e
  | @cons a b l₁ l₂ r t ih =>
    intro i k v e
    cases i with
    | zero =>
      simp only [List.getElem?_cons_zero, Option.some.injEq] at e
      subst e
      refine ⟨b.2, ?_, r.2⟩
      simp only [List.getElem?_cons_zero]
      exact congrArg some (Prod.ext r.1.symm rfl)
    | succ j =>
      simp only [List.getElem?_cons_succ] at e ⊢
      exact ih e
theorem paired_get {α β : Type} {G : α → β → Prop} {l₁ : List α} {l₂ : List β} (h : Paired G l₁ l₂) : ∀ {i : Nat} {a : α}, l₁[i]? = some a → ∃ b, l₂[i]? = some b ∧ G a b := by
  induction h with
  | nil => intro i a e; simp at e
  | @cons a b l₁ l₂ r t ih =>
    intro i a' e
    cases i with
    | zero =>
      simp only [List.getElem?_cons_zero, Option.some.injEq] at e
      subst e
      exact ⟨b, rfl, r⟩
    | succ j =>
      simp only [List.getElem?_cons_succ] at e ⊢
      exact ih e
theorem relV_key {k : Key} {u : Value} (h : keyIs k u = true) : RelV (kV k) u := by
  rcases keyIs_shape h with ⟨i, t, rfl, rfl⟩ | ⟨x, t, rfl, rfl⟩
  · exact ⟨t, rfl⟩
  · exact ⟨t, rfl⟩
section
variable {X : Cx} {pins : List (Addr × Obj)} {σ : St} {H : Hp} {s : Shared} {d : Addr} {o : Obj}
theorem Inv.frzK {kvs : List (Key × V)} (I : Inv X pins σ H s) (h : H d = some (.frz o (.dK kvs))) :
    (d == sysModules) = false ∧ s.heap.get? d = some o ∧ o.ExactDict ∧ ∃ (es : Array DictEntry) (ep : Nat) (vs : List (Key × Value)), o.data = .dict es ep ∧ es.size = kvs.length ∧ KV kvs vs ∧ s.heap.DictAt (mixKind X.prog X.w) d vs ep := by
  obtain ⟨hd, z, hs, vs, kv, o', es, ep, ho, hx, hdt, r⟩ := I.hok d _ h
  rw [hd] at ho
  cases ho
  refine ⟨hs, hd, hx, es, ep, vs, hdt, ?_, kv, o, es, hd, hx, hdt, r⟩
  have l1 := r.2.1.length
  have l2 : kvs.length = vs.length := Paired.length kv
  rw [Array.length_toList] at l1
  omega
/-- the same for tuple keys -/
theorem Inv.frzT {kvs : List (List Key × V)} (I : Inv X pins σ H s) (h : H d = some (.frz o (.dT kvs))) :
    (d == sysModules) = false ∧ s.heap.get? d = some o ∧ o.ExactDict ∧ ∃ (es : Array DictEntry) (ep : Nat), o.data = .dict es ep ∧ es.size = kvs.length ∧
      ∀ (i : Nat) (k : List Key) (v : V), kvs[i]? = some (k, v) → ∃ (en : DictEntry) (q : Addr), es[i]? = some en ∧ en.key = .ref q ∧ H q = some (.tup (k.map kV)) := by
  obtain ⟨hd, z, hs, xs, pr, o', es, ep, ho, hx, hdt, he, _⟩ := I.hok d _ h
  rw [hd] at ho
  cases ho
  refine ⟨hs, hd, hx, es, ep, hdt, ?_, fun i k v e => ?_⟩
  · have l1 : es.size = xs.length := size_of_entries he
    have l2 : kvs.length = xs.length := Paired.length pr
    omega
  · obtain ⟨b, hb, e1, e2, _⟩ := paired_get pr e
    have q := entry_at he i
    rw [hb] at q
    exact ⟨_, b.2.1, q, rfl, e2⟩
end

/-- the keys of the locked dict at d, in their order -/
def Itk (d : Addr) (o : Obj) (kvs : List (Key × V)) : It :=
  ⟨fun i H => H d = some (.frz o (.dK kvs)) ∧ i < kvs.length, fun i H x H' => H' = H ∧ ∃ k v, kvs[i]? = some (k, v) ∧ x = kV k, fun i H => H d = some (.frz o (.dK kvs)) ∧ kvs.length ≤ i⟩
/-- .. of tuple keys: the key's own tuple -/
def Itkt (d : Addr) (o : Obj) (kvs : List (List Key × V)) : It :=
  ⟨fun i H => H d = some (.frz o (.dT kvs)) ∧ i < kvs.length, fun i H x H' => H' = H ∧ ∃ (k : List Key) (v : V) (q : Addr), kvs[i]? = some (k, v) ∧ x = .ref q ∧ H q = some (.tup (k.map kV)), fun i H => H d = some (.frz o (.dT kvs)) ∧ kvs.length ≤ i⟩
theorem dict_ep {o : Obj} {es es' : Array DictEntry} {ep ep' : Nat} (h : o.data = .dict es ep) (h' : o.data = .dict es' ep') : es' = es ∧ ep' = ep := by
  rw [h] at h'
  cases h'
  exact ⟨rfl, rfl⟩
section
variable {P : Program} {w : World} {K : PySem.W.Frag} {tg : Expr} {d : Addr} {o : Obj} {es : Array DictEntry} {ep : Nat}
theorem turn_keys {kvs : List (Key × V)} (it : Addr) (hod : o.data = .dict es ep) : Turn P w K tg (Itk d o kvs) [it] it (fun i h => h.IsKeyIter it d i kvs.length ep) where
  mem := by simp
  obj := fun i h st b hb => by
    have e : b = it := by simpa using hb
    subst e
    obtain ⟨oi, e, c, dd⟩ := st
    exact ⟨oi, e, fun v z => by rw [dd] at z; cases z⟩
  keep := fun i h h' st k => st.at fun oi e => k it (by simp) oi e
  item := by
    intro X hP hw hK hc i pins s σ H E I hf st hg
    subst hP hw hK
    obtain ⟨hd, hi⟩ := hg
    obtain ⟨f0, f1, f2, f3, f4, f5⟩ := hf it (by simp)
    obtain ⟨hs, hgd, hx, es', ep', vs, hdt, hsz, kv, hm⟩ := I.frzK hd
    obtain ⟨rfl, rfl⟩ := dict_ep hod hdt
    obtain ⟨⟨k, v⟩, hkv⟩ : ∃ p, kvs[i]? = some p := ⟨kvs[i], List.getElem?_eq_getElem hi⟩
    obtain ⟨u, hu, ru⟩ := kv_get kv hkv
    have hl : kvs.length = vs.length := Paired.length kv
    rw [hl] at st
    refine wpAny_pyNext_dict_item st hm hu fun key h' hkey st' sb => ?_
    have I1 : Inv X pins σ H { s with heap := h' } := I.turned (t' := s.toks) (fun b ob hb e => (sb.2 b hb).trans e) f0 f1 f3 f4 f5
    obtain ⟨oi, e, c, dd⟩ := id st'
    refine ⟨key, rfl, go_of (s := { s with heap := h' }) e c dd (by decide) ⟨kV k, H, I1, relV_key (show keyIs k key = true from hkey), ⟨rfl, k, v, hkv, rfl⟩, ?_, fun b hb => (hf b hb).1⟩⟩
    show h'.IsKeyIter it d (i + 1) kvs.length _
    rw [hl]
    exact st'
  done := by
    intro X hP hw hK hc i pins s σ H E I hf st hg
    subst hP hw hK
    obtain ⟨hd, hi⟩ := hg
    obtain ⟨f0, f1, f2, f3, f4, f5⟩ := hf it (by simp)
    obtain ⟨hs, hgd, hx, es', ep', vs, hdt, hsz, kv, hm⟩ := I.frzK hd
    obtain ⟨rfl, rfl⟩ := dict_ep hod hdt
    exact next_key_end (I.ok.hd hc) st hgd hdt hsz hi fun h' eb => ⟨rfl, I.turned (t' := s.toks) (fun b ob hb e => eb b ob hb e) f0 f1 f3 f4 f5⟩
  self := fun A i s Q E st h => wpAny_pyIter_keyiter st h
theorem turn_keysT {kvs : List (List Key × V)} (it : Addr) (hod : o.data = .dict es ep) : Turn P w K tg (Itkt d o kvs) [it] it (fun i h => h.IsKeyIter it d i kvs.length ep) where
  mem := by simp
  obj := fun i h st b hb => by
    have e : b = it := by simpa using hb
    subst e
    obtain ⟨oi, e, c, dd⟩ := st
    exact ⟨oi, e, fun v z => by rw [dd] at z; cases z⟩
  keep := fun i h h' st k => st.at fun oi e => k it (by simp) oi e
  item := by
    intro X hP hw hK hc i pins s σ H E I hf st hg
    subst hP hw hK
    obtain ⟨hd, hi⟩ := hg
    obtain ⟨f0, f1, f2, f3, f4, f5⟩ := hf it (by simp)
    obtain ⟨hs, hgd, hx, es', ep', hdt, hsz, ent⟩ := I.frzT hd
    obtain ⟨rfl, rfl⟩ := dict_ep hod hdt
    obtain ⟨⟨k, v⟩, hkv⟩ : ∃ p, kvs[i]? = some p := ⟨kvs[i], List.getElem?_eq_getElem hi⟩
    obtain ⟨en, q, hen, hkey, hq⟩ := ent i k v hkv
    refine next_key_item st hgd hdt hsz hen fun h' st' sb => ?_
    have I1 : Inv X pins σ H { s with heap := h' } := I.turned (t' := s.toks) (fun b ob hb e => (sb.2 b hb).trans e) f0 f1 f3 f4 f5
    obtain ⟨oi, e, c, dd⟩ := id st'
    exact ⟨en.key, rfl, go_of (s := { s with heap := h' }) e c dd (by decide) ⟨.ref q, H, I1, hkey, ⟨rfl, k, v, q, hkv, rfl, hq⟩, st', fun b hb => (hf b hb).1⟩⟩
  done := by
    intro X hP hw hK hc i pins s σ H E I hf st hg
    subst hP hw hK
    obtain ⟨hd, hi⟩ := hg
    obtain ⟨f0, f1, f2, f3, f4, f5⟩ := hf it (by simp)
    obtain ⟨hs, hgd, hx, es', ep', hdt, hsz, ent⟩ := I.frzT hd
    obtain ⟨rfl, rfl⟩ := dict_ep hod hdt
    exact next_key_end (I.ok.hd hc) st hgd hdt hsz hi fun h' eb => ⟨rfl, I.turned (t' := s.toks) (fun b ob hb e => eb b ob hb e) f0 f1 f3 f4 f5⟩
  self := fun A i s Q E st h => by
    refine wpAny_pyIter_slot st.typeIs F.slot_dict_keyiterator_iter (wpAny_call_entry F.slot_dict_keyiterator_iter st.typeIs F.entry_dict_keyiterator_iter ?_ (F.args_dict_keyiterator_iter_1 _))
    show wpAny _ _ (ret (.ref it)) _ _ s
    exact wpAny_pure ⟨_, rfl, "dict_keyiterator", _, st.typeIs, F.slot_dict_keyiterator_next.lookup, h⟩
end

/-! ### for k in d, d.keys(), d.values(), d.items() -/
/-- the dict is locked (tLock, or by the caller) -/
def iKeys (td : TE) : TI := fun σ H R => td σ H fun x H1 => ∃ d o, x = .ref d ∧ ((∃ kvs, H1 d = some (.frz o (.dK kvs)) ∧ R (Itk d o kvs) H1) ∨ ∃ kvs, H1 d = some (.frz o (.dT kvs)) ∧ R (Itkt d o kvs) H1)
section
variable {X : Cx} {tg e : Expr} {td : TE} {apos cpos : Pos}
theorem pi_keys (he : PE X e td) : PI X tg e (iKeys td) := by
  intro pins s σ H R I h
  refine thn (he pins s σ H _ I h) fun u s1 ⟨x, H1, I1, rx, d, o, ex, q⟩ => ?_
  subst ex
  obtain rfl : u = Value.ref d := rx
  rcases q with ⟨kvs, hd, q⟩ | ⟨kvs, hd, q⟩
  · obtain ⟨hs, hgd, hx, es, ep, vs, hdt, hsz, kv, hm⟩ := I1.frzK hd
    refine iter_keys hs hgd hx hdt (pi_one (tk := s1.toks) I1 _ (turn_keys _ hdt) ⟨_, Heap.get?_push_size _ rfl, rfl, ?_⟩ q)
    rw [hsz] <;> rfl
  · obtain ⟨hs, hgd, hx, es, ep, hdt, hsz, ent⟩ := I1.frzT hd
    refine iter_keys hs hgd hx hdt (pi_one (tk := s1.toks) I1 _ (turn_keysT _ hdt) ⟨_, Heap.get?_push_size _ rfl, rfl, ?_⟩ q)
    rw [hsz] <;> rfl
end

/-! ### enumerate(list) -/
/-! ### zip(list, list) -/
end L2

section 
namespace Bits
open PySem PyProof.Rows

end Bits
end 

section 
namespace TL
open PySem PySem.Builtin PySem.Builtin.Str PySem.StrLaws

abbrev tl (x : Str) : List Nat := x.cps.toList
/-! ### the list functions -/
/-- S stands at the head of l -/
def pre (S l : List Nat) : Bool := l.take S.length == S
/-- l cut at each S from the left; k signs are still to be passed over -/
def spl (S : List Nat) : Nat → List Nat → List Nat → List (List Nat)
  | _, acc, [] => [acc]
  | 0, acc, c :: r => if pre S (c :: r) = true then acc :: spl S (S.length - 1) [] r else spl S 0 (acc ++ [c]) r
  | k + 1, acc, _ :: r => spl S k acc r
/-- what stands before the first S, and behind it -/
def par (S : List Nat) : List Nat → List Nat → Option (List Nat × List Nat)
  | _, [] => none
  | acc, c :: r => if pre S (c :: r) = true then some (acc, (c :: r).drop S.length) else par S (acc ++ [c]) r

/-! ### the model's split and partition are these -/
/-! ### computing spl and par -/
/-! ### digits -/
/-! ### words: x.split() -/
end TL
end 

namespace L2
open PySem PySem.Spec PyProof.Rows

section
variable {X : Cx} {pins : List (Addr × Obj)} {σ : St} {H : Hp} {s : Shared} {Q : VK}
end

section
variable {X : Cx}

/-! ### of a text alone -/
/-! ### of a text and a text -/
end

section
variable {X : Cx} {o e : Expr} {to te : TE}
end
end L2

namespace L2
open PySem PySem.Spec PyProof.Rows

section
variable {X : Cx}
end

/-! ### slices of a text -/
theorem IsPart.raw {v : Value} {o : Option Int} (p : IsPart v o) : ∃ l : Option (Int × Tok), v = partValue l ∧ l.map (·.1) = o := by
  cases p with
  | none => exact ⟨none, rfl, rfl⟩
  | int i t => exact ⟨some (i, t), rfl, rfl⟩

end L2

namespace Att
open PySem PySem.W PySem.Calls PyProof.Rows

/-! ### the script -/
theorem ints_of_wellAll {P : Params} {h : Heap} : ∀ (ns : List Int) (vs : List Value), WellAll P h vs (ns.map WData.int) → IntsAre vs ns := by
  intro ns
  induction ns with
  | nil =>
    intro vs w
    rw [List.map_nil] at w
    cases w
    exact .nil
  | cons n ns ih =>
    intro vs w
    rw [List.map_cons] at w
    cases w with
    | cons a b =>
      cases a
      exact .cons _ _ (ih _ b)

theorem script_of {l : OpenLaw} {n : Nat} (hn : l.most = some n) {P : Params} {h : Heap} {args : List WData} {vals : List Value}
    (hpre : l.row.toRowW.claim.pre args = true) (hwl : WellAll P h vals args) :
    ∃ a vs ns, vals = [Value.ref a] ∧ args = [WData.list (ns.map WData.int)] ∧ h.get? a = some { cls := .type "list", data := .seq vs.toArray } ∧ IntsAre vs ns ∧ ns.length ≤ n := by
  have hsh : WShape.hasAll [] args [.list .int] = true := (pre_splitW hpre).1
  have hc : l.pre.holds [] { args := args } = true := (pre_splitW hpre).2
  obtain ⟨d, r, rfl, h1, h2⟩ := hasAllW_cons hsh
  obtain rfl := hasAllW_nil h2
  obtain ⟨xs, rfl, h3⟩ := hasW_list h1
  obtain ⟨ns, rfl⟩ := items_int h3
  have hlen : ns.length ≤ n := by
    unfold OpenLaw.pre at hc
    have h4 : (WTm.not (.lt (.lit (.int (n : Int))) (.len (.arg 0)))).holds [] { args := [.list (ns.map .int)] } = true := by
      have h4 := (holds_andW hc).1
      rw [hn] at h4
      exact h4
    have h5 := condW_of h4 (w_not (w_lt w_lit (w_len_list (w_arg rfl))))
    rw [List.length_map] at h5
    refine Nat.le_of_not_lt fun q => ?_
    have q' : (n : Int) < ((ns.length : Nat) : Int) := by omega
    first
      | (rw [decide_eq_true q'] at h5; exact absurd h5 (by decide))
      | (simp at h5; omega)
  cases hwl with
  | cons w1 w2 =>
    cases w2
    cases w1 with
    | list ho hall => exact ⟨_, _, ns, rfl, rfl, ho, ints_of_wellAll ns _ hall, hlen⟩

theorem post_true (l : OpenLaw) (args : List WData) : l.row.toRowW.claim.post args (.bool true) args = true :=
  postW_of (r := l.row.toRowW) (X := (true == true))
    (show WShape.has [] (.bool true) .bool = true by first | rfl | decide | simp [WShape.has, WShape.arms, WShape.armsAll])
    (show (WTm.eq .res (.lit (.bool true))).value [] { args := args, res := some (.bool true), after := args } = some (.bool (true == true)) from w_eq_bool (w_res rfl) w_lit) rfl

/-! ### the attachment: holds_open's last premise (the goal 'hc' behind k_head) from a wpAny of the law's body -/
/-- the same from a codeAny of the CALL (for a layer whose function contracts speak of calls) -/
theorem attach_call {l : OpenLaw} {n : Nat} {q : Program} {loose : List Str} {XP : (Str → Option Value) → Heap → Prop} {YP : World → Heap → Prop} {d : DefRec}
    (hn : l.most = some n) (hdf : d.params.defaults = [])
    (call : ∀ (w : World) (s₀ s₁ : Shared) (mg mb : Str → Option Value) (fa : Addr) (o : Obj) (pm cd doc : Value) (a : Addr) (vs : List Value) (ns : List Int),
      Ground q loose [] XP w s₀ mg mb s₁.heap → YP w s₁.heap →
      s₁.heap.get? fa = some o → o.data = .func (docDef d.name d.params d.body d.scope pm cd doc) → s₁.heap.CodeRec cd d.name → mg d.name = some (.ref fa) →
      s₁.heap.get? a = some { cls := .type "list", data := .seq vs.toArray } → IntsAre vs ns → ns.length ≤ n → s₁.gens = #[] →
      codeAny (model l.prog w) callerA (.call (.ref fa) ⟨[.ref a], []⟩) (fun r s' => r = .ok (.ret (.bool true)) ∧ OldK s₁.heap s'.heap ∧ s'.os = s₁.os ∧ AllBare s'.gens) s₁) :
    WalkO q loose XP YP l.row.toRowW d [] (fun f vs => PySem.call f vs) := by
  intro w s₀ s₁ mg mb G Y fa o pm cd doc dV kV ho hd hcd hD hmg hg args vals as hpre hlay hrd hwl hlo
  obtain rfl : dV = .none := Dflts.none hD hdf
  obtain rfl : kV = .none := Dflts.noKw hD
  obtain ⟨a, vs, ns, rfl, rfl, hobj, hints, hlen⟩ := script_of hn hpre hwl
  refine enter_call (codeAny_mono (call w s₀ s₁ mg mb fa o pm cd doc a vs ns G Y ho (fd_plain hd) hcd hmg hobj hints hlen hg) fun r s' hq => ?_)
  obtain ⟨rfl, h2, h3, h4⟩ := hq
  exact ⟨.inl ⟨.bool true, .bool true, [], rfl, fun _ => rfl, .bool true, post_true l _, fun _ => ⟨List.Pairwise.nil, fun _ hm => (nomatch hm)⟩⟩, h2, h3, h4⟩

/-! ### rules over ANY heap (no ledger) from facts about the written part K: the library's own take a ledger (News) for what they write -/
section
variable {prog : Program} {w : World} {A : Around} {E : Value → Shared → Prop} {s : Shared} {K : Frag}

/-! the whole heap as the ledger: makes every rule that writes through a ledger a rule over any heap -/
def ledger (h : Heap) (L d : Addr) : List (Addr × Obj) := (List.range h.objs.size).filterMap fun a => if a = L ∨ a = d then none else (h.get? a).map fun o => (a, o)
end
end Att

namespace L2
open PySem PySem.Spec PyProof.Rows

theorem vals_ints : ∀ {vs : List Value} {ns : List Int}, IntsAre vs ns → Vals (ns.map V.int) vs
  | _, _, .nil => .nil
  | _, _, .cons n t h => .cons ⟨t, rfl⟩ (vals_ints h)

/-- nothing is tracked but the script, known to the object (or it is an object of the module) -/
def Only (H : Hp) : Prop := ∀ b, H b = none ∨ ∃ o xs, H b = some (.frz o (.lst xs))

/-- THE HEAD: the law's promise, at the heap behind the top. F, the promise of the law's def, may use that base is part of the heap (so K.In base, base.Ns mainGlobals mg stand in Mod) -/
theorem law_call {P : Program} {w : World} {K : PySem.W.Frag} {mg mb : Str → Option Value} {CX : CXT} {k : Nat} {fa a : Addr} {fd : FuncData} {x : Str} {sp : Sp} {s₁ : Shared} {vs : List Value} {ns : List Int}
    (KX : K.In s₁.heap) (hns : s₁.heap.Ns mainGlobals mg) (hb : s₁.heap.Ns builtinsNs mb) (hbb : ∀ x : Str, x ≠ "__name__" → mb x = bootBuiltins x) (hlim : s₁.heap.NoLimit) (hg : s₁.gens = #[])
    (ha : s₁.heap.get? a = some { cls := .type "list", data := .seq vs.toArray }) (hi : IntsAre vs ns) (hl : ns.length ≤ sizeLine) (hr : Room k callerA)
    (F : ∀ base : Heap, K.In base → base.Ns mainGlobals mg → FnOk P w K mg base CX k fa fd [x] sp) (hbind : ∀ (s : Shared) (u : Value), BindsTo s fd ⟨[u], []⟩ [(x, u)])
    (hsp : ∀ H : Hp, Only H → SqL K H a (ns.map V.int) → sp [.ref a] H (fun v _ => v = .bl true) fun _ _ _ => False)
    (hCX : ∀ H e s', CX [] H s₁ (fun _ _ _ => False) e s' → False) :
    codeAny (model P w) callerA (.call (.ref fa) ⟨[.ref a], []⟩) (fun r s' => r = .ok (.ret (.bool true)) ∧ OldK s₁.heap s'.heap ∧ s'.os = s₁.os ∧ AllBare s'.gens) s₁ := by
  have rv := vals_ints hi
  have lenV := hi.length
  -- from an abstract heap in which nothing but the script may be tracked
  have core : ∀ H : Hp, Only H → SqL K H a (ns.map V.int) → HOk P w H s₁.heap → (∀ b, H b ≠ none → b = a) → (H a ≠ none → K.lookup a = none) →
      codeAny (model P w) callerA (.call (.ref fa) ⟨[.ref a], []⟩) (fun r s' => r = .ok (.ret (.bool true)) ∧ OldK s₁.heap s'.heap ∧ s'.os = s₁.os ∧ AllBare s'.gens) s₁ := by
    intro H hO hS hok hA hK
    have base_of : ∀ {b : Addr} {o : Obj}, s₁.heap.get? b = some o → H b = none → (hidT s₁.heap H).get? b = some o := fun e n => hidT_get e n
    have noA : ∀ {b : Addr} {o : Obj} {es : Array DictEntry} {ep : Nat}, s₁.heap.get? b = some o → o.data = .dict es ep → H b = none := fun {b o es ep} e d => by
      cases q : H b with
      | none => rfl
      | some u =>
        have e' : b = a := hA b (by rw [q]; simp)
        subst e'
        rw [ha] at e; cases e
        have d' : Data.seq vs.toArray _ = Data.dict es ep := d
        cases d'
    have nsK : ∀ {b : Addr} {m : Str → Option Value}, s₁.heap.Ns b m → (hidT s₁.heap H).Ns b m := fun {b m} ⟨o, es, ep, e, d, r⟩ => ⟨o, es, ep, base_of e (noA e d), d, r⟩
    have hKb : K.In (hidT s₁.heap H) := fun b o e => base_of (KX b o e) (by
      cases q : H b with
      | none => rfl
      | some u =>
        have e' : b = a := hA b (by rw [q]; simp)
        subst e'
        rw [hK (by rw [q]; simp)] at e; cases e)
    have hM : Mod K mg (hidT s₁.heap H) := ⟨hKb, nsK hns, ⟨mb, nsK hb, hbb⟩, let ⟨mc, h1, h2⟩ := hlim; ⟨mc, nsK h1, h2⟩⟩
    have e0 : Env0 P w K mg (hidT s₁.heap H) callerA [] s₁ H := ⟨rfl, hM, fun b o e => of_hidT e, Nat.le_of_eq (hidT_size _ _), trivial, fun b hb => absurd (show b ∈ ([] : List Addr) from hb) (by simp), hok, .of_eq hg⟩
    refine codeAny_mono ((F _ hKb (nsK hns)).run callerA [] s₁ H ⟨[.ref a], []⟩ [.ref a] [.ref a] _ _ hr e0 (hbind s₁ (.ref a)) (.cons rfl .nil) (hsp H hO hS)) fun r s' h => ?_
    cases r with
    | error e => exact (hCX H e s' h).elim
    | ok fl =>
      cases fl with
      | next => exact False.elim h
      | brk => exact False.elim h
      | cont => exact False.elim h
      | ret u =>
        obtain ⟨v, H', os, bare, un, hok', r', q⟩ := h
        have q' : v = .bl true := q
        subst q'
        obtain rfl : u = Value.bool true := r'
        refine ⟨rfl, OldK.of_keep fun b o e => ?_, os, bare⟩
        cases q : H b with
        | none => exact un.keep b o e q (by intro z; exact absurd (show b ∈ ([] : List Addr) from z) (by simp)) (by simp)
        | some u =>
          rcases hO b with z | ⟨ob, xs, z⟩
          · rw [q] at z; cases z
          · have z2 := un.frzs b ob _ z
            obtain ⟨e1, _⟩ := hok b _ z
            obtain ⟨e2, _⟩ := hok' b _ z2
            rw [e] at e1; cases e1
            exact e2
  cases hk : K.lookup a with
  | some o =>
    -- the script is one of the module's own objects
    have e := KX a o hk
    rw [ha] at e
    cases e
    refine core (fun _ => none) (fun _ => .inl rfl) (.inr ⟨_, vs.toArray, _, hk, rfl, rfl, rfl, by rw [List.size_toArray, lenV]; exact hl, by simpa using rv⟩) (fun b u z => by have z' : (none : Option HO) = some u := z; cases z') (fun b z => absurd rfl z) fun z => absurd rfl z
  | none =>
    refine core (fun b => if b = a then some (.frz { cls := .type "list", data := .seq vs.toArray } (.lst (ns.map V.int))) else none) (fun b => ?_) (.inl (.inr ⟨{ cls := .type "list", data := .seq vs.toArray }, if_pos rfl⟩)) (fun b u z => ?_) (fun b z => ?_) fun _ => hk
    · by_cases hb : b = a
      · exact .inr ⟨_, _, if_pos hb⟩
      · exact .inl (if_neg hb)
    · by_cases hb : b = a
      · have z' := (if_pos hb).symm.trans z
        cases z'
        subst hb
        exact ⟨ha, by rw [List.length_map]; exact hl, vs, _, rv, ha⟩
      · have z' := (if_neg hb).symm.trans z
        cases z'
    · by_cases hb : b = a
      · exact hb
      · exact absurd (if_neg hb) z
end L2

namespace L2
open PySem PySem.Spec PyProof.Rows

abbrev KOf {K : PySem.W.Frag} {h : Heap} (_ : K.In h) : PySem.W.Frag := K

/-- the goal that k_head leaves (case hc), from the law's promise. F gives the function object fd (K's own) once, then the promise over every base -/
theorem walk_of {l : PySem.W.OpenLaw} {n k : Nat} {q : Program} {loose : List Str} {XP : (Str → Option Value) → Heap → Prop} {YP : World → Heap → Prop} {d : DefRec} {K : Params → PySem.W.Frag} {CX : World → CXT} {sp : World → Sp} {x : Str}
    (hn : l.most = some n) (hn2 : n ≤ sizeLine) (hdf : d.params.defaults = []) (hr : Room k callerA)
    (hY : ∀ (w : World) (h : Heap), YP w h → (K w.params).In h)
    (F : ∀ (w : World) (mg : Str → Option Value) (fa : Addr) (h : Heap), (K w.params).In h → h.Ns mainGlobals mg → mg d.name = some (.ref fa) →
      ∃ fd : FuncData, (∀ (s : Shared) (u : Value), BindsTo s fd ⟨[u], []⟩ [(x, u)]) ∧
        ∀ base : Heap, (K w.params).In base → base.Ns mainGlobals mg → FnOk l.prog w (K w.params) mg base (CX w) k fa fd [x] (sp w))
    (hsp : ∀ (w : World) (H : Hp) (a : Addr) (ns : List Int), ns.length ≤ n → Only H → SqL (K w.params) H a (ns.map V.int) → sp w [.ref a] H (fun v _ => v = .bl true) fun _ _ _ => False)
    (hCX : ∀ (w : World) (H : Hp) (s : Shared) (e : Value) (s' : Shared), CX w [] H s (fun _ _ _ => False) e s' → False) :
    PySem.W.WalkO q loose XP YP l.row.toRowW d [] (fun f vs => PySem.call f vs) := by
  refine Att.attach_call hn hdf fun w s₀ s₁ mg mb fa o pm cd doc a vs ns G Y ho hd hcd hmg hobj hints hlen hg => ?_
  have KX := hY w _ Y
  obtain ⟨fd, hb, hF⟩ := F w mg fa _ KX G.T.g hmg
  exact law_call KX G.T.g G.T.b G.T.builtins G.T.nolimit hg hobj hints (Nat.le_trans hlen hn2) hr hF hb (fun H hO hS => hsp w H a ns hlen hO hS) fun H e s' => hCX w H s₁ e s'
end L2

/- THE LAST THEOREM (shape; LID, My.* are yours):
   My.Adr: a structure of the addresses that your layer names (classes, functions); My.Txt K t: a structure (Prop) of the equations over K;
   My.txt_mk : {K} {implicit addresses ..} (e1 : nsIn K mainGlobals "law" = some (some (.ref f))) (e2 : K.lookup f = some ⟨oc, od, .func (fnOf "law" "law" params body scope dV kV doc pm an cdv ct), sl⟩) (e3 : codeIn K cdv "law" = true) .. : ∃ t, My.Txt K t

set_option maxRecDepth 100000 in
set_option maxHeartbeats 0 in
theorem PySem.Challenge.cw_LID_holds : PySem.Challenge.rw_LID.Holds := by
  w_on; o_law; k_head; (case hw => w_witness2)
  k_fill
  refine L2.walk_of (l := PySem.Challenge.rw_LID) (n := 63) (k := 40) (x := "script") (CX := fun w => ..) (sp := fun _ => My.sp_law) rfl (by decide) rfl ⟨rfl, by decide, by decide⟩ (fun w h Y => PySem.W.kIn_of Y) ?F ?S ?C
  case F =>
    intro w mg fa h KX G hmg
    have T : ∃ t, My.Txt (L2.KOf KX) t := by
      dsimp only [L2.KOf]                          -- K must stand as «<heap const> w.params» for k_is
      refine' My.txt_mk ?e1 ?e2 ?e3 ..
      (case e1 => PySem.W.k_is)                    -- in the order: a name -> its address -> its object -> its parts
      (case e2 => PySem.W.k_is)
      ..
    obtain ⟨t, T⟩ := T
    have e0 := hmg.symm.trans (PySem.W.mg_of KX G T.law)
    cases e0                                       -- fa is the law's own address
    exact ⟨_, fun s u => .of_eq rfl, fun base kb nb => My.law_fn T kb nb⟩     -- if «.of_eq rfl» comes too early: refine' ⟨_, ?b, fun base kb nb => My.law_fn T kb nb⟩; exact fun s u => .of_eq rfl
  case S => exact fun w H a ns hl hO hS => ..
  case C => exact ..
(the tactic k_is has no namespace: write k_is) -/

/-! SHORT WORDS over the layer: a def of the text, its body, what a loop and a test want. -/
namespace L2
open PySem PySem.Spec PyProof.Rows

/-! ### the text by places -/
/-- the j-th statement of a class's body -/
def inClass (s : Stmt) (j : Nat) : Stmt := match s with
  | .ClassDef _ _ _ body _ _ _ _ _ _ _ => body.getD j (.Pass ⟨0, 0, 0, 0⟩)
  | _ => .Pass ⟨0, 0, 0, 0⟩
def defArgs (s : Stmt) : Arguments := match s with
  | .FunctionDef _ a _ _ _ _ _ _ _ _ => a
  | _ => { posonlyargs := [], args := [], vararg := none, kwonlyargs := [], kw_defaults := [], kwarg := none, defaults := [] }
def defBody (s : Stmt) : List Stmt := match s with
  | .FunctionDef _ _ b _ _ _ _ _ _ _ => b
  | _ => []
def defScope (s : Stmt) : Scope := match s with
  | .FunctionDef _ _ _ _ _ _ sc _ _ _ => sc
  | _ => { kind := .function, names := [], isGenerator := false, isCoroutine := false }

/-! ### no exception leaves a def -/
abbrev CX0 : CXT := fun _ _ _ _ _ _ => False
abbrev E0 : XK := fun _ _ _ => False
theorem pass0 {X : Cx} : Passes CX0 X E0 := fun _ _ _ _ _ _ _ h => h.elim

/-! ### a def (or method) of the text as it stands behind the top -/
structure Fun (K : PySem.W.Frag) (x qual : Str) (st : Stmt) (f : Addr) (fd : FuncData) : Prop where
  ex : ∃ (oc : Value) (od : Option Addr) (kV doc pm : Value) (an : Option Addr) (cdv ct : Value) (osl : Array (Option Value)),
    fd = PySem.W.fnOf x qual (defArgs st) (defBody st) (defScope st) .none kV doc pm an cdv ct ∧ K.lookup f = some ⟨oc, od, .func fd, osl⟩ ∧ PySem.W.codeIn K cdv qual = true
  kp : PySem.W.keepIn K (.ref f) = true
section
variable {P : Program} {w : World} {K : PySem.W.Frag} {mg : Str → Option Value} {base : Heap}
/-- THE RULE for a def: its body as a term of rules, and the reading of that term -/
theorem Fun.ok {x qual : Str} {st : Stmt} {f : Addr} {fd : FuncData} {N ps : List Str} {k : Nat} {sp : Sp} (F : Fun K x qual st f fd) (S : FnScope N ps (defScope st)) (len : ∀ vs H Q E, sp vs H Q E → vs.length = ps.length)
    (hbody : ∀ (cdv : Value) (A : Around) (outer : List Env) (s : Shared) (H : Hp) (vs : List V) (Q : VK) (E : XK), Room k (A.deeper (envOfC qual (defScope st) s.heap.objs.size f cdv)) → sp vs H Q E →
      ∃ t, PSs (cxOf CX0 P w K mg base N qual (defScope st) f cdv A outer s H E).nox (defBody st) t ∧ t { nx := fun _ H' => Q .non H', rt := Q } (start N vs) H) : FnOk P w K mg base CX0 (k + 1) f fd ps sp := by
  obtain ⟨oc, od, kV, doc, pm, an, cdv, ct, osl, rfl, lk, hcd⟩ := F.ex
  refine fn_of lk hcd S len fun A outer s H vs Q E hr hsp => ?_
  obtain ⟨t, h, q⟩ := hbody cdv A outer s H vs Q E hr hsp
  exact ⟨t, h.nox, q⟩
/-- how its arguments bind (no defaults): h is «fun _ _ _ _ _ _ us hl => match us, hl with | [_, _], _ => rfl», one _ a parameter -/
theorem Fun.binds {x qual : Str} {st : Stmt} {f : Addr} {fd : FuncData} {ps : List Str} (F : Fun K x qual st f fd)
    (h : ∀ (kV doc pm : Value) (an : Option Addr) (cdv ct : Value) (us : List Value), us.length = ps.length → bindArgs (PySem.W.fnOf x qual (defArgs st) (defBody st) (defScope st) .none kV doc pm an cdv ct) ⟨us, []⟩ = pure (ps.zip us)) : Binds K fd ps [] := by
  obtain ⟨oc, od, kV, doc, pm, an, cdv, ct, osl, rfl, lk, hcd⟩ := F.ex
  exact .all (h kV doc pm an cdv ct)
theorem fun_mk {x qual : Str} {st : Stmt} {f : Addr} {oc : Value} {od an : Option Addr} {osl : Array (Option Value)} {kV doc pm cdv ct : Value} (l : K.lookup f = some ⟨oc, od, .func (PySem.W.fnOf x qual (defArgs st) (defBody st) (defScope st) .none kV doc pm an cdv ct), osl⟩)
    (c : PySem.W.codeIn K cdv qual = true) (k : PySem.W.keepIn K (.ref f) = true) : Fun K x qual st f (PySem.W.fnOf x qual (defArgs st) (defBody st) (defScope st) .none kV doc pm an cdv ct) := ⟨⟨oc, od, kV, doc, pm, an, cdv, ct, osl, rfl, l, c⟩, k⟩
end
theorem hu_of {A : Around} {k : Nat} (hr : Room k A) : A.units + 1 < cLine := Nat.lt_of_le_of_lt (Nat.add_le_add_left (by decide : 1 ≤ 64) _) hr.units
theorem small1000 {n : Nat} (h : n ≤ 1000) : n < sizeLine := Nat.lt_of_le_of_lt h (by decide)

/-! ### expressions in short: the name that stands in the i-th slot -/
section
variable {X : Cx}
theorem pv (i : Nat) {x : Str} {pos : Pos} (hN : X.N[i]? = some x := by rfl) (hv : Vis X.env.scope x := by first | exact Or.inl rfl | exact Or.inr (Or.inl rfl) | exact Or.inr (Or.inr rfl)) (hd : (x == ("__debug__" : Str)) = false := by decide)
    (hcd : (x == ("__classdict__" : Str)) = false := by decide) : PE X (.Name x pos) (tVar i) := pe_var hN hv hd hcd
/-- len of a dict -/
theorem call_lenD : CallR X (.builtin "len") (fun xs H Q => ∃ a kvs, xs = [V.ref a] ∧ H a = some (.dK kvs) ∧ Q (.int kvs.length) H) := by
  intro pins s σ H xs us Q I r h
  obtain ⟨a, kvs, rfl, ha, q⟩ := h
  obtain ⟨u, rfl, ru⟩ := vals1 r
  cases ru
  exact d_len I (.inl ha) fun t s' I' => ⟨.int kvs.length, H, I', ⟨t, rfl⟩, q⟩
end

/-! ### tests -/
/-! ### heaps -/
/-- all that was tracked is as it was -/
def Same (H H' : Hp) : Prop := ∀ b o, H b = some o → H' b = some o
theorem Same.refl (H : Hp) : Same H H := fun _ _ h => h
theorem Same.trans {H H1 H2 : Hp} (a : Same H H1) (b : Same H1 H2) : Same H H2 := fun c o h => b c o (a c o h)
theorem Same.free {H H' : Hp} (e : Same H H') {l : Addr} (h : H' l = Option.none) : H l = Option.none := by
  cases q : H l with
  | none => rfl
  | some o =>
    rw [e l o q] at h
    cases h
theorem Same.seq {K : PySem.W.Frag} {H H' : Hp} {a : Addr} {xs : List V} (e : Same H H') (h : SqL K H a xs) : SqL K H' a xs := by
  rcases h with (h | ⟨o, h⟩) | h
  · exact .inl (.inl (e _ _ h))
  · exact .inl (.inr ⟨o, e _ _ h⟩)
  · exact .inr h

/-! ### a dict's pairs: keys that differ -/
section
variable {κ : Type} [DecidableEq κ]
theorem nd_snoc : ∀ {l : List κ} {k : κ}, l.Nodup → ¬ k ∈ l → (l ++ [k]).Nodup
  | [], k, _, _ => by simp
  | a :: r, k, h, hk => by
    obtain ⟨h1, h2⟩ := List.nodup_cons.mp h
    show (a :: (r ++ [k])).Nodup
    refine List.nodup_cons.mpr ⟨fun m => ?_, nd_snoc h2 fun m => hk (List.mem_cons.mpr (Or.inr m))⟩
    rcases List.mem_append.mp m with q | q
    · exact h1 q
    · exact hk (List.mem_cons.mpr (Or.inl (List.mem_singleton.mp q).symm))
end
/-! ### lists -/
/-- a new instance and its __init__ leave all that was tracked as it was -/
theorem Same.made {H H1 : Hp} {x dx C : Addr} (nx : H x = Option.none) (nd : H dx = Option.none) (k : ∀ b o, (upd (upd H dx (.own x)) x (.ins C dx [])) b = some o → b ≠ x → H1 b = some o) : Same H H1 := fun b o e =>
  k b o (by rw [upd_ne (ne_of_none e nx), upd_ne (ne_of_none e nd)]; exact e) (ne_of_none e nx)
end L2

section
set_option Elab.async false
set_option linter.all false
set_option maxRecDepth 100000
set_option maxHeartbeats 2000000
namespace L2
open PySem PySem.Spec PyProof.Rows
open PySem.W (WData Codec OpenSpec Well WellAll ReadsW ReadsAllW)
/-! ### an answer as data -/
mutual
/-- x stands for the datum d, lists and tuples all the way -/
inductive Dw (K : PySem.W.Frag) (H : Hp) : V → WData → Prop
  | non : Dw K H .non .none
  | bl (b : Bool) : Dw K H (.bl b) (.bool b)
  | int (i : Int) : Dw K H (.int i) (.int i)
  | str (x : Str) : Dw K H (.str x) (.str x)
  | byt (b : Array UInt8) : Dw K H (.byt b) (.bytes b.toList)
  | lst {a : Addr} {xs : List V} {ds : List WData} : SqL K H a xs → DwAll K H xs ds → Dw K H (.ref a) (.list ds)
  | tup {a : Addr} {xs : List V} {ds : List WData} : SqT K H a xs → DwAll K H xs ds → Dw K H (.ref a) (.tuple ds)
inductive DwAll (K : PySem.W.Frag) (H : Hp) : List V → List WData → Prop
  | nil : DwAll K H [] []
  | cons {v : V} {vs : List V} {d : WData} {ds : List WData} : Dw K H v d → DwAll K H vs ds → DwAll K H (v :: vs) (d :: ds)
end
theorem dw_ints {K : PySem.W.Frag} {H : Hp} : ∀ ns : List Int, DwAll K H (ns.map V.int) (ns.map WData.int)
  | [] => .nil
  | n :: r => .cons (.int n) (dw_ints r)
theorem ints_dw {K : PySem.W.Frag} {H : Hp} : ∀ (ns : List Int) (xs : List V), DwAll K H xs (ns.map WData.int) → xs = ns.map V.int
  | [], xs, h => by
    cases h
    rfl
  | n :: r, xs, h => by
    cases h with
    | cons h1 h2 =>
      cases h1
      rw [ints_dw r _ h2] <;> rfl
section
variable {P : Program} {w : World} {K : PySem.W.Frag} {H : Hp} {h : Heap} {R : PySem.W.WRecords} {cl : Str → Option Addr}
theorem sqL_at {a : Addr} {xs : List V} (hok : HOk P w H h) (KX : K.In h) (q : SqL K H a xs) : ∃ (its : List Value) (o : Obj) (n : Nat), Vals xs its ∧ h.get? a = some o ∧ o.cls = .type "list" ∧ o.data = .seq its.toArray n := by
  rcases q with q | ⟨o, its, n, e, hc, _, hd, _, hv⟩
  · obtain ⟨_, its, n, hv, e⟩ := (show ObjOk P w H h a (.lst xs) from q.ok hok)
    exact ⟨its, _, n, hv, e, rfl, rfl⟩
  · exact ⟨its.toList, o, n, hv, KX _ _ e, hc, by simp [hd]⟩
theorem sqT_at {a : Addr} {xs : List V} (hok : HOk P w H h) (KX : K.In h) (q : SqT K H a xs) : ∃ (its : List Value) (o : Obj) (n : Nat), Vals xs its ∧ h.get? a = some o ∧ o.cls = .type "tuple" ∧ o.data = .seq its.toArray n := by
  rcases q with q | ⟨o, its, n, e, hc, hd, _, hv⟩
  · obtain ⟨_, its, hv, o, e, hc, n, hd⟩ := (show ObjOk P w H h a (.tup xs) from q.ok hok)
    exact ⟨its, o, n, hv, e, hc, hd⟩
  · exact ⟨its.toList, o, n, hv, KX _ _ e, hc, by simp [hd]⟩
mutual
theorem Dw.reads (hok : HOk P w H h) (KX : K.In h) : ∀ (d : WData) (v : V) (u : Value), Dw K H v d → RelV v u → ∃ as, ReadsW R cl h u d as
  | .none, _, _, x, r => by
    cases x
    cases r
    exact ⟨_, ReadsW.none⟩
  | .bool b, _, _, x, r => by
    cases x
    cases r
    exact ⟨_, ReadsW.bool b⟩
  | .int i, _, _, x, r => by
    cases x
    obtain ⟨t, rfl⟩ := r
    exact ⟨_, ReadsW.int i t⟩
  | .str s, _, _, x, r => by
    cases x
    obtain ⟨t, rfl⟩ := r
    exact ⟨_, ReadsW.str s t⟩
  | .bytes b, _, _, x, r => by
    cases x
    obtain ⟨t, rfl⟩ := r
    exact ⟨_, ReadsW.bytes _ t⟩
  | .list ds, _, _, x, r => by
    cases x with
    | lst hs ha =>
      cases r
      obtain ⟨its, o, n, rv, ho, hc, hd⟩ := sqL_at hok KX hs
      obtain ⟨as, hr⟩ := Dw.readsAll hok KX ds _ its ha rv
      exact ⟨_, ReadsW.list ho hc hd hr⟩
  | .tuple ds, _, _, x, r => by
    cases x with
    | tup hs ha =>
      cases r
      obtain ⟨its, o, n, rv, ho, hc, hd⟩ := sqT_at hok KX hs
      obtain ⟨as, hr⟩ := Dw.readsAll hok KX ds _ its ha rv
      exact ⟨_, ReadsW.tuple ho hc hd hr⟩
  | .float _, _, _, x, _ => by cases x
  | .dict _, _, _, x, _ => by cases x
  | .bytearray _, _, _, x, _ => by cases x
  | .set _, _, _, x, _ => by cases x
  | .frozenset _, _, _, x, _ => by cases x
  | .obj _ _, _, _, x, _ => by cases x
theorem Dw.readsAll (hok : HOk P w H h) (KX : K.In h) : ∀ (ds : List WData) (vs : List V) (us : List Value), DwAll K H vs ds → Vals vs us → ∃ as, ReadsAllW R cl h us ds as
  | [], _, _, x, r => by
    cases x
    cases r
    exact ⟨_, ReadsAllW.nil⟩
  | d :: ds, _, _, x, r => by
    cases x with
    | cons h1 h2 =>
      cases r with
      | cons r1 r2 =>
        obtain ⟨as, q1⟩ := Dw.reads hok KX d _ _ h1 r1
        obtain ⟨bs, q2⟩ := Dw.readsAll hok KX ds _ _ h2 r2
        exact ⟨_, ReadsAllW.cons q1 q2⟩
end
end
/-! ### the arguments -/
mutual
/-- data that a codec tells -/
def plW : WData → Bool
  | .none => true
  | .bool _ => true
  | .int _ => true
  | .str _ => true
  | .bytes _ => true
  | .list xs => plWs xs
  | .tuple xs => plWs xs
  | _ => false
def plWs : List WData → Bool
  | [] => true
  | x :: r => plW x && plWs r
end
theorem plWs_map {α : Type} {f : α → WData} (h : ∀ a, plW (f a) = true) : ∀ l : List α, plWs (l.map f) = true
  | [] => rfl
  | x :: r => by
    show (plW (f x) && plWs (r.map f)) = true
    rw [h x, plWs_map h r] <;> rfl
theorem pl_enc : ∀ (c : Codec) (a : c.denote), plW (c.enc a) = true
  | .unit, _ => rfl
  | .bool, _ => rfl
  | .int _ _, _ => rfl
  | .nat _ _, _ => rfl
  | .u8, _ => rfl
  | .bytes _ _, _ => rfl
  | .text _ _ _ _, _ => rfl
  | .list _ _ c, a => plWs_map (fun x => pl_enc c x) a
  | .pair c d, a => by
    show (plW (c.enc a.1) && (plW (d.enc a.2) && true)) = true
    rw [pl_enc c a.1, pl_enc d a.2] <;> rfl
  | .triple c d e, a => by
    show (plW (c.enc a.1) && (plW (d.enc a.2.1) && (plW (e.enc a.2.2) && true))) = true
    rw [pl_enc c a.1, pl_enc d a.2.1, pl_enc e a.2.2] <;> rfl
  | .option c, none => rfl
  | .option c, some x => pl_enc c x
theorem pl_encAll : ∀ (cs : List Codec) (a : Codec.denoteAll cs), plWs (Codec.encAll cs a) = true
  | [], _ => rfl
  | c :: cs, a => by
    show (plW (c.enc a.1) && plWs (Codec.encAll cs a.2)) = true
    rw [pl_enc c a.1, pl_encAll cs a.2] <;> rfl
theorem weight_mem : ∀ {xs : List WData} {d : WData}, d ∈ xs → d.weight ≤ WData.weightAll xs
  | [], d, h => absurd h (by simp)
  | x :: r, d, h => by
    show d.weight ≤ x.weight + 1 + WData.weightAll r
    rcases List.mem_cons.mp h with e | m
    · rw [e]
      omega
    · have z := weight_mem m
      omega
def toV : Value → V
  | .none => .non
  | .bool b => .bl b
  | .int i _ => .int i
  | .str x _ => .str x
  | .bytes b _ => .byt b
  | .ref a => .ref a
  | _ => .non
/-- a value of the arguments, its objects among A -/
def OkU (A : List Addr) : Value → Prop
  | .none => True
  | .bool _ => True
  | .int _ _ => True
  | .str _ _ => True
  | .bytes _ _ => True
  | .ref a => a ∈ A
  | _ => False
theorem OkU.mono {A B : List Addr} (h : ∀ a ∈ A, a ∈ B) : ∀ {u : Value}, OkU A u → OkU B u := fun {u} x => by
  cases u with
  | ref a => exact h a x
  | none => trivial
  | bool b => trivial
  | int i t => trivial
  | str s t => trivial
  | bytes b t => trivial
  | _ => exact False.elim x
theorem relV_toV {A : List Addr} {u : Value} (x : OkU A u) : RelV (toV u) u := by
  cases u with
  | ref a => rfl
  | none => rfl
  | bool b => rfl
  | int i t => exact ⟨t, rfl⟩
  | str s t => exact ⟨t, rfl⟩
  | bytes b t => exact ⟨t, rfl⟩
  | _ => exact False.elim x
theorem vals_toV {A : List Addr} : ∀ {vs : List Value}, (∀ u ∈ vs, OkU A u) → Vals (vs.map toV) vs
  | [], _ => .nil
  | u :: r, h => .cons (relV_toV (h u (List.mem_cons_self ..))) (vals_toV fun x hx => h x (List.mem_cons_of_mem _ hx))
/-- an object of the arguments -/
def ArgOb (h : Heap) (A : List Addr) (a : Addr) : Prop := ∃ vs : List Value, vs.length ≤ sizeLine ∧ (∀ u ∈ vs, OkU A u) ∧
  (h.get? a = some { cls := .type "list", data := .seq vs.toArray } ∨ h.get? a = some { cls := .type "tuple", data := .seq vs.toArray })
theorem ArgOb.mono {h : Heap} {A B : List Addr} {a : Addr} (k : ∀ a ∈ A, a ∈ B) (x : ArgOb h A a) : ArgOb h B a := by
  obtain ⟨vs, h1, h2, h3⟩ := x
  exact ⟨vs, h1, fun u hu => (h2 u hu).mono k, h3⟩
theorem wellAll_len {P : Params} {h : Heap} : ∀ {vs : List Value} {ds : List WData}, WellAll P h vs ds → vs.length = ds.length
  | _, _, .nil => rfl
  | _, _, .cons _ b => by
    show _ + 1 = _ + 1
    rw [wellAll_len b]
theorem well_list {P : Params} {h : Heap} {v : Value} {ds : List WData} (x : Well P h v (.list ds)) : ∃ (a : Addr) (vs : List Value), v = .ref a ∧ h.get? a = some { cls := .type "list", data := .seq vs.toArray } ∧ WellAll P h vs ds := by
  cases x with
  | list ho hall => exact ⟨_, _, rfl, ho, hall⟩
theorem well_tuple {P : Params} {h : Heap} {v : Value} {ds : List WData} (x : Well P h v (.tuple ds)) : ∃ (a : Addr) (vs : List Value), v = .ref a ∧ h.get? a = some { cls := .type "tuple", data := .seq vs.toArray } ∧ WellAll P h vs ds := by
  cases x with
  | tuple ho hall => exact ⟨_, _, rfl, ho, hall⟩
theorem well_cons {P : Params} {h : Heap} {us : List Value} {d : WData} {ds : List WData} (x : WellAll P h us (d :: ds)) : ∃ (v : Value) (vs : List Value), us = v :: vs ∧ Well P h v d ∧ WellAll P h vs ds := by
  cases x with
  | cons a b => exact ⟨_, _, rfl, a, b⟩
theorem line_of {n : Nat} (h : n ≤ 1048576) : n ≤ sizeLine := Nat.le_trans h (by decide)
section
variable {P : Params} {h : Heap}
mutual
theorem area_one : ∀ (d : WData) (v : Value), Well P h v d → plW d = true → d.weight ≤ 1048576 → ∃ A : List Addr, OkU A v ∧ ∀ a ∈ A, ArgOb h A a
  | .none, _, x, _, _ => by
    cases x
    exact ⟨[], trivial, fun a m => absurd m (by simp)⟩
  | .bool b, _, x, _, _ => by
    cases x
    exact ⟨[], trivial, fun a m => absurd m (by simp)⟩
  | .int i, _, x, _, _ => by
    cases x
    exact ⟨[], trivial, fun a m => absurd m (by simp)⟩
  | .str s, _, x, _, _ => by
    cases x
    exact ⟨[], trivial, fun a m => absurd m (by simp)⟩
  | .bytes b, _, x, _, _ => by
    cases x
    exact ⟨[], trivial, fun a m => absurd m (by simp)⟩
  | .list ds, _, x, p, z => by
    obtain ⟨a, vs, rfl, ho, hall⟩ := well_list x
    have z2 : WData.weightAll ds ≤ 1048576 := z
    obtain ⟨A, h1, h2⟩ := area_all ds _ hall p fun d hd => Nat.le_trans (weight_mem hd) z2
    have k : ∀ b ∈ A, b ∈ a :: A := fun b hb => List.mem_cons_of_mem _ hb
    refine ⟨a :: A, List.mem_cons_self .., fun b hb => ?_⟩
    rcases List.mem_cons.mp hb with e | m
    · rw [e]
      exact ⟨vs, line_of (by rw [wellAll_len hall]; exact Nat.le_trans (PySem.W.length_le_weightAllW ds) z2), fun u hu => (h1 u hu).mono k, .inl ho⟩
    · exact (h2 b m).mono k
  | .tuple ds, _, x, p, z => by
    obtain ⟨a, vs, rfl, ho, hall⟩ := well_tuple x
    have z2 : WData.weightAll ds ≤ 1048576 := z
    obtain ⟨A, h1, h2⟩ := area_all ds _ hall p fun d hd => Nat.le_trans (weight_mem hd) z2
    have k : ∀ b ∈ A, b ∈ a :: A := fun b hb => List.mem_cons_of_mem _ hb
    refine ⟨a :: A, List.mem_cons_self .., fun b hb => ?_⟩
    rcases List.mem_cons.mp hb with e | m
    · rw [e]
      exact ⟨vs, line_of (by rw [wellAll_len hall]; exact Nat.le_trans (PySem.W.length_le_weightAllW ds) z2), fun u hu => (h1 u hu).mono k, .inr ho⟩
    · exact (h2 b m).mono k
  | .float _, _, _, p, _ => Bool.noConfusion (show false = true from p)
  | .dict _, _, _, p, _ => Bool.noConfusion (show false = true from p)
  | .bytearray _, _, _, p, _ => Bool.noConfusion (show false = true from p)
  | .set _, _, _, p, _ => Bool.noConfusion (show false = true from p)
  | .frozenset _, _, _, p, _ => Bool.noConfusion (show false = true from p)
  | .obj _ _, _, _, p, _ => Bool.noConfusion (show false = true from p)
theorem area_all : ∀ (ds : List WData) (vs : List Value), WellAll P h vs ds → plWs ds = true → (∀ d ∈ ds, d.weight ≤ 1048576) → ∃ A : List Addr, (∀ u ∈ vs, OkU A u) ∧ ∀ a ∈ A, ArgOb h A a
  | [], _, x, _, _ => by
    cases x
    exact ⟨[], fun u m => absurd m (by simp), fun a m => absurd m (by simp)⟩
  | d :: ds, _, x, p, z => by
    obtain ⟨v, vs, rfl, x1, x2⟩ := well_cons x
    have q : plW d = true ∧ plWs ds = true := Bool.and_eq_true_iff.mp p
    obtain ⟨A, a1, a2⟩ := area_one d v x1 q.1 (z d (List.mem_cons_self ..))
    obtain ⟨B, b1, b2⟩ := area_all ds vs x2 q.2 fun e he => z e (List.mem_cons_of_mem _ he)
    have kA : ∀ b ∈ A, b ∈ A ++ B := fun b hb => List.mem_append.mpr (.inl hb)
    have kB : ∀ b ∈ B, b ∈ A ++ B := fun b hb => List.mem_append.mpr (.inr hb)
    refine ⟨A ++ B, fun u hu => ?_, fun b hb => ?_⟩
    · rcases List.mem_cons.mp hu with e | m
      · rw [e]
        exact a1.mono kA
      · exact (b1 u m).mono kB
    · rcases List.mem_append.mp hb with m | m
      · exact (a2 b m).mono kA
      · exact (b2 b m).mono kB
end
end
/-- what is tracked of an argument's object -/
def hoOf (o : Obj) : Option HO := match o.data with
  | .seq vs _ => if (o.cls == Value.type "list") = true then some (.frz o (.lst (vs.toList.map toV))) else some (.frz o (.tup (vs.toList.map toV)))
  | _ => none
def argH (K : PySem.W.Frag) (h : Heap) (A : List Addr) : Hp := fun b => if b ∈ A then (if (K.lookup b).isNone = true then (h.get? b).bind hoOf else none) else none
/-- nothing is tracked but what is known to the object -/
def OnlyF (H : Hp) : Prop := ∀ b, H b = none ∨ ∃ o u, H b = some (.frz o u)
theorem hoOf_lst (vs : List Value) : hoOf { cls := .type "list", data := .seq vs.toArray } = some (.frz { cls := .type "list", data := .seq vs.toArray } (.lst (vs.map toV))) := by
  show (if (Value.type "list" == Value.type "list") = true then some (HO.frz { cls := .type "list", data := .seq vs.toArray } (.lst (vs.toArray.toList.map toV))) else some (HO.frz { cls := .type "list", data := .seq vs.toArray } (.tup (vs.toArray.toList.map toV)))) = _
  rw [if_pos (beq_self_eq_true _)]
theorem hoOf_tup (vs : List Value) : hoOf { cls := .type "tuple", data := .seq vs.toArray } = some (.frz { cls := .type "tuple", data := .seq vs.toArray } (.tup (vs.map toV))) := by
  show (if (Value.type "tuple" == Value.type "list") = true then some (HO.frz { cls := .type "tuple", data := .seq vs.toArray } (.lst (vs.toArray.toList.map toV))) else some (HO.frz { cls := .type "tuple", data := .seq vs.toArray } (.tup (vs.toArray.toList.map toV)))) = _
  rw [if_neg (by decide)]
section
variable {P : Program} {w : World} {K : PySem.W.Frag} {h : Heap} {A : List Addr}
theorem argH_at {b : Addr} {o : Obj} (hb : b ∈ A) (hk : K.lookup b = none) (e : h.get? b = some o) : argH K h A b = hoOf o := by
  unfold argH
  rw [if_pos hb, hk, if_pos (show (none : Option Obj).isNone = true from rfl), e] <;> rfl
theorem of_argH {b : Addr} {u : HO} (q : argH K h A b = some u) : b ∈ A ∧ K.lookup b = none := by
  unfold argH at q
  by_cases hb : b ∈ A
  · rw [if_pos hb] at q
    cases hk : K.lookup b with
    | none => exact ⟨hb, rfl⟩
    | some o =>
      rw [hk, if_neg (by simp)] at q
      cases q
  · rw [if_neg hb] at q
    cases q
/-- what stands tracked -/
theorem argH_is (ar : ∀ a ∈ A, ArgOb h A a) {b : Addr} {u : HO} (q : argH K h A b = some u) : K.lookup b = none ∧ ∃ vs : List Value, vs.length ≤ sizeLine ∧ (∀ u ∈ vs, OkU A u) ∧
    ((h.get? b = some { cls := .type "list", data := .seq vs.toArray } ∧ u = .frz { cls := .type "list", data := .seq vs.toArray } (.lst (vs.map toV))) ∨
     (h.get? b = some { cls := .type "tuple", data := .seq vs.toArray } ∧ u = .frz { cls := .type "tuple", data := .seq vs.toArray } (.tup (vs.map toV)))) := by
  obtain ⟨hb, hk⟩ := of_argH q
  obtain ⟨vs, h1, h2, h3⟩ := ar b hb
  refine ⟨hk, vs, h1, h2, ?_⟩
  rcases h3 with e | e
  · rw [argH_at hb hk e, hoOf_lst] at q
    exact .inl ⟨e, (Option.some.inj q).symm⟩
  · rw [argH_at hb hk e, hoOf_tup] at q
    exact .inr ⟨e, (Option.some.inj q).symm⟩
theorem argH_only (ar : ∀ a ∈ A, ArgOb h A a) : OnlyF (argH K h A) := fun b => by
  cases q : argH K h A b with
  | none => exact .inl rfl
  | some u =>
    obtain ⟨_, vs, _, _, ⟨_, e⟩ | ⟨_, e⟩⟩ := argH_is ar q
    · exact .inr ⟨_, _, by rw [e]⟩
    · exact .inr ⟨_, _, by rw [e]⟩
theorem argH_ok (ar : ∀ a ∈ A, ArgOb h A a) : HOk P w (argH K h A) h := fun b u q => by
  obtain ⟨_, vs, h1, h2, ⟨e, rfl⟩ | ⟨e, rfl⟩⟩ := argH_is ar q
  · exact ⟨e, by rw [List.length_map]; exact h1, vs, _, vals_toV h2, e⟩
  · exact ⟨e, by rw [List.length_map]; exact h1, vs, vals_toV h2, _, e, rfl, _, rfl⟩
theorem seq_inj {c c' : Value} {vs us : List Value} (e : (some { cls := c, data := .seq vs.toArray } : Option Obj) = some { cls := c', data := .seq us.toArray }) : c = c' ∧ vs = us := by
  have e1 := Option.some.inj e
  have e2 : c = c' := congrArg Obj.cls e1
  have e3 : Data.seq vs.toArray = Data.seq us.toArray := congrArg Obj.data e1
  injection e3 with e4
  refine ⟨e2, ?_⟩
  have e5 := congrArg Array.toList e4
  simpa using e5
/-- a list argument -/
theorem argL (KX : K.In h) (ar : ∀ a ∈ A, ArgOb h A a) {a : Addr} {vs : List Value} (ha : a ∈ A) (e : h.get? a = some { cls := .type "list", data := .seq vs.toArray }) : (∀ u ∈ vs, OkU A u) ∧ SqL K (argH K h A) a (vs.map toV) := by
  obtain ⟨us, h1, h2, h3⟩ := ar a ha
  have hu : us = vs := by
    rcases h3 with q | q
    · rw [e] at q
      exact (seq_inj q).2.symm
    · rw [e] at q
      exact absurd (Value.type.inj (seq_inj q).1) (by decide)
  subst hu
  refine ⟨h2, ?_⟩
  cases hk : K.lookup a with
  | none => exact .inl (.inr ⟨_, by rw [argH_at ha hk e, hoOf_lst]⟩)
  | some o =>
    have e2 := KX a o hk
    rw [e] at e2
    obtain rfl := Option.some.inj e2
    exact .inr ⟨_, us.toArray, _, hk, rfl, rfl, rfl, by rw [List.size_toArray]; exact h1, by simpa using vals_toV h2⟩
theorem argT (KX : K.In h) (ar : ∀ a ∈ A, ArgOb h A a) {a : Addr} {vs : List Value} (ha : a ∈ A) (e : h.get? a = some { cls := .type "tuple", data := .seq vs.toArray }) : (∀ u ∈ vs, OkU A u) ∧ SqT K (argH K h A) a (vs.map toV) := by
  obtain ⟨us, h1, h2, h3⟩ := ar a ha
  have hu : us = vs := by
    rcases h3 with q | q
    · rw [e] at q
      exact absurd (Value.type.inj (seq_inj q).1) (by decide)
    · rw [e] at q
      exact (seq_inj q).2.symm
  subst hu
  refine ⟨h2, ?_⟩
  cases hk : K.lookup a with
  | none => exact .inl (.inr ⟨_, by rw [argH_at ha hk e, hoOf_tup]⟩)
  | some o =>
    have e2 := KX a o hk
    rw [e] at e2
    obtain rfl := Option.some.inj e2
    exact .inr ⟨_, us.toArray, _, hk, rfl, rfl, by rw [List.size_toArray]; exact h1, by simpa using vals_toV h2⟩
mutual
theorem dw_one {Pm : Params} (KX : K.In h) (ar : ∀ a ∈ A, ArgOb h A a) : ∀ (d : WData) (v : Value), Well Pm h v d → plW d = true → OkU A v → Dw K (argH K h A) (toV v) d
  | .none, _, x, _, _ => by
    cases x
    exact .non
  | .bool b, _, x, _, _ => by
    cases x
    exact .bl b
  | .int i, _, x, _, _ => by
    cases x
    exact .int i
  | .str s, _, x, _, _ => by
    cases x
    exact .str s
  | .bytes b, _, x, _, _ => by
    cases x
    have z := Dw.byt (K := K) (H := argH K h A) b.toArray
    exact z
  | .list ds, _, x, p, hu => by
    obtain ⟨a, vs, rfl, ho, hall⟩ := well_list x
    obtain ⟨h2, hs⟩ := argL KX ar hu ho
    exact .lst hs (dw_all KX ar ds _ hall p h2)
  | .tuple ds, _, x, p, hu => by
    obtain ⟨a, vs, rfl, ho, hall⟩ := well_tuple x
    obtain ⟨h2, hs⟩ := argT KX ar hu ho
    exact .tup hs (dw_all KX ar ds _ hall p h2)
  | .float _, _, _, p, _ => Bool.noConfusion (show false = true from p)
  | .dict _, _, _, p, _ => Bool.noConfusion (show false = true from p)
  | .bytearray _, _, _, p, _ => Bool.noConfusion (show false = true from p)
  | .set _, _, _, p, _ => Bool.noConfusion (show false = true from p)
  | .frozenset _, _, _, p, _ => Bool.noConfusion (show false = true from p)
  | .obj _ _, _, _, p, _ => Bool.noConfusion (show false = true from p)
theorem dw_all {Pm : Params} (KX : K.In h) (ar : ∀ a ∈ A, ArgOb h A a) : ∀ (ds : List WData) (vs : List Value), WellAll Pm h vs ds → plWs ds = true → (∀ u ∈ vs, OkU A u) → DwAll K (argH K h A) (vs.map toV) ds
  | [], _, x, _, _ => by
    cases x
    exact .nil
  | d :: ds, _, x, p, hu => by
    obtain ⟨v, vs, rfl, x1, x2⟩ := well_cons x
    have q : plW d = true ∧ plWs ds = true := Bool.and_eq_true_iff.mp p
    exact .cons (dw_one KX ar d v x1 q.1 (hu _ (List.mem_cons_self ..))) (dw_all KX ar ds vs x2 q.2 fun u m => hu u (List.mem_cons_of_mem _ m))
end
end
/-! ### the call -/
theorem spec_call {P : Program} {w : World} {K : PySem.W.Frag} {mg mb : Str → Option Value} {CX : CXT} {k : Nat} {fa : Addr} {fd : FuncData} {ps : List Str} {sp : Sp} {s₁ : Shared} {vals : List Value} {ds : List WData} {R : PySem.W.WRecords} {cl : Str → Option Addr} {d0 : WData}
    (KX : K.In s₁.heap) (hns : s₁.heap.Ns mainGlobals mg) (hb : s₁.heap.Ns builtinsNs mb) (hbb : ∀ x : Str, x ≠ "__name__" → mb x = bootBuiltins x) (hlim : s₁.heap.NoLimit) (hg : s₁.gens = #[])
    (hwl : WellAll w.params s₁.heap vals ds) (hpl : plWs ds = true) (hwt : ∀ d ∈ ds, d.weight ≤ 1048576) (hr : Room k callerA)
    (F : ∀ base : Heap, K.In base → base.Ns mainGlobals mg → FnOk P w K mg base CX k fa fd ps sp) (hbind : ∀ (s : Shared) (us : List Value), us.length = ps.length → BindsTo s fd ⟨us, []⟩ (ps.zip us)) (hlen : ds.length = ps.length)
    (hsp : ∀ (H : Hp) (xs : List V), OnlyF H → DwAll K H xs ds → sp xs H (fun v H' => Dw K H' v d0) fun _ _ _ => False)
    (hCX : ∀ H e s', CX [] H s₁ (fun _ _ _ => False) e s' → False) :
    codeAny (model P w) callerA (.call (.ref fa) ⟨vals, []⟩) (fun r s' => ∃ u as, r = .ok (.ret u) ∧ ReadsW R cl s'.heap u d0 as ∧ OldK s₁.heap s'.heap ∧ s'.os = s₁.os ∧ AllBare s'.gens) s₁ := by
  obtain ⟨A, ho, ar⟩ := area_all ds vals hwl hpl hwt
  have hO : OnlyF (argH K s₁.heap A) := argH_only ar
  have hok : HOk P w (argH K s₁.heap A) s₁.heap := argH_ok ar
  have hS := dw_all KX ar ds vals hwl hpl ho
  have hV := vals_toV ho
  have hK : ∀ b u, argH K s₁.heap A b = some u → K.lookup b = none := fun b u q => (argH_is ar q).1
  have noA : ∀ {b : Addr} {o : Obj} {es : Array DictEntry} {ep : Nat}, s₁.heap.get? b = some o → o.data = .dict es ep → argH K s₁.heap A b = none := fun {b o es ep} e d => by
    cases q : argH K s₁.heap A b with
    | none => rfl
    | some u =>
      obtain ⟨_, vs, _, _, ⟨e2, _⟩ | ⟨e2, _⟩⟩ := argH_is ar q
      · rw [e2] at e
        cases e
        have d' : Data.seq vs.toArray _ = Data.dict es ep := d
        cases d'
      · rw [e2] at e
        cases e
        have d' : Data.seq vs.toArray _ = Data.dict es ep := d
        cases d'
  generalize argH K s₁.heap A = H at hO hok hS hK noA
  have base_of : ∀ {b : Addr} {o : Obj}, s₁.heap.get? b = some o → H b = none → (hidT s₁.heap H).get? b = some o := fun e n => hidT_get e n
  have nsK : ∀ {b : Addr} {m : Str → Option Value}, s₁.heap.Ns b m → (hidT s₁.heap H).Ns b m := fun {b m} ⟨o, es, ep, e, d, r⟩ => ⟨o, es, ep, base_of e (noA e d), d, r⟩
  have nK : ∀ b o, K.lookup b = some o → H b = none := fun b o e => by
    cases q : H b with
    | none => rfl
    | some u =>
      rw [hK b u q] at e
      cases e
  have hKb : K.In (hidT s₁.heap H) := fun b o e => base_of (KX b o e) (nK b o e)
  have hM : Mod K mg (hidT s₁.heap H) := ⟨hKb, nsK hns, ⟨mb, nsK hb, hbb⟩, let ⟨mc, h1, h2⟩ := hlim; ⟨mc, nsK h1, h2⟩⟩
  have e0 : Env0 P w K mg (hidT s₁.heap H) callerA [] s₁ H := ⟨rfl, hM, fun b o e => of_hidT e, Nat.le_of_eq (hidT_size _ _), trivial, fun b hb => absurd (show b ∈ ([] : List Addr) from hb) (by simp), hok, .of_eq hg⟩
  have hl : vals.length = ps.length := by rw [wellAll_len hwl]; exact hlen
  refine codeAny_mono ((F _ hKb (nsK hns)).run callerA [] s₁ H ⟨vals, []⟩ vals (vals.map toV) _ _ hr e0 (hbind s₁ vals hl) hV (hsp H _ hO hS)) fun r s' x => ?_
  cases r with
  | error e => exact (hCX H e s' x).elim
  | ok fl =>
    cases fl with
    | next => exact False.elim x
    | brk => exact False.elim x
    | cont => exact False.elim x
    | ret u =>
      obtain ⟨v, H', os, bare, un, hok', r', q⟩ := x
      have kept : ∀ b o, s₁.heap.get? b = some o → s'.heap.get? b = some o := fun b o e => by
        cases q2 : H b with
        | none => exact un.keep b o e q2 (by intro z; exact absurd (show b ∈ ([] : List Addr) from z) (by simp)) (by simp)
        | some u2 =>
          rcases hO b with z | ⟨ob, u3, z⟩
          · rw [q2] at z
            cases z
          · have z2 := un.frzs b ob _ z
            obtain ⟨e1, _⟩ := hok b _ z
            obtain ⟨e2, _⟩ := hok' b _ z2
            rw [e] at e1
            cases e1
            exact e2
      have KX' : K.In s'.heap := fun b o e => kept b o (KX b o e)
      obtain ⟨as, hrd⟩ := Dw.reads (R := R) (cl := cl) hok' KX' d0 v u q r'
      exact ⟨u, as, rfl, hrd, OldK.of_keep kept, os, bare⟩
/-! ### the row -/
theorem layable_weight {ds : List WData} (h : WData.layableAll ds = true) : ∀ d ∈ ds, d.weight ≤ 1048576 := fun d hd =>
  (PySem.W.layableW_iff.mp (List.all_eq_true.mp h d hd)).2.2
theorem encAll_len : ∀ (cs : List Codec) (a : Codec.denoteAll cs), (Codec.encAll cs a).length = cs.length
  | [], _ => rfl
  | c :: cs, a => by
    show (Codec.encAll cs a.2).length + 1 = cs.length + 1
    rw [encAll_len cs a.2]
/-- the goal that k_headS leaves (case hc), from the promise of the row's def: whatever the arguments that the codecs let and the row asks for, the def gives what stands for enc (f ..) -/
theorem walk_spec {r : OpenSpec} {k : Nat} {q : Program} {loose : List Str} {XP : (Str → Option Value) → Heap → Prop} {YP : World → Heap → Prop} {d : DefRec} {K : Params → PySem.W.Frag} {CX : World → CXT} {ps : List Str} {sp : World → Sp}
    (hwell : r.wellSaid = true) (hdf : d.params.defaults = []) (hlen : r.args.length = ps.length) (hr : Room k callerA)
    (hY : ∀ (w : World) (h : Heap), YP w h → (K w.params).In h)
    (F : ∀ (w : World) (mg : Str → Option Value) (fa : Addr) (h : Heap), YP w h → (K w.params).In h → h.Ns mainGlobals mg → mg d.name = some (.ref fa) →
      ∃ fd : FuncData, (∀ (s : Shared) (us : List Value), us.length = ps.length → BindsTo s fd ⟨us, []⟩ (ps.zip us)) ∧
        ∀ base : Heap, (K w.params).In base → base.Ns mainGlobals mg → FnOk r.prog w (K w.params) mg base (CX w) k fa fd ps (sp w))
    (hsp : ∀ (w : World) (H : Hp) (xs : List V) (a : Codec.denoteAll r.args), OnlyF H → Codec.withinAll r.args a = true → Codec.app r.args r.asked a = true → DwAll (K w.params) H xs (Codec.encAll r.args a) →
      sp w xs H (fun v H' => Dw (K w.params) H' v (r.ret.enc (Codec.app r.args r.f a))) fun _ _ _ => False)
    (hCX : ∀ (w : World) (H : Hp) (s : Shared) (e : Value) (s' : Shared), CX w [] H s (fun _ _ _ => False) e s' → False) :
    PySem.W.WalkOS q loose XP YP r d [] (fun f vs => PySem.call f vs) := by
  intro w s_0 s₁ mg mb G Y fa o pm cd doc dV kV ho hd hcd hD hmg hg args vals as hpre hlay hrd hwl hlo
  obtain ⟨a, e1, e2⟩ := PySem.W.os_pre_some hpre
  obtain ⟨e3, hwi⟩ := Codec.encAll_of_decAll r.args args a e1
  subst e3
  have KX := hY w _ Y
  obtain ⟨fd, hb, hF⟩ := F w mg fa _ Y KX G.T.g hmg
  refine PySem.W.enter_call (codeAny_mono (spec_call (R := []) (cl := classAt s_0.heap) (d0 := r.ret.enc (Codec.app r.args r.f a)) KX G.T.g G.T.b G.T.builtins G.T.nolimit hg hwl (pl_encAll _ _) (layable_weight hlay) hr hF hb (by rw [encAll_len]; exact hlen)
    (fun H xs hO hS => hsp w H xs a hO hwi e2 hS) fun H e s' => hCX w H s₁ e s') fun r' s' hq => ?_)
  obtain ⟨u, as', rfl, h1, h2, h3, h4⟩ := hq
  exact ⟨.inl ⟨u, _, as', rfl, fun _ => rfl, h1, (OpenSpec.post_iff hwell hwi _ _).mpr rfl, fun z => Bool.noConfusion (show false = true from z)⟩, h2, h3, h4⟩
/-- the same where the promise hangs on the written part alone -/
theorem walk_specK {r : OpenSpec} {k : Nat} {q : Program} {loose : List Str} {XP : (Str → Option Value) → Heap → Prop} {YP : World → Heap → Prop} {d : DefRec} {K : Params → PySem.W.Frag} {CX : CXT} {ps : List Str} {sp : PySem.W.Frag → Sp}
    (hwell : r.wellSaid = true) (hdf : d.params.defaults = []) (hlen : r.args.length = ps.length) (hr : Room k callerA)
    (hY : ∀ (w : World) (h : Heap), YP w h → (K w.params).In h)
    (F : ∀ (w : World) (mg : Str → Option Value) (fa : Addr) (h : Heap), YP w h → (K w.params).In h → h.Ns mainGlobals mg → mg d.name = some (.ref fa) →
      ∃ fd : FuncData, (∀ (s : Shared) (us : List Value), us.length = ps.length → BindsTo s fd ⟨us, []⟩ (ps.zip us)) ∧
        ∀ base : Heap, (K w.params).In base → base.Ns mainGlobals mg → FnOk r.prog w (K w.params) mg base CX k fa fd ps (sp (K w.params)))
    (hsp : ∀ (K : PySem.W.Frag) (H : Hp) (xs : List V) (a : Codec.denoteAll r.args), OnlyF H → Codec.withinAll r.args a = true → Codec.app r.args r.asked a = true → DwAll K H xs (Codec.encAll r.args a) →
      sp K xs H (fun v H' => Dw K H' v (r.ret.enc (Codec.app r.args r.f a))) fun _ _ _ => False)
    (hCX : ∀ (H : Hp) (s : Shared) (e : Value) (s' : Shared), CX [] H s (fun _ _ _ => False) e s' → False) :
    PySem.W.WalkOS q loose XP YP r d [] (fun f vs => PySem.call f vs) :=
  walk_spec (K := K) (CX := fun _ => CX) (sp := fun w => sp (K w.params)) hwell hdf hlen hr hY F (fun w H xs a h1 h2 h3 h4 => hsp (K w.params) H xs a h1 h2 h3 h4) fun _ H s e s' => hCX H s e s'
end L2
-- rests on (row put in by the clerk, for the bench that shows a file only what it spells): KE.SpHead KE.OsShapes
end

end
section
set_option Elab.async false
set_option linter.all false
set_option maxRecDepth 100000
namespace L2
open PySem PySem.Spec PyProof.Rows
/-! ### max(xs, default = d) -/
theorem mx_args (a v : Value) : argsOk "max" ⟨[a], [(Str.ofString "default", v)]⟩ := by unfold argsOk; kernel_rfl
section
variable {prog : Program} {w : World} {A : Around} {R : Result → Shared → Prop} {I : Addr} {fp wr : List Addr} {n : Nat} {P : Nat → Value → Prop} {St : Nat → Heap → Prop} {dv : Value}
theorem mx_loop (W : Walks prog w A.in1 I fp wr n P St) (bt : Nat → Nat → Bool) (cmp : CmpOf prog w A.in1 .Gt P bt) (S : Addr) (nS : S ∉ fp) : ∀ (k j : Nat) (s : Shared) (b : Value) (c : Nat),
    n - (j + 1) = k → j + 1 ≤ n → St (j + 1) s.heap → P (argBest bt j) b → s.heap.get? S = some { cls := .type "list", dict := none, data := .seq #[b, b] c, slots := #[] } →
    (∀ v h' tk, P (argBest bt (n - 1)) v → (∀ a o, a ∉ wr → a ≠ S → s.heap.get? a = some o → h'.get? a = some o) → R (.ok (.ret v)) { s with heap := h', toks := tk }) →
    codeAny (model prog w) A (.builtin "max.loop" ⟨[.ref I, .none, .ref S], [(Str.ofString "default", dv)]⟩) R s := by
  have nW : S ∉ wr := fun h => nS (W.sub _ h)
  have nm : (toString "max" ++ toString ".loop" : String) = "max.loop" := by decide
  intro k
  induction k with
  | zero =>
    intro j s b c ek lj st pb gS q
    have en : j + 1 = n := by omega
    refine codeAny_builtin PySem.F.entry_max_loop ?_; rw [Around.under_plainId PySem.F.plain_max_loop _]
    show wpAny _ _ (seqItems? (.ref S) >>= _) _ _ s
    refine wpAny_bind (wpAny_seqItems gS rfl ?_)
    show wpAny _ _ (tryCatch (pyNext (.ref I)) _ >>= _) _ _ s
    refine wpAny_bind (wpAny_tryCatch (W.done s _ _ (en ▸ st) fun h' tk kp => ?_))
    have gS' := kp S _ nW gS
    show wpAny _ _ (updateSeq S (fun _ => #[]) >>= _) _ _ _
    refine wpAny_bind (wpAny_updateSeq gS' rfl (wpAny_bind (wpAny_letGo (wpAny_pure ?_))))
    exact q b _ tk (by rw [← en]; exact pb) fun a o aw aS e => (Heap.get?_update_other _ _ (Ne.symm aS)).trans (kp a o aw e)
  | succ k ih =>
    intro j s b c ek lj st pb gS q
    have lt : j + 1 < n := by omega
    refine codeAny_builtin PySem.F.entry_max_loop ?_; rw [Around.under_plainId PySem.F.plain_max_loop _]
    show wpAny _ _ (seqItems? (.ref S) >>= _) _ _ s
    refine wpAny_bind (wpAny_seqItems gS rfl ?_)
    show wpAny _ _ (tryCatch (pyNext (.ref I)) _ >>= _) _ _ s
    refine wpAny_bind (wpAny_tryCatch (W.item (j + 1) s _ _ lt st fun v h' tk pv st' kp => ?_))
    have gS' := kp S _ nW gS
    show wpAny _ _ (tryCatch (holding [v, v] (richCompare .Gt v b >>= _)) _ >>= _) _ _ _
    refine wpAny_bind (wpAny_tryCatch (wpAny_holding (wpAny_bind (cmp (j + 1) (argBest bt j) v b _ _ _ pv pb ?_))))
    refine wpAny_bind (wpAny_holding (wpAny_truthy_bool (wpAny_bind (wpAny_letGo (wpAny_pure ?_)))))
    cases hb : bt (j + 1) (argBest bt j) with
    | true =>
      simp only [if_true]
      refine wpAny_bind (wpAny_updateSeq gS' rfl (wpAny_bind (wpAny_letGo ?_)))
      rw [nm]
      refine wpAny_pure ⟨plainId_quiet PySem.F.plain_max_loop _, ih (j + 1) _ v _ (by omega) lt (W.frame _ _ _ st' fun a af o e => ?_) (by simp only [argBest, hb, if_true]; exact pv) (Heap.get?_update_self _ gS' rfl) fun v' h'' tk'' pv' kp'' => ?_⟩
      · exact (Heap.get?_update_other _ _ (fun h : S = a => nS (by rw [h]; exact af))).trans e
      · exact q v' h'' tk'' pv' fun a o aw aS e => kp'' a o aw aS ((Heap.get?_update_other _ _ (Ne.symm aS)).trans (kp a o aw e))
    | false =>
      simp only [Bool.false_eq_true, if_false]
      refine wpAny_bind (wpAny_letGo ?_)
      rw [nm]
      refine wpAny_pure ⟨plainId_quiet PySem.F.plain_max_loop _, ih (j + 1) _ b c (by omega) lt st' (by simp only [argBest, hb, Bool.false_eq_true, if_false]; exact pb) gS' fun v' h'' tk'' pv' kp'' => ?_⟩
      exact q v' h'' tk'' pv' fun a o aw aS e => kp'' a o aw aS (kp a o aw e)
theorem mx_first (W : Walks prog w A.in1 I fp wr n P St) (bt : Nat → Nat → Bool) (cmp : CmpOf prog w A.in1 .Gt P bt) (S : Addr) (nS : S ∉ fp) {s : Shared} {c : Nat} (st : St 0 s.heap)
    (gS : s.heap.get? S = some { cls := .type "list", dict := none, data := .seq #[] c, slots := #[] })
    (q : ∀ v h' tk, (n = 0 ∧ v = dv) ∨ (0 < n ∧ P (argBest bt (n - 1)) v) → (∀ a o, a ∉ wr → a ≠ S → s.heap.get? a = some o → h'.get? a = some o) → R (.ok (.ret v)) { s with heap := h', toks := tk }) :
    codeAny (model prog w) A (.builtin "max.loop" ⟨[.ref I, .none, .ref S], [(Str.ofString "default", dv)]⟩) R s := by
  have nW : S ∉ wr := fun h => nS (W.sub _ h)
  have nm : (toString "max" ++ toString ".loop" : String) = "max.loop" := by decide
  refine codeAny_builtin PySem.F.entry_max_loop ?_; rw [Around.under_plainId PySem.F.plain_max_loop _]
  show wpAny _ _ (seqItems? (.ref S) >>= _) _ _ s
  refine wpAny_bind (wpAny_seqItems gS rfl ?_)
  show wpAny _ _ (tryCatch (pyNext (.ref I)) _ >>= _) _ _ s
  rcases Nat.eq_zero_or_pos n with e0 | hn
  · refine wpAny_bind (wpAny_tryCatch (W.done s _ _ (e0 ▸ st) fun h' tk kp => ?_))
    show wpAny _ _ (rule _ >>= _) _ _ _
    refine wpAny_bind (wpAny_rule (wpAny_pure ?_))
    exact q dv h' tk (.inl ⟨e0, rfl⟩) fun a o aw _ e => kp a o aw e
  · refine wpAny_bind (wpAny_tryCatch (W.item 0 s _ _ hn st fun v h' tk pv st' kp => ?_))
    have gS' := kp S _ nW gS
    show wpAny _ _ (updateSeq S (fun _ => #[v, v]) >>= _) _ _ _
    refine wpAny_bind (wpAny_updateSeq gS' rfl ?_)
    rw [nm]
    refine wpAny_pure ⟨plainId_quiet PySem.F.plain_max_loop _, mx_loop W bt cmp S nS _ 0 _ v _ rfl hn (W.frame _ _ _ st' fun a af o e => ?_) pv (Heap.get?_update_self _ gS' rfl) fun v' h'' tk'' pv' kp'' => ?_⟩
    · exact (Heap.get?_update_other _ _ (fun h : S = a => nS (by rw [h]; exact af))).trans e
    · exact q v' h'' tk'' (.inr ⟨hn, pv'⟩) fun a o aw aS e => kp'' a o aw aS ((Heap.get?_update_other _ _ (Ne.symm aS)).trans (kp a o aw e))
end
section
variable {prog : Program} {w : World} {A : Around} {E : Value → Shared → Prop} {s : Shared} {l : Addr} {its : List Value} {ns : List Int} {Q : Value → Shared → Prop} {d : Int} {t : Tok}
theorem mx_raw (hh : A.handled = none) (hl : s.heap.IsList l its.toArray) (hi : IntsAre its ns)
    (h : ∀ h' tk M t', (∀ b o, s.heap.get? b = some o → h'.get? b = some o) → (ns = [] ∧ M = d) ∨ (M ∈ ns ∧ ∀ a, a ∈ ns → a ≤ M) → Q (.int M t') { s with heap := h', toks := tk }) :
    wpAny (model prog w) A (call (.builtin "max") [.ref l] [(Str.ofString "default", .int d t)]) Q E s := by
  obtain ⟨xs, e⟩ := hi.allInts.items
  have hn : numsOf (intItems xs).toList = ns := by rw [← e]; exact hi.numsOf
  rw [nums_intItems] at hn
  subst hn
  rw [e] at hl
  have nm : (toString "max" ++ toString ".loop" : String) = "max.loop" := by decide
  refine PyProof.Rows.kmk_tree PySem.F.kind_max PySem.F.plain_max PySem.F.entry_max (mx_args _ _) ?_
  show wpAny _ A.in1 (Builtin.Builtins.bindParams "max" ["key", "default"] 0 ⟨[], [(Str.ofString "default", .int d t)]⟩ >>= _) _ _ s
  refine wpAny_bind (wpAny_of_eq (show Builtin.Builtins.bindParams "max" ["key", "default"] 0 ⟨[], [(Str.ofString "default", .int d t)]⟩ = pure [none, some (.int d t)] from rfl) ?_)
  refine wpAny_bind (wpAny_pure ?_)
  refine wpAny_bind (iter_intList hl fun s2 e2 st hfp hlI => ?_)
  subst e2
  refine wpAny_bind (wpAny_newObj_type ?_)
  rw [nm]
  refine wpAny_pure ⟨plainId_quiet PySem.F.plain_max_loop _, ?_⟩
  have W := Walks.list (prog := prog) (w := w) (A := A.in1) hh _ l hlI (intItems xs)
  refine mx_first W (fun i j => decide (numAt xs i > numAt xs j)) (CmpOf.ints_gt (numAt xs) (fun _ _ => intItems_at)) _ (fun hm => Nat.lt_irrefl _ (hfp _ hm)) (W.frame _ _ _ st fun b _ o e => Heap.get?_push_of_some _ e) (Heap.get?_push_size _ rfl) fun v h' tk hv kp => ?_
  have kp' : ∀ b o, s.heap.get? b = some o → h'.get? b = some o := old_kept fun b o hb e => kp b o hb (Nat.ne_of_lt (Heap.lt_size e)) (Heap.get?_push_of_some _ e)
  have hsz : (intItems xs).size = xs.size := by simp [intItems]
  rw [hsz] at hv
  rcases hv with ⟨e0, rfl⟩ | ⟨hp, hv⟩
  · exact h h' tk d t kp' (.inl ⟨by have : xs = #[] := Array.eq_empty_of_size_eq_zero e0
                                    subst this; rfl, rfl⟩)
  · obtain ⟨t', rfl⟩ := intItems_at hv
    obtain ⟨h1, h2⟩ := argBest_gt (numAt xs) (xs.size - 1)
    refine h h' tk _ t' kp' (.inr ⟨?_, fun a ha => ?_⟩)
    · rw [numAt_eq]; exact PySem.getD_mem (by rw [List.length_map, Array.length_toList]; omega)
    · obtain ⟨j, hj, rfl⟩ := mem_getD ha
      rw [List.length_map, Array.length_toList] at hj
      rw [← numAt_eq]; exact h2 j (by omega)
end
abbrev nI (n : Nat) : V := .int (n : Int)
def natV (l : List Nat) : List V := l.map fun (n : Nat) => V.int (n : Int)
def maxN (l : List Nat) : Nat := l.foldl max 0
theorem maxN_ge0 : ∀ (l : List Nat) (a : Nat), a ≤ l.foldl max a
  | [], _ => Nat.le_refl _
  | x :: l, a => Nat.le_trans (Nat.le_max_left a x) (maxN_ge0 l (max a x))
theorem maxN_mem : ∀ (l : List Nat) (a : Nat) {x : Nat}, x ∈ l → x ≤ l.foldl max a
  | y :: l, a, x, h => by
    rcases List.mem_cons.mp h with rfl | h
    · exact Nat.le_trans (Nat.le_max_right a x) (maxN_ge0 l _)
    · exact maxN_mem l _ h
theorem maxN_is : ∀ (l : List Nat) (a : Nat), l.foldl max a = a ∨ l.foldl max a ∈ l
  | [], _ => .inl rfl
  | x :: l, a => by
    rcases maxN_is l (max a x) with h | h
    · show l.foldl max (max a x) = a ∨ l.foldl max (max a x) ∈ x :: l
      rw [h]
      rcases Nat.le_total a x with q | q
      · rw [Nat.max_eq_right q]; exact .inr List.mem_cons_self
      · rw [Nat.max_eq_left q]; exact .inl rfl
    · exact .inr (List.mem_cons_of_mem _ h)
theorem maxN_uniq {ns : List Nat} {M : Int} (h : (ns.map (fun (n : Nat) => (n : Int)) = [] ∧ M = 0) ∨ (M ∈ ns.map (fun (n : Nat) => (n : Int)) ∧ ∀ a, a ∈ ns.map (fun (n : Nat) => (n : Int)) → a ≤ M)) : M = (maxN ns : Nat) := by
  rcases h with ⟨e, rfl⟩ | ⟨h1, h2⟩
  · have : ns = [] := by simpa using e
    subst this; rfl
  · obtain ⟨m, hm, rfl⟩ := List.mem_map.mp h1
    have a1 := maxN_mem ns 0 hm
    have a2 : maxN ns ≤ m := by
      rcases maxN_is ns 0 with z | z
      · unfold maxN; rw [z]; exact Nat.zero_le _
      · have := h2 _ (List.mem_map.mpr ⟨_, z, rfl⟩)
        unfold maxN; omega
    have : m = maxN ns := Nat.le_antisymm a1 a2
    rw [this]
theorem nI_map (ns : List Nat) : natV ns = (ns.map (fun (n : Nat) => (n : Int))).map V.int := by
  unfold natV; rw [List.map_map]; rfl
section
variable {X : Cx} {x : Str} {p pos kpos : Pos} {e d : Expr} {t : TA} {td : TE}
/-- the list at a, of natural numbers -/
def tMaxD (t : TA) (td : TE) : TE := fun σ H Q => t σ H fun vs H1 => td σ H1 fun z H2 => ∃ (a : Addr) (ns : List Nat), vs = [V.ref a] ∧ H2 a = some (.lst (natV ns)) ∧ z = .int 0 ∧ Q (nI (maxN ns)) H2
theorem pe_maxD (hc : X.calm = true) (hg : Gl X "max") (hm : X.mg "max" = none) (ha : PA X [e] t) (hd : PE X d td)
    (he : backTo pos (starEach [e] X.env) = (false, eval e X.env) :: backTo pos (starEach [] X.env) := by rfl) (hpl : (backTo pos (starEach [e] X.env)).any (·.1) = false := by rfl) :
    PE X (.Call (.Name "max" p) [e] [⟨some "default", d, kpos⟩] pos) (tMaxD t td) := by
  intro pins s σ H Q I h
  refine wpAny_Call_Name_kw (ld_blt I hg hm PyProof.Rows.boot_max ?_ (by decide) (by decide))
  refine PyProof.Rows.callWith_kw (thn (ha pos pins s σ H _ I h) fun us s1 ⟨vs, H1, I1, r1, q1⟩ => ?_) he hpl
  refine PyProof.Rows.kws_cons (thn (hd pins s1 σ H1 _ I1 q1) fun v s2 ⟨z, H2, I2, rz, a, ns, e1, ha2, e2, q2⟩ => PyProof.Rows.kws_nil ?_)
  subst e1 e2
  rw [Vals.ref1 r1]
  obtain ⟨tz, rfl⟩ := rz
  rw [nI_map] at ha2
  obtain ⟨its, rv, hl, _⟩ := I2.list (SqL.of ha2)
  refine mx_raw (I.ok.hd hc) hl.isList rv.ints fun h' tk M t' kp hM => ?_
  have eM := maxN_uniq hM
  subst eM
  exact ⟨nI (maxN ns), H2, I2.kept kp, ⟨t', rfl⟩, q2⟩
end
end L2

end
section
set_option Elab.async false
set_option linter.all false
set_option maxRecDepth 100000
namespace L2
open PySem PySem.Spec PyProof.Rows
/-! ### max of four -/
theorem mx4_args (a b c d : Value) : argsOk "max" ⟨[a, b, c, d], []⟩ := by unfold argsOk; kernel_rfl
section
variable {prog : Program} {w : World} {A : Around} {E : Value → Shared → Prop} {s : Shared} {Q : Value → Shared → Prop}
theorem mx4_raw {a b c d : Int} {ta tb tc td : Tok} (hh : A.handled = none)
    (h : ∀ h' tk M t', (∀ b o, s.heap.get? b = some o → h'.get? b = some o) → (M ∈ [a, b, c, d] ∧ ∀ x, x ∈ [a, b, c, d] → x ≤ M) → Q (.int M t') { s with heap := h', toks := tk }) :
    wpAny (model prog w) A (call (.builtin "max") [.int a ta, .int b tb, .int c tc, .int d td]) Q E s := by
  have nm : (toString "max" ++ toString ".loop" : String) = "max.loop" := by decide
  refine call_function_tree PySem.F.kind_max PySem.F.plain_max PySem.F.entry_max (mx4_args _ _ _ _) ?_
  show wpAny _ A.in1 (Builtin.Builtins.bindParams "max" ["key", "default"] 0 ⟨[], []⟩ >>= fun _ => _) _ _ s
  refine wpAny_bind (wpAny_of_eq (show Builtin.Builtins.bindParams "max" ["key", "default"] 0 ⟨[], []⟩ = pure [none, none] from rfl) (?_))
  show wpAny _ A.in1 (newTuple [.int a ta, .int b tb, .int c tc, .int d td] >>= _) _ _ s
  refine wpAny_bind (wpAny_newObj_type (?_))
  generalize exs : (#[(a, ta), (b, tb), (c, tc), (d, td)] : Array (Int × Tok)) = xs
  have hit : (intItems xs) = #[.int a ta, .int b tb, .int c tc, .int d td] := by subst exs; simp [intItems]
  have hT : (s.heap.push { cls := .type "tuple", data := .seq #[.int a ta, .int b tb, .int c tc, .int d td] }).IsTuple s.heap.objs.size (intItems xs) := ⟨_, Heap.get?_push_size _ rfl, rfl, 0, by rw [hit]⟩
  have hsz : (s.heap.push { cls := .type "tuple", data := .seq #[.int a ta, .int b tb, .int c tc, .int d td] }).objs.size = s.heap.objs.size + 1 := Heap.size_push ..
  refine wpAny_bind (wpAny_pyIter_tuple hT (?_))
  refine wpAny_bind (wpAny_newObj_type (?_))
  rw [nm]
  have W := Walks.tuple (prog := prog) (w := w) (A := A.in1) hh (s.heap.push { cls := .type "tuple", data := .seq #[.int a ta, .int b tb, .int c tc, .int d td] }).objs.size s.heap.objs.size (by rw [hsz]; exact Nat.ne_of_lt (Nat.lt_succ_self _)) (intItems xs)
  have h4 : xs.size = 4 := by subst exs; rfl
  have h4' : (intItems xs).size = 4 := by rw [hit]; rfl
  refine wpAny_pure ⟨plainId_quiet PySem.F.plain_max_loop _, codeAny_max_loop_first W (fun i j => decide (numAt xs i > numAt xs j)) (CmpOf.ints_gt (numAt xs) (fun _ _ => intItems_at)) _ (fun hm => ?_) (by rw [h4']; decide)
    (W.frame _ _ _ ⟨⟨_, Heap.get?_push_size _ rfl, rfl, rfl⟩, hT.push _⟩ fun b _ o e => Heap.get?_push_of_some _ e) (Heap.get?_push_size _ rfl) fun v h' tk hv kp => ?_⟩
  · dsimp only at hm
    simp only [Heap.size_push, List.mem_cons, List.not_mem_nil, or_false] at hm
    have hm : s.heap.objs.size + 1 + 1 = s.heap.objs.size + 1 ∨ s.heap.objs.size + 1 + 1 = s.heap.objs.size := hm
    omega
  · rw [h4'] at hv
    obtain ⟨t', rfl⟩ := intItems_at hv
    obtain ⟨h1, h2⟩ := argBest_gt (numAt xs) (4 - 1)
    have ev : numsOf (intItems xs).toList = [a, b, c, d] := by rw [hit]; rfl
    rw [nums_intItems] at ev
    refine h h' tk _ t' (fun b o e => kp b o (fun hm => ?_) (Nat.ne_of_lt ?_) (Heap.get?_push_of_some _ (Heap.get?_push_of_some _ (Heap.get?_push_of_some _ e)))) ⟨?_, fun x hx => ?_⟩
    · have z : (b : Nat) < s.heap.objs.size := Heap.lt_size e
      simp only [Heap.size_push, List.mem_cons, List.not_mem_nil, or_false] at hm
      exact absurd hm (Nat.ne_of_lt (Nat.lt_succ_of_lt z))
    · have z : (b : Nat) < s.heap.objs.size := Heap.lt_size e
      dsimp only
      simp only [Heap.size_push]
      exact Nat.lt_succ_of_lt (Nat.lt_succ_of_lt z)
    · rw [numAt_eq, ← ev]; exact PySem.getD_mem (by rw [List.length_map, Array.length_toList, h4]; omega)
    · rw [← ev] at hx
      obtain ⟨j, hj, rfl⟩ := mem_getD hx
      rw [List.length_map, Array.length_toList, h4] at hj
      rw [← numAt_eq]; exact h2 j (by omega)
end
def mMax4 : List V → Hp → VK → Prop := fun vs H Q => ∃ a b c d : Nat, vs = [nI a, nI b, nI c, nI d] ∧ Q (nI (max (max a b) (max c d))) H
theorem call_max4 {X : Cx} (hc : X.calm = true) : CallR X (.builtin "max") mMax4 := by
  intro pins s σ H vs us Q I r h
  obtain ⟨a, b, c, d, rfl, q⟩ := h
  cases r with
  | cons r1 r =>
    cases r with
    | cons r2 r =>
      cases r with
      | cons r3 r =>
        cases r with
        | cons r4 r =>
          cases r
          obtain ⟨t1, rfl⟩ := r1
          obtain ⟨t2, rfl⟩ := r2
          obtain ⟨t3, rfl⟩ := r3
          obtain ⟨t4, rfl⟩ := r4
          refine mx4_raw (I.ok.hd hc) fun h' tk M t' kp ⟨m1, m2⟩ => ⟨.int M, H, I.kept kp, ⟨t', rfl⟩, ?_⟩
          have e : M = ((max (max a b) (max c d) : Nat) : Int) := by
            have a1 := m2 a (by simp)
            have a2 := m2 b (by simp)
            have a3 := m2 c (by simp)
            have a4 := m2 d (by simp)
            simp only [List.mem_cons, List.not_mem_nil, or_false] at m1
            omega
          subst e
          exact q
/-! ### sorted of any length; dict(d); list(d) -/
section
variable {X : Cx}
def mSorted : List V → Hp → VK → Prop := fun vs H Q => ∃ (a : Addr) (ns : List Int), vs = [V.ref a] ∧ H a = some (.lst (ns.map V.int)) ∧
  ∀ (ms : List Int) (p : Addr), ms.Perm ns → ms.Pairwise (· ≤ ·) → H p = none → Q (.ref p) (upd H p (.lst (ms.map V.int)))
theorem sorted_lst : CallR X (.builtin "sorted") mSorted := by
  intro pins s σ H vs us Q I r h
  obtain ⟨a, ns, rfl, hs, q⟩ := h
  obtain ⟨its, rv, hl, hz⟩ := I.list (SqL.of hs)
  rw [Vals.ref1 r]
  have hi := rv.ints
  have hlen := rv.length
  refine PyProof.Rows.sorted_intsAny hl.isList hi (by rw [← hlen]; exact hz) fun out ms h1 h2 h3 => ?_
  obtain ⟨ep, he'⟩ := PyProof.Rows.sortedAll_at s.heap its out
  have hl2 : (ms.map V.int).length ≤ sizeLine := by rw [List.length_map, h2.length_eq, ← List.length_map (f := V.int)]; exact hz
  exact ⟨.ref _, upd H (s.heap.objs.size + 1) (.lst (ms.map V.int)), I.laid (t' := s.toks) (fun _ _ => PyProof.Rows.sortedAll_old) (Nat.le_succ _) ⟨hl2, out.toList, ep, vals_of_ints h1, he'⟩, rfl, q ms _ h2 h3 (I.hok.fresh (Nat.le_succ _))⟩
def mDict : List V → Hp → VK → Prop := fun vs H Q => ∃ (a : Addr) (kvs : List (Key × V)), vs = [V.ref a] ∧ H a = some (.dK kvs) ∧ ∀ p, H p = none → Q (.ref p) (upd H p (.dK kvs))
theorem dict_of : CallR X (.type "dict") mDict := by
  intro pins s σ H vs us Q I r h
  obtain ⟨a, kvs, rfl, hs, q⟩ := h
  rw [Vals.ref1 r]
  exact d_copyOf I (.inl hs) fun p s' hp I' => ⟨.ref p, _, I', rfl, q p hp⟩
theorem Inv.dAt {pins : List (Addr × Obj)} {σ : St} {H : Hp} {s : Shared} {a : Addr} {kvs : List (Key × V)} (I : Inv X pins σ H s) (e : H a = some (.dK kvs)) :
    (a == sysModules) = false ∧ kvs.length ≤ sizeLine ∧ ∃ vs ep, KV kvs vs ∧ s.heap.DictAt (mixKind X.prog X.w) a vs ep := by
  obtain ⟨z, hd, vs, rel, dd⟩ := dk_rd I.hok (.inl e)
  obtain ⟨ep, h⟩ := dd.dictAt
  exact ⟨hd, z, vs, ep, rel, h⟩
theorem vals_of_get {vs : List V} {us : List Value} (hl : us.length = vs.length) (h : ∀ (j : Nat) (u : Value), us[j]? = some u → ∃ v, vs[j]? = some v ∧ RelV v u) : Vals vs us := by
  induction vs generalizing us with
  | nil =>
    cases us with
    | nil => exact .nil
    | cons u us => simp at hl
  | cons v vs ih =>
    cases us with
    | nil => simp at hl
    | cons u us =>
      obtain ⟨v', e, r⟩ := h 0 u rfl
      simp only [List.getElem?_cons_zero, Option.some.injEq] at e
      subst e
      exact .cons r (ih (by simpa using hl) fun j u' hu => by simpa using h (j + 1) u' (by simpa using hu))
def mListD : List V → Hp → VK → Prop := fun vs H Q => ∃ (a : Addr) (kvs : List (Key × V)), vs = [V.ref a] ∧ H a = some (.dK kvs) ∧ ∀ p, H p = none → Q (.ref p) (upd H p (.lst (kvs.map fun kv => kV kv.1)))
theorem list_of_dict (hc : X.calm = true) : CallR X (.type "list") mListD := by
  intro pins s σ H vs us Q I r h
  obtain ⟨a, kvs, rfl, hs, q⟩ := h
  rw [Vals.ref1 r]
  obtain ⟨hd, z, ws, ep, rel, hm⟩ := I.dAt hs
  have hl : kvs.length = ws.length := Paired.length rel
  refine PySem.W.kdl_call (PySem.W.kdl_dict (knd := mixKind X.prog X.w) (kvs := ws) (ep := ep) hd) (I.ok.hd hc) hm (by rw [← hl]; exact z) fun h' tk acc' c' kp e hacc => ?_
  refine ⟨.ref s.heap.objs.size, _, I.laid (t' := tk) kp (Nat.le_refl _) (show ObjOk X.prog X.w _ h' _ (.lst (kvs.map fun kv => kV kv.1)) from ⟨by rw [List.length_map]; exact z, acc'.toList, c', vals_of_get ?_ fun j u hu => ?_, by simpa using e⟩), rfl, q _ (I.hok.fresh (Nat.le_refl _))⟩
  · rw [Array.length_toList, hacc.1, List.length_map, hl]
  · have hu' : acc'[j]? = some u := by simpa using hu
    obtain ⟨k, x, ex, hk⟩ := hacc.2 j u hu'
    have hj : j < kvs.length := by rw [hl]; exact (List.getElem?_eq_some_iff.mp ex).1
    have eg : kvs[j]? = some (kvs[j].1, kvs[j].2) := by simp [hj]
    obtain ⟨u', e1, _⟩ := kv_get rel eg
    rw [ex] at e1
    cases e1
    exact ⟨kV kvs[j].1, by rw [List.getElem?_map, eg]; rfl, relV_key hk⟩
end
end L2

end
section
set_option Elab.async false
set_option linter.all false
set_option maxRecDepth 100000
namespace L2
open PySem PySem.Spec PyProof.Rows
/-! ### list(d.values()) -/
section
variable {X : Cx} {e : Expr} {td : TE} {ta : TA} {p p2 pos cpos apos : Pos}
def tListV (td : TE) : TE := fun σ H Q => td σ H fun x H1 => ∃ (a : Addr) (kvs : List (Key × V)), x = .ref a ∧ H1 a = some (.dK kvs) ∧ ∀ p, H1 p = none → Q (.ref p) (upd H1 p (.lst (kvs.map (·.2))))
theorem pe_listV (hc : X.calm = true) (hg : Gl X "list") (hm : X.mg "list" = none) (he : PE X e td) (hbase : attributeBase e "values" X.env (eval e X.env) = eval e X.env := by rfl) (hline : (apos.endLine == cpos.line) = true := by rfl)
    (hs : starEach [.Call (.Attribute e "values" apos) [] [] cpos] X.env = [(false, eval (.Call (.Attribute e "values" apos) [] [] cpos) X.env)] := by rfl) :
    PE X (.Call (.Name "list" p) [.Call (.Attribute e "values" apos) [] [] cpos] [] pos) (tListV td) := by
  intro pins s σ H Q I h
  refine wpAny_Call_Name_kw (ld_blt I hg hm PyProof.Rows.boot_list ?_ (by decide) (by decide))
  refine PyProof.Rows.callWith_type1 ?_ hs rfl
  rw [hs]
  show wpAny _ _ (spliced ((false, eval (.Call (.Attribute e "values" apos) [] [] cpos) X.env) :: backTo pos [])) _ _ s
  refine Calls.spliced_cons (wpAny_Call_method (T := "dict") (id := "dict.values") hbase rfl hline F.plainAttrs_dict F.slot_dict_values F.type_dict_values (thn (he pins s σ H _ I h) fun u s1 ⟨x, H1, I1, rx, d, kvs, ex, hd, q⟩ => ?_))
  subst ex
  obtain rfl : u = Value.ref d := rx
  obtain ⟨hs0, z, ws, ep, rel, hm⟩ := I1.dAt hd
  have hl : kvs.length = ws.length := Paired.length rel
  refine ⟨hm.dictOf.typeIs, hm.dictOf.mapOf.noDict, ?_⟩
  have I2 : Inv X pins σ H1 { s1 with heap := s1.heap.push { cls := .type "dict_values", data := .fields #[.ref d] } } := I1.kept (t' := s1.toks) fun b ob q => Heap.get?_push_of_some _ q
  show wpAny _ _ (callWith cpos (.builtin "dict.values") [.ref d] [] []) _ X.xe s1
  refine method_meetsIn F.slot_dict_values F.entry_dict_values rfl (PySem.evalArgs_none ⟨rfl, hm.dictOf.typeIs, F.args_dict_values_1 _, _, meets_dict_values (mixKind X.prog X.w) d hs0, ⟨ws, hm.dictOf⟩, ?_⟩)
  show wpAny _ _ (spliced (backTo pos [])) _ _ _
  refine Calls.spliced_nil ?_
  refine PySem.W.kdl_call (s := { s1 with heap := s1.heap.push { cls := .type "dict_values", data := .fields #[.ref d] } }) (PySem.W.kdl_values (knd := mixKind X.prog X.w) (d := d) (r := s1.heap.objs.size) (kvs := ws) (ep := ep)) (I.ok.hd hc) ⟨⟨_, Heap.get?_push_size _ rfl, rfl, rfl⟩, hm.push _⟩ (by rw [← hl]; exact z) fun h' tk acc' c' kp e hacc => ?_
  refine ⟨.ref _, _, I2.laid (t' := tk) kp (Nat.le_refl _) (show ObjOk X.prog X.w _ h' _ (.lst (kvs.map (·.2))) from ⟨by rw [List.length_map]; exact z, acc'.toList, c', vals_of_get ?_ fun j u hu => ?_, by simpa using e⟩), rfl, q _ (I2.hok.fresh (Nat.le_refl _))⟩
  · rw [Array.length_toList, hacc.1, List.length_map, hl]
  · have hu' : acc'[j]? = some u := by simpa using hu
    obtain ⟨k, ex⟩ := hacc.2 j u hu'
    have hj : j < kvs.length := by rw [hl]; exact (List.getElem?_eq_some_iff.mp ex).1
    have eg : kvs[j]? = some (kvs[j].1, kvs[j].2) := by simp [hj]
    obtain ⟨u', e1, r'⟩ := kv_get rel eg
    rw [ex] at e1
    cases e1
    exact ⟨kvs[j].2, by rw [List.getElem?_map, eg]; rfl, r'⟩
/-! ### list(range(n)) -/
def natsUp (n : Nat) : List V := natV (List.range n)
def tListR (ta : TA) : TE := fun σ H Q => ta σ H fun vs H1 => ∃ n : Nat, vs = [nI n] ∧ n ≤ 1000000 ∧ ∀ p, H1 p = none → Q (.ref p) (upd H1 p (.lst (natsUp n)))
theorem pe_listR (hc : X.calm = true) (hg : Gl X "list") (hm : X.mg "list" = none) (hg2 : Gl X "range") (hm2 : X.mg "range" = none) (ha : PA X [e] ta) (hs2 : starEach [e] X.env = [(false, eval e X.env)] := by rfl)
    (hs : starEach [.Call (.Name "range" p2) [e] [] cpos] X.env = [(false, eval (.Call (.Name "range" p2) [e] [] cpos) X.env)] := by rfl) :
    PE X (.Call (.Name "list" p) [.Call (.Name "range" p2) [e] [] cpos] [] pos) (tListR ta) := by
  intro pins s σ H Q I h
  refine wpAny_Call_Name_kw (ld_blt I hg hm PyProof.Rows.boot_list ?_ (by decide) (by decide))
  refine PyProof.Rows.callWith_type1 ?_ hs rfl
  rw [hs]
  show wpAny _ _ (spliced ((false, eval (.Call (.Name "range" p2) [e] [] cpos) X.env) :: backTo pos [])) _ _ s
  refine Calls.spliced_cons (Call_ (ld_blt I hg2 hm2 boot_range (PyProof.Rows.callWith_type1 (thn (ha cpos pins s σ H _ I h) fun us s1 ⟨vs, H1, I1, r1, q1⟩ => ?_) hs2 rfl)))
  obtain ⟨n, e1, hn, q⟩ := q1
  subst e1
  cases r1 with
  | cons r rr =>
    cases rr
    obtain ⟨t, rfl⟩ := r
    refine call_range_1 ?_
    show wpAny _ _ (spliced (backTo pos [])) _ _ _
    refine Calls.spliced_nil ?_
    have I2 : Inv X pins σ H1 { s1 with heap := s1.heap.push { cls := .type "range", data := .fields #[.int 0 s1.toks, .int n t, .int 1 (s1.toks + 1)] }, toks := s1.toks + 1 + 1 } := I1.kept fun b ob q => Heap.get?_push_of_some _ q
    refine call_list_range (n := n) (I.ok.hd hc) (IsRange.new ..) (small_one (by omega) (by omega) (by omega) (by omega)) (by rw [rangeSize_one]; split <;> omega) (by omega) fun h' tk acc' c' kp e hacc => ?_
    refine ⟨.ref _, _, I2.laid (t' := tk) kp (Nat.le_refl _) (show ObjOk X.prog X.w _ h' _ (.lst (natsUp n)) from ⟨?_, acc'.toList, c', vals_of_get ?_ fun j u hu => ?_, by simpa using e⟩), rfl, q _ (I2.hok.fresh (Nat.le_refl _))⟩
    · unfold natsUp natV; rw [List.length_map, List.length_range, sizeLine_eq]; omega
    · unfold natsUp natV; rw [Array.length_toList, hacc.1, List.length_map, List.length_range]
    · have hu' : acc'[j]? = some u := by simpa using hu
      obtain ⟨t', rfl⟩ := hacc.2 j u hu'
      have hj : j < n := by
        have := (Array.getElem?_eq_some_iff.mp hu').1
        rw [hacc.1] at this; exact this
      refine ⟨nI j, by unfold natsUp natV; simp [hj], t', ?_⟩
      congr 1; simp
end
end L2

end
section
set_option Elab.async false
set_option linter.all false
set_option maxRecDepth 100000
namespace L2
open PySem PySem.Spec PyProof.Rows
/-! ### list(reversed(xs)) -/
theorem rv_nolen : typeLookup (.type "list_reverseiterator") "__len__" = pure none := by rw [typeLookup_type, builtinLookup_eq_fast]; kernel_rfl
theorem rv_hint : typeLookup (.type "list_reverseiterator") "__length_hint__" = pure (some (.builtin "list_reverseiterator.__length_hint__")) := by rw [typeLookup_type, builtinLookup_eq_fast]; kernel_rfl
section
variable {prog : Program} {w : World} {A : Around} {s : Shared} {R : Result → Shared → Prop} {E : Value → Shared → Prop} {I l : Addr} {items : Array Value}
theorem rv_extend (hh : A.handled = none) (ne : l ≠ I) (S : Addr) (res : Value) (c₀ : Nat) (hit : s.heap.IsRevIter I l ((items.size : Int) - 1)) (hl : s.heap.IsList l items) (nI : S ≠ I) (nl : S ≠ l)
    (gS : s.heap.get? S = some { cls := .type "list", data := .seq #[] c₀ })
    (q : ∀ h' tk acc' c', (∀ b o, b ≠ S → b ≠ I → s.heap.get? b = some o → h'.get? b = some o) → h'.get? S = some { cls := .type "list", dict := none, data := .seq acc' c', slots := #[] } → ItemsOf (fun i v => items[items.size - 1 - i]? = some v) acc' items.size → R (.ok (.ret res)) { s with heap := h', toks := tk })
    (hn : items.size ≤ sizeLine) :
    wpAny (model prog w) A.in1 (Builtin.List.listExtendWith (.ref S) (.ref I) res)
      (fun fin s' => match fin with | .done f => R (.ok f) s' | .again c' => c'.quiet = true ∧ codeAny (model prog w) A c' R s') (fun e s' => R (.error e) s') s := by
  have W := (Walks.listRev (prog := prog) (w := w) (A := A.in1) hh I l ne items).toS
  have st : (0 ≤ items.size ∧ s.heap.IsRevIter I l ((items.size : Int) - 1 - ((0 : Nat) : Int)) ∧ s.heap.IsList l items) := ⟨Nat.zero_le _, by simpa using hit, hl⟩
  have nf : S ∉ [I, l] := by simp only [List.mem_cons, List.not_mem_nil, or_false, not_or]; exact ⟨nI, nl⟩
  have h1 : Builtin.List.listSameRef (.ref S) (.ref I) = false := by simp [Builtin.List.listSameRef, nI]
  have h2 : (Value.type "list_reverseiterator" == Value.type "list") = false := by decide
  have h3 : (Value.type "list_reverseiterator" == Value.type "tuple") = false := by decide
  unfold Builtin.List.listExtendWith
  refine wpAny_bind (wpAny_typeOf hit.typeIs (?_))
  simp only [h1, h2, h3, Bool.or_false, Bool.false_eq_true, if_false]
  refine wpAny_bind (wpAny_pyIter_revIter hit (?_))
  refine wpAny_bind (wpAny_holding (?_))
  have key : ∀ (h : Heap) (c₁ tk : Nat), (0 ≤ items.size ∧ h.IsRevIter I l ((items.size : Int) - 1 - ((0 : Nat) : Int)) ∧ h.IsList l items) → (∀ b o, b ≠ S → s.heap.get? b = some o → h.get? b = some o) → h.get? S = some { cls := .type "list", data := .seq #[] c₁ } →
      codeAny (model prog w) A (.builtin "list.extend.loop" ⟨[.ref S, .ref I, res], []⟩) R { s with heap := h, toks := tk } := fun h c₁ tk st kp gS => by
    refine codeAny_extend_loopS W hn S nf res items.size 0 _ #[] c₁ rfl (Nat.zero_le _) st gS (ItemsOf.nil _) fun s' acc' c' mv gS' hacc => ?_
    rw [Moved.eq_with mv]
    refine q s'.heap s'.toks acc' c' (fun b o b1 b2 e => mv.heap b o (fun hm => ?_) (kp b o b1 e)) gS' hacc
    rcases List.mem_cons.mp hm with z | hm
    · exact b1 z
    · exact b2 (List.mem_singleton.mp hm)
  unfold Builtin.List.listLengthHint
  refine wpAny_bind (wpAny_specialOf hit.typeIs rv_nolen (?_))
  show wpAny _ _ (specialOf (Value.ref I) (Str.ofString "__length_hint__") >>= _) _ _ _
  refine wpAny_bind (wpAny_specialOf hit.typeIs rv_hint (?_))
  generalize hid : ("list_reverseiterator.__length_hint__" : String) = id0
  wp_delta
  rw [show splitId id0 = some ("list_reverseiterator", "__length_hint__") from by subst hid; decide +kernel]
  subst hid
  refine wpAny_bind (wpAny_isInstance (b := true) hit.typeIs (by rw [isSubtype_type]; kernel_rfl) (?_))
  refine wpAny_pure ?_
  rw [if_neg (by decide)]
  exact wpAny_pure ⟨plainId_quiet PySem.F.plain_extend_loop _, key _ _ _ st (fun b o _ e => e) gS⟩
theorem rv_list {Q : Value → Shared → Prop} (hh : A.handled = none) (ne : l ≠ I) (hit : s.heap.IsRevIter I l ((items.size : Int) - 1)) (hl : s.heap.IsList l items) (hn : items.size ≤ sizeLine)
    (q : ∀ h' tk acc' c', (∀ b o, b ≠ I → s.heap.get? b = some o → h'.get? b = some o) → h'.get? s.heap.objs.size = some { cls := .type "list", dict := none, data := .seq acc' c', slots := #[] } → ItemsOf (fun i v => items[items.size - 1 - i]? = some v) acc' items.size → Q (.ref s.heap.objs.size) { s with heap := h', toks := tk }) :
    wpAny (model prog w) A (call (.type "list") [.ref I]) Q E s := by
  obtain ⟨oi, goi, _⟩ := id hit
  obtain ⟨ol, gol, _⟩ := id hl
  have lI : s.heap.objs.size ≠ I := Nat.ne_of_gt (Heap.lt_size goi)
  have ll : s.heap.objs.size ≠ l := Nat.ne_of_gt (Heap.lt_size gol)
  refine callType_codes (Q₁ := fun obj s1 => obj = .ref s.heap.objs.size ∧ s1 = { s with heap := s.heap.push { cls := .type "list", data := .seq #[] } }) PySem.F.called_list (PySem.F.typeCall_list_1 _) PySem.F.entry_list_init (code_list_new _ ⟨rfl, rfl⟩) fun obj s1 ⟨e1, e2⟩ => ?_
  subst e1 e2
  have gS : (s.heap.push { cls := .type "list", data := .seq #[] }).get? s.heap.objs.size = some { cls := .type "list", data := .seq #[] } := Heap.get?_push_size _ rfl
  refine ⟨⟨_, gS, rfl⟩, PySem.F.args_list_init_2 _ _, ?_⟩
  show wpAny _ _ (do let old ← Builtin.List.listItems (.ref s.heap.objs.size); Builtin.List.listUpdate (.ref s.heap.objs.size) (fun _ => #[]); letGo old.toList.reverse; Builtin.List.listExtendWith (.ref s.heap.objs.size) (.ref I) .none) _ _ _
  refine wpAny_bind (?_)
  unfold Builtin.List.listItems
  refine wpAny_bind (wpAny_seqItems gS rfl (wpAny_pure (?_)))
  show wpAny _ _ (updateSeq s.heap.objs.size (fun _ => #[]) >>= fun _ => letGo (#[] : Array Value).toList.reverse >>= fun _ => Builtin.List.listExtendWith (.ref s.heap.objs.size) (.ref I) .none) _ _ _
  refine wpAny_bind (wpAny_updateSeq gS rfl (?_))
  have gS2 := Heap.get?_update_self (Obj.mapSeq (fun _ => (#[] : Array Value))) gS rfl
  have oth : ∀ b o, b ≠ s.heap.objs.size → s.heap.get? b = some o → ((s.heap.push { cls := .type "list", data := .seq #[] }).update s.heap.objs.size (Obj.mapSeq (fun _ => (#[] : Array Value)))).get? b = some o :=
    fun b o hb e => (Heap.get?_update_other _ _ (Ne.symm hb)).trans (Heap.get?_push_of_some _ e)
  refine wpAny_bind (wpAny_letGo (?_))
  refine rv_extend (A := A.in1) (l := l) (items := items) hh ne _ .none _ (hit.at fun o e => oth I o (Ne.symm lI) e) (hl.at fun o e => oth l o (Ne.symm ll) e) lI ll gS2 (fun h' tk acc' c' kp gS' hacc => ?_) hn
  exact ⟨rfl, q h' tk acc' c' (fun b o hb e => kp b o (Nat.ne_of_lt (Heap.lt_size e)) hb (oth b o (Nat.ne_of_lt (Heap.lt_size e)) e)) gS' hacc⟩
end
section
variable {X : Cx} {e : Expr} {ta : TA} {p p2 pos cpos : Pos}
def tListB (ta : TA) : TE := fun σ H Q => ta σ H fun vs H1 => ∃ (a : Addr) (xs : List V), vs = [V.ref a] ∧ H1 a = some (.lst xs) ∧ ∀ p, H1 p = none → Q (.ref p) (upd H1 p (.lst xs.reverse))
theorem pe_listB (hc : X.calm = true) (hg : Gl X "list") (hm : X.mg "list" = none) (hg2 : Gl X "reversed") (hm2 : X.mg "reversed" = none) (ha : PA X [e] ta) (hs2 : starEach [e] X.env = [(false, eval e X.env)] := by rfl)
    (hs : starEach [.Call (.Name "reversed" p2) [e] [] cpos] X.env = [(false, eval (.Call (.Name "reversed" p2) [e] [] cpos) X.env)] := by rfl) :
    PE X (.Call (.Name "list" p) [.Call (.Name "reversed" p2) [e] [] cpos] [] pos) (tListB ta) := by
  intro pins s σ H Q I h
  refine wpAny_Call_Name_kw (ld_blt I hg hm PyProof.Rows.boot_list ?_ (by decide) (by decide))
  refine PyProof.Rows.callWith_type1 ?_ hs rfl
  rw [hs]
  show wpAny _ _ (spliced ((false, eval (.Call (.Name "reversed" p2) [e] [] cpos) X.env) :: backTo pos [])) _ _ s
  refine Calls.spliced_cons (Call_ (ld_blt I hg2 hm2 boot_reversed5 (PyProof.Rows.callWith_type1 (thn (ha cpos pins s σ H _ I h) fun us s1 ⟨vs, H1, I1, r1, q1⟩ => ?_) hs2 rfl)))
  obtain ⟨a, xs, e1, hx, q⟩ := q1
  subst e1
  rw [Vals.ref1 r1]
  obtain ⟨its, rv, pl, hz⟩ := I1.list (SqL.of hx)
  have hlen := rv.length
  refine call_reversed_list pl.isList ?_
  show wpAny _ _ (spliced (backTo pos [])) _ _ _
  refine Calls.spliced_nil ?_
  obtain ⟨ol, gol, hcl, nl, hdl⟩ := pl.isList
  have ll : (a : Nat) < s1.heap.objs.size := Heap.lt_size gol
  refine rv_list (l := a) (items := its.toArray) (I.ok.hd hc) (Nat.ne_of_lt ll) ⟨_, Heap.get?_push_size _ rfl, rfl, rfl⟩ (pl.isList.push _) (by simpa [hlen] using hz) fun h' tk acc' c' kp e hacc => ?_
  have kp' : ∀ b o, s1.heap.get? b = some o → h'.get? b = some o := fun b o eb => kp b o (Nat.ne_of_lt (Heap.lt_size eb)) (Heap.get?_push_of_some _ eb)
  have hsz : its.toArray.size = its.length := by simp
  rw [hsz] at hacc
  refine ⟨.ref _, _, I1.laid (t' := tk) kp' (by show s1.heap.objs.size ≤ (s1.heap.push _).objs.size; rw [Heap.size_push]; exact Nat.le_succ _) (show ObjOk X.prog X.w _ h' _ (.lst xs.reverse) from ⟨by rw [List.length_reverse]; exact hz, acc'.toList, c', vals_of_get ?_ fun j u hu => ?_, by simpa using e⟩), rfl, q _ (I1.hok.fresh (by show s1.heap.objs.size ≤ (s1.heap.push _).objs.size; rw [Heap.size_push]; exact Nat.le_succ _))⟩
  · rw [Array.length_toList, hacc.1, List.length_reverse, hlen]
  · have hu' : acc'[j]? = some u := by simpa using hu
    have eu := hacc.2 j u hu'
    have hj : j < its.length := by
      have := (Array.getElem?_eq_some_iff.mp hu').1
      rw [hacc.1] at this; exact this
    have eu2 : its[its.length - 1 - j]? = some u := by simpa using eu
    have hx2 : xs[xs.length - 1 - j]? = some (xs[xs.length - 1 - j]'(by omega)) := List.getElem?_eq_getElem (by omega)
    obtain ⟨u', e', r'⟩ := rv.get hx2
    rw [hlen, eu2] at e'
    cases e'
    exact ⟨_, by rw [List.getElem?_reverse (by omega)]; exact hx2, r'⟩
end
/-! ### a walk over a dict's keys, by a word -/
theorem for_keys {d : Addr} {o : Obj} {kvs : List (Key × V)} {g : TG} {tb : TS} {D : Ends} {σ : St} {H : Hp} (Pv : Nat → St → Hp → Prop) (h0 : Pv 0 σ H) (hl : ∀ i σ H, i ≤ kvs.length → Pv i σ H → H d = some (.frz o (.dK kvs)))
    (hs : ∀ i k v σ H, kvs[i]? = some (k, v) → Pv i σ H → g (kV k) σ H fun σ2 H2 => tb { D with nx := Pv (i + 1), ct := Pv (i + 1), bk := D.nx } σ2 H2) (hd : ∀ σ H, Pv kvs.length σ H → D.nx σ H) :
    ∃ W : Nat → Nat → St → Hp → Prop, (∃ m, W 0 m σ H) ∧ ∀ i m σ H, W i m σ H →
      ((Itk d o kvs).stop i H ∧ D.nx σ H) ∨ ((Itk d o kvs).go i H ∧ ∃ N : St → Hp → Prop, (∀ σ' H', N σ' H' → ∃ m', m' < m ∧ W (i + 1) m' σ' H') ∧ ∀ x H', (Itk d o kvs).yld i H x H' → g x σ H' fun σ2 H2 => tb { D with nx := N, ct := N, bk := D.nx } σ2 H2) := by
  refine ⟨fun i m σ H => m = kvs.length - i ∧ i ≤ kvs.length ∧ Pv i σ H, ⟨kvs.length, (by simp), Nat.zero_le _, h0⟩, ?_⟩
  rintro i m σ H ⟨rfl, hi, pv⟩
  have q := hl i σ H hi pv
  by_cases lt : i < kvs.length
  · refine .inr ⟨⟨q, lt⟩, Pv (i + 1), fun σ' H' pv' => ⟨kvs.length - (i + 1), (by omega), rfl, lt, pv'⟩, fun x H' y => ?_⟩
    obtain ⟨e, k, v, ek, ex⟩ := y
    subst e ex
    exact hs i k v σ _ ek pv
  · have e : i = kvs.length := by omega
    subst e
    exact .inl ⟨⟨q, Nat.le_refl _⟩, hd σ H pv⟩
/-! ### a comprehension over a dict's keys or over range(n), whose element only makes new things -/
theorem Same.new2 {H : Hp} {a : Addr} {o : HO} (h : H a = none) : Same H (L2.upd H a o) := fun b u e => by rw [upd_ne (ne_of_none e h)]; exact e
theorem lc_keys {td : TE} {i : Nat} {te : TE} {vs : List Nat} {σ : L2.St} {H : Hp} {Q : VK} {a : Addr} {o : Obj} {kvs : List (Key × V)} (g : Key → V → V)
    (hl : ∀ R : VK, R (.ref a) H → td σ H R) (ha : H a = some (.frz o (.dK kvs))) (hlen : kvs.length ≤ 1000000) (hw : ∀ x, wipe ((wipe σ vs).set i (some x)) vs = wipe σ vs)
    (he : ∀ kv ∈ kvs, ∀ (H1 : Hp) (R : VK), Same H H1 → (∀ H2, Same H1 H2 → R (g kv.1 kv.2) H2) → te ((wipe σ vs).set i (some (kV kv.1))) H1 R)
    (hk : ∀ D H', H D = none → H' D = some (.lst (kvs.map fun kv => g kv.1 kv.2)) → Same H H' → Q (.ref D) H') : tLc (iKeys td) (gName i) tYes te vs σ H Q := by
  refine hl _ ⟨a, o, rfl, .inl ⟨kvs, ha, fun D hD => ?_⟩⟩
  refine ⟨fun j m H' => m = kvs.length - j ∧ j ≤ kvs.length ∧ H' D = some (.lst ((kvs.take j).map fun kv => g kv.1 kv.2)) ∧ Same H H', ⟨kvs.length, (by simp), Nat.zero_le _, upd_same, Same.new2 hD⟩, ?_⟩
  rintro j m H' ⟨rfl, hj, hD', s⟩
  by_cases lt : j < kvs.length
  · refine .inr ⟨⟨s _ _ ha, lt⟩, fun H2 => H2 D = some (.lst ((kvs.take (j + 1)).map fun kv => g kv.1 kv.2)) ∧ Same H H2, fun H2 ⟨q1, q2⟩ => ⟨kvs.length - (j + 1), (by omega), rfl, lt, q1, q2⟩, fun x H1 y => ?_⟩
    obtain ⟨e, k, v, ek, ex⟩ := y
    subst e ex
    have mem : (k, v) ∈ kvs := List.mem_of_getElem? ek
    refine ⟨hw _, ?_⟩
    unfold tYes
    dsimp only
    rw [if_pos rfl]
    have e1 : kvs.take (j + 1) = kvs.take j ++ [(k, v)] := by rw [List.take_add_one, ek]; rfl
    refine he (k, v) mem _ _ s fun H3 s3 => ⟨_, s3 _ _ hD', ?_, ?_, fun b u q => ?_⟩
    · refine Nat.lt_of_le_of_lt (Nat.le_trans ?_ hlen) (by decide)
      rw [List.length_map, List.length_take]; omega
    · rw [upd_same, e1, List.map_append]; rfl
    · rw [upd_ne (ne_of_none q hD)]
      exact s3 b u (s b u q)
  · have e : j = kvs.length := by omega
    subst e
    rw [List.take_length] at hD'
    exact .inl ⟨⟨s _ _ ha, Nat.le_refl _⟩, hk D H' hD hD' s⟩
/-- the dicts stay -/
def SameD (H H' : Hp) : Prop := ∀ b kvs, H b = some (.dK kvs) → H' b = some (.dK kvs)
theorem lc_rng {ta : TA} {i : Nat} {te : TE} {vs : List Nat} {σ : L2.St} {H : Hp} {Q : VK} {n : Nat} (W : Nat → List V → Hp → Prop) (w0 : W 0 [] H) (wn : ∀ j l H H', W j l H → SameD H H' → W j l H')
    (hl : ∀ R : List V → Hp → Prop, R [.int (n : Int)] H → ta σ H R) (hlen : n ≤ 1000000) (hw : ∀ x, wipe ((wipe σ vs).set i (some x)) vs = wipe σ vs)
    (he : ∀ j l, j < n → l.length = j → ∀ (H1 : Hp) (R : VK), Same H H1 → W j l H1 → (∀ v H2, Same H1 H2 → W (j + 1) (l ++ [v]) H2 → R v H2) → te ((wipe σ vs).set i (some (.int (j : Int)))) H1 R)
    (hk : ∀ D H' l, H D = none → l.length = n → W n l H' → H' D = some (.lst l) → Same H H' → Q (.ref D) H') : tLc (iRng1 ta) (gName i) tYes te vs σ H Q := by
  refine hl _ ⟨(n : Int), rfl, by omega, by omega, fun D hD => ?_⟩
  rw [Int.toNat_natCast]
  have dne : ∀ {H' : Hp} {l0 : List V}, H' D = some (.lst l0) → ∀ l', SameD H' (upd H' D (.lst l')) := fun {H' l0} e l' b kvs q => by
    rw [upd_ne (ne_of q e (by intro z; cases z))]; exact q
  refine ⟨fun j m H' => m = n - j ∧ j ≤ n ∧ Same H H' ∧ ∃ l, l.length = j ∧ W j l H' ∧ H' D = some (.lst l), ⟨n, (by simp), Nat.zero_le _, Same.new2 hD, [], rfl, wn _ _ _ _ w0 (fun b kvs q => Same.new2 hD _ _ q), upd_same⟩, ?_⟩
  rintro j m H' ⟨rfl, hj, s, l, ll, w, hD'⟩
  by_cases lt : j < n
  · refine .inr ⟨lt, fun H2 => Same H H2 ∧ ∃ l, l.length = j + 1 ∧ W (j + 1) l H2 ∧ H2 D = some (.lst l), fun H2 ⟨q1, q2⟩ => ⟨n - (j + 1), (by omega), rfl, lt, q1, q2⟩, fun x H1 y => ?_⟩
    obtain ⟨e, ex⟩ := y
    subst e ex
    refine ⟨hw _, ?_⟩
    unfold tYes
    dsimp only
    rw [if_pos rfl]
    rw [show ((0 : Int) + (j : Int)) = (j : Int) from by omega]
    refine he j l lt ll _ _ s w fun v H3 s3 w3 => ⟨l, s3 _ _ hD', ?_, fun b u q => ?_, l ++ [v], by rw [List.length_append, ll]; rfl, wn _ _ _ _ w3 (dne (s3 _ _ hD') _), upd_same⟩
    · exact Nat.lt_of_le_of_lt (by omega : l.length ≤ 1000000) (by decide)
    · rw [upd_ne (ne_of_none q hD)]
      exact s3 b u (s b u q)
  · have e : j = n := by omega
    subst e
    exact .inl ⟨Nat.le_refl _, hk D H' l hD ll w hD' s⟩
end L2

end
section
/-! What holds of the specification alone: the state stays within its bounds, the earliest cycle is found, the calls are read one behind another. -/
set_option Elab.async false
namespace SM
open Sched

/-! ### the state's bounds -/
structure KindOk (k : Kind) : Prop where
  unit : k.unit < 8
  b1 : 1 ≤ k.busy
  b2 : k.busy ≤ 16
  l1 : 1 ≤ k.latency
  l2 : k.latency ≤ 32
structure InsOk (x : Ins) : Prop where
  kind : KindOk x.kind
  reads : x.reads.length ≤ 4
  writes : x.writes.length ≤ 2
  mem : x.mem ≤ 2
structure Wf (s : State) : Prop where
  w1 : 1 ≤ s.width
  w2 : s.width ≤ 4
  ulen : s.units.length = 8
  u : ∀ n ∈ s.units, 1 ≤ n ∧ n ≤ 4
  klen : s.kinds.length ≤ 16
  k : ∀ x ∈ s.kinds, KindOk x
  blen : s.block.length ≤ 6
  b : ∀ x ∈ s.block, InsOk x
theorem wf_start : Wf start := by
  refine ⟨by decide, by decide, by decide, ?_, by decide, ?_, by decide, ?_⟩
  · intro n hn
    have h := List.eq_of_mem_replicate hn
    subst h
    decide
  · intro x hx
    cases hx
  · intro x hx
    cases hx
theorem within_iff {a b n : Nat} : within a b n = true ↔ a ≤ n ∧ n ≤ b := by simp [within]
theorem insOf_some {s : State} {k m p : Nat} {r w : List Nat} {x : Ins} (h : insOf s k r w m p = some x) :
    ∃ y, s.kinds[k]? = some y ∧ x = ⟨y, r, w, m, p⟩ ∧ r.length ≤ 4 ∧ w.length ≤ 2 ∧ (∀ z ∈ r, z < 32) ∧ (∀ z ∈ w, z < 32) ∧ m ≤ 2 ∧ (m = 0 ∨ p < 16 ∨ p = 255) := by
  unfold insOf at h
  split at h
  · rename_i y hy
    split at h
    · rename_i c
      obtain ⟨c1, c2, c3, c4, c5, c6⟩ := c
      refine ⟨y, hy, (Option.some.inj h).symm, c1, c2, ?_, ?_, c5, c6⟩
      · intro z hz
        exact of_decide_eq_true (List.all_eq_true.mp c3 z hz)
      · intro z hz
        exact of_decide_eq_true (List.all_eq_true.mp c4 z hz)
    · cases h
  · cases h
theorem wf_step {s : State} (h : Wf s) (c : Call) : Wf (step s c).1 := by
  cases c with
  | init => exact wf_start
  | width n =>
    unfold step
    dsimp only
    split
    · rename_i e
      have e := within_iff.mp e
      exact ⟨e.1, e.2, h.ulen, h.u, h.klen, h.k, h.blen, h.b⟩
    · exact h
  | units c n =>
    unfold step
    dsimp only
    split
    · rename_i e
      have e2 := within_iff.mp e.2
      refine ⟨h.w1, h.w2, ?_, ?_, h.klen, h.k, h.blen, h.b⟩
      · show (s.units.set c n).length = 8
        rw [List.length_set]
        exact h.ulen
      · intro m hm
        rcases List.mem_or_eq_of_mem_set hm with q | q
        · exact h.u m q
        · subst q
          exact e2
    · exact h
  | kind c b l =>
    unfold step
    dsimp only
    split
    · rename_i e
      obtain ⟨e1, e2, e3, e4⟩ := e
      have e3 := within_iff.mp e3
      have e4 := within_iff.mp e4
      refine ⟨h.w1, h.w2, h.ulen, h.u, ?_, ?_, h.blen, h.b⟩
      · show (s.kinds ++ [_]).length ≤ 16
        rw [List.length_append]
        exact e1
      · intro x hx
        rcases List.mem_append.mp hx with q | q
        · exact h.k x q
        · have q := List.mem_singleton.mp q
          subst q
          exact ⟨e2, e3.1, e3.2, e4.1, e4.2⟩
    · exact h
  | add k r w m p =>
    unfold step
    dsimp only
    split
    · exact h
    · rename_i x hx
      split
      · rename_i e
        obtain ⟨y, hy, rfl, c1, c2, c3, c4, c5, c6⟩ := insOf_some hx
        refine ⟨h.w1, h.w2, h.ulen, h.u, h.klen, h.k, ?_, ?_⟩
        · show (s.block ++ [_]).length ≤ 6
          rw [List.length_append]
          exact e
        · intro x hx
          rcases List.mem_append.mp hx with q | q
          · exact h.b x q
          · have q := List.mem_singleton.mp q
            subst q
            exact ⟨h.k y (List.mem_of_getElem? hy), c1, c2, c5⟩
      · exact h
  | clear => exact ⟨h.w1, h.w2, h.ulen, h.u, h.klen, h.k, by show 0 ≤ 6; decide, fun x hx => by cases hx⟩
  | dep i j => exact h
  | bound => exact h
  | time o => exact h
  | best => exact h

/-! ### when an instruction may begin -/
theorem wait_le {x y : Ins} (hx : KindOk x.kind) (hy : KindOk y.kind) : wait x y ≤ 32 := by
  have := hx.l2
  have := hy.l1
  unfold wait
  repeat' split
  all_goals omega
theorem need_le {s : State} (h : Wf s) {i j d : Nat} (e : need s i j = some d) : d ≤ 32 := by
  unfold need at e
  split at e
  · rename_i x y hx hy
    split at e
    · have e := Option.some.inj e
      subst e
      exact wait_le (h.b x (List.mem_of_getElem? hx)).kind (h.b y (List.mem_of_getElem? hy)).kind
    · cases e
  · cases e
theorem foldl_max_le : ∀ (l : Begun) (m n : Nat), m ≤ n → (∀ x ∈ l, x.2 ≤ n) → l.foldl (fun (m : Nat) (x : Nat × Nat) => max m x.2) m ≤ n
  | [], m, n, h, _ => h
  | a :: l, m, n, h, k => foldl_max_le l _ n (by have := k a (List.mem_cons_self ..); show max m a.2 ≤ n; omega) fun x hx => k x (List.mem_cons_of_mem _ hx)
theorem le_foldl_max : ∀ (l : Begun) (m : Nat), m ≤ l.foldl (fun (m : Nat) (x : Nat × Nat) => max m x.2) m
  | [], m => Nat.le_refl m
  | a :: l, m => Nat.le_trans (Nat.le_max_left m a.2) (le_foldl_max l (max m a.2))
theorem mem_le_foldl : ∀ (l : Begun) (m : Nat), ∀ x ∈ l, x.2 ≤ l.foldl (fun (m : Nat) (x : Nat × Nat) => max m x.2) m
  | [], _, x, h => by cases h
  | a :: l, m, x, h => by
    rcases List.mem_cons.mp h with q | q
    · subst q
      exact Nat.le_trans (Nat.le_max_right m x.2) (le_foldl_max l (max m x.2))
    · exact mem_le_foldl l _ x q
theorem le_lastOf {b : Begun} {x : Nat × Nat} (h : x ∈ b) : x.2 ≤ lastOf b := mem_le_foldl b 0 x h
theorem lastOf_snoc (b : Begun) (j t : Nat) : lastOf (b ++ [(j, t)]) = max (lastOf b) t := by
  unfold lastOf
  rw [List.foldl_append]
  rfl
theorem units_pos {s : State} (h : Wf s) (c : Nat) : 1 ≤ s.units.getD c 1 := by
  rw [List.getD_eq_getElem?_getD]
  cases e : s.units[c]? with
  | none => exact Nat.le_refl 1
  | some v => exact (h.u v (List.mem_of_getElem? e)).1
/-- 32 cycles behind the last it may -/
theorem may_late {s : State} (h : Wf s) {b : Begun} {j t : Nat} (ht : lastOf b + 32 ≤ t) : may s b j t = true := by
  unfold may
  split
  · rfl
  · rename_i y hy
    rw [Bool.and_eq_true, Bool.and_eq_true, Bool.and_eq_true]
    refine ⟨?_, ?_, ?_, ?_⟩
    · refine List.all_eq_true.mpr fun x hx => decide_eq_true ?_
      have := le_lastOf hx
      omega
    · refine decide_eq_true ?_
      have e : (b.filter fun (x : Nat × Nat) => x.2 == t) = [] := by
        refine List.filter_eq_nil_iff.mpr fun x hx => ?_
        have := le_lastOf hx
        simp
        omega
      rw [e]
      exact h.w1
    · refine List.all_eq_true.mpr fun x hx => ?_
      have := le_lastOf hx
      split
      · rename_i d hd
        have := need_le h hd
        exact decide_eq_true (by omega)
      · rfl
    · refine decide_eq_true ?_
      have e : engaged s b y t = 0 := by
        unfold engaged
        refine List.length_eq_zero_iff.mpr (List.filter_eq_nil_iff.mpr fun x hx => ?_)
        have := le_lastOf hx
        split
        · rename_i z hz
          have := (h.b z (List.mem_of_getElem? hz)).kind.b2
          simp
          intro _
          omega
        · decide
      rw [e]
      exact units_pos h _
theorem earliest_is {s : State} {b : Begun} {j t' : Nat} (ok : may s b j t' = true) : ∀ (f t : Nat), t ≤ t' → t' - t ≤ f → (∀ u, t ≤ u → u < t' → may s b j u = false) → earliest s b j f t = t'
  | 0, t, h1, h2, _ => by
    show t = t'
    omega
  | f + 1, t, h1, h2, h3 => by
    show (if may s b j t = true then t else earliest s b j f (t + 1)) = t'
    by_cases e : t = t'
    · subst e
      rw [if_pos ok]
    · rw [if_neg (by rw [h3 t (Nat.le_refl _) (by omega)]; decide)]
      exact earliest_is ok f (t + 1) (by omega) (by omega) fun u a c => h3 u (by omega) c
/-- the first cycle from the last on at which it may, where it lies within 64 -/
theorem beginAt_is {s : State} {b : Begun} {j t : Nat} (ok : may s b j t = true) (h1 : lastOf b ≤ t) (h2 : t ≤ lastOf b + 64) (h3 : ∀ u, lastOf b ≤ u → u < t → may s b j u = false) : beginAt s b j = t :=
  earliest_is ok 64 (lastOf b) h1 (by omega) h3
theorem first_may {s : State} (h : Wf s) (b : Begun) (j : Nat) : ∃ t, lastOf b ≤ t ∧ t ≤ lastOf b + 32 ∧ may s b j t = true ∧ ∀ u, lastOf b ≤ u → u < t → may s b j u = false := by
  have key : ∀ n t, lastOf b ≤ t → t + n = lastOf b + 32 → (∀ u, lastOf b ≤ u → u < t → may s b j u = false) → ∃ t, lastOf b ≤ t ∧ t ≤ lastOf b + 32 ∧ may s b j t = true ∧ ∀ u, lastOf b ≤ u → u < t → may s b j u = false := by
    intro n
    induction n with
    | zero => intro t h1 h2 h3; exact ⟨t, h1, by omega, may_late h (by omega), h3⟩
    | succ n ih =>
      intro t h1 h2 h3
      cases e : may s b j t with
      | true => exact ⟨t, h1, by omega, e, h3⟩
      | false =>
        refine ih (t + 1) (by omega) (by omega) fun u a c => ?_
        by_cases q : u = t
        · rw [q]; exact e
        · exact h3 u a (by omega)
  exact key 32 (lastOf b) (Nat.le_refl _) rfl fun u a c => absurd c (by omega)
theorem beginAt_ok {s : State} (h : Wf s) (b : Begun) (j : Nat) : lastOf b ≤ beginAt s b j ∧ beginAt s b j ≤ lastOf b + 32 ∧ may s b j (beginAt s b j) = true ∧ ∀ u, lastOf b ≤ u → u < beginAt s b j → may s b j u = false := by
  obtain ⟨t, h1, h2, h3, h4⟩ := first_may h b j
  have e := beginAt_is h3 h1 (by omega) h4
  rw [e]
  exact ⟨h1, h2, h3, h4⟩
theorem lastOf_mem : ∀ (b : Begun) (m : Nat), b.foldl (fun (m : Nat) (x : Nat × Nat) => max m x.2) m = m ∨ ∃ x ∈ b, b.foldl (fun (m : Nat) (x : Nat × Nat) => max m x.2) m = x.2
  | [], m => .inl rfl
  | a :: l, m => by
    show (l.foldl _ (max m a.2)) = m ∨ ∃ x ∈ a :: l, (l.foldl (fun (m : Nat) (x : Nat × Nat) => max m x.2) (max m a.2)) = x.2
    rcases lastOf_mem l (max m a.2) with q | ⟨x, hx, q⟩
    · rw [q]
      by_cases e : m ≤ a.2
      · exact .inr ⟨a, List.mem_cons_self .., by omega⟩
      · exact .inl (by omega)
    · exact .inr ⟨x, List.mem_cons_of_mem _ hx, q⟩
/-- below the last none may -/
theorem may_early {s : State} {b : Begun} {j u : Nat} (hj : j < s.block.length) (hu : u < lastOf b) : may s b j u = false := by
  unfold may
  rw [List.getElem?_eq_getElem hj]
  dsimp only
  have e : (b.all fun (x : Nat × Nat) => decide (x.2 ≤ u)) = false := by
    rcases lastOf_mem b 0 with q | ⟨x, hx, q⟩
    · unfold lastOf at hu
      omega
    · refine List.all_eq_false.mpr ⟨x, hx, ?_⟩
      unfold lastOf at hu
      simp
      omega
  rw [e]
  rfl
end SM

end
section
/-! The calls read one behind another off the one list. -/
set_option Elab.async false
namespace SM
open Sched

theorem whole_id (c : List (List Int)) : PyWqaeag.whole c = c := by
  unfold PyWqaeag.whole
  split <;> rfl
theorem map_whole (cs : List (List (List Int))) : cs.map PyWqaeag.whole = cs := by
  have e : PyWqaeag.whole = id := funext whole_id
  rw [e, List.map_id]
/-- an answer, its count ahead -/
def ans (a : Answer) : List Int := ((SchedNeutral.numbersOf a).length : Int) :: SchedNeutral.numbersOf a
theorem ans_says (z : Int) : ans (says z) = [3, z, 0, 0] := rfl
theorem ans_tells (z : Int) (l : List Nat) : ans (tells z l) = ((3 + l.length : Nat) : Int) :: z :: 0 :: (l.length : Int) :: Sched.ints l := by
  have e : (Sched.ints l).length = l.length := by unfold Sched.ints; rw [List.length_map]
  show (((z :: (([] : List UInt8).length : Int) :: (([] : List UInt8).map fun (c : UInt8) => (c.toNat : Int)) ++ (((Sched.ints l).length : Int) :: Sched.ints l)).length : Nat) : Int) :: _ = _
  simp [SchedNeutral.numbersOf, tells, e]
  omega
/-- one call stands at the head -/
inductive Reads : List Int → Call → List Int → Prop
  | init (r : List Int) : Reads (0 :: r) .init r
  | width (n : Nat) (r : List Int) : Reads (1 :: (n : Int) :: r) (.width n) r
  | units (c n : Nat) (r : List Int) : Reads (2 :: (c : Int) :: (n : Int) :: r) (.units c n) r
  | kind (c b l : Nat) (r : List Int) : Reads (3 :: (c : Int) :: (b : Int) :: (l : Int) :: r) (.kind c b l) r
  | add (k m p : Nat) (rs ws : List Nat) (r : List Int) : Reads (4 :: (k : Int) :: (m : Int) :: (p : Int) :: (rs.length : Int) :: (Sched.ints rs ++ (ws.length : Int) :: (Sched.ints ws ++ r))) (.add k rs ws m p) r
  | clear (r : List Int) : Reads (5 :: r) .clear r
  | dep (i j : Nat) (r : List Int) : Reads (6 :: (i : Int) :: (j : Int) :: r) (.dep i j) r
  | bound (r : List Int) : Reads (7 :: r) .bound r
  | time (o : List Nat) (r : List Int) : Reads (8 :: (o.length : Int) :: (Sched.ints o ++ r)) (.time o) r
  | best (r : List Int) : Reads (9 :: r) .best r
theorem natural_nat {z : Int} {b : Nat} (h : SchedNeutral.natural z b = true) : ((z.toNat : Nat) : Int) = z := by
  unfold SchedNeutral.natural at h
  rw [Bool.and_eq_true] at h
  have h1 := of_decide_eq_true h.1
  omega
theorem naturals_nats {l : List Int} {b : Nat} (h : l.all (fun (z : Int) => SchedNeutral.natural z b) = true) : Sched.ints (SchedNeutral.nats l) = l := by
  unfold Sched.ints SchedNeutral.nats
  rw [List.map_map]
  have h := List.all_eq_true.mp h
  exact (List.map_congr_left fun z hz => natural_nat (h z hz)).trans (List.map_id l)
theorem row_some {l x t : List Int} (h : PyFlat.row l = some (x, t)) : l = (x.length : Int) :: (x ++ t) := by
  cases l with
  | nil => cases h
  | cons n r =>
    have h' : (if 0 ≤ n ∧ n.toNat ≤ r.length then some (r.take n.toNat, r.drop n.toNat) else none) = some (x, t) := h
    split at h'
    · rename_i c
      have h' := Option.some.inj h'
      have h1 : r.take n.toNat = x := congrArg Prod.fst h'
      have h2 : r.drop n.toNat = t := congrArg Prod.snd h'
      have h3 : x.length = n.toNat := by rw [← h1, List.length_take]; omega
      rw [← h1, ← h2, List.take_append_drop, h1, h3]
      have : ((n.toNat : Nat) : Int) = n := by omega
      rw [this]
    · cases h'
theorem call_some {l t : List Int} {c : List (List Int)} (h : PyFlat.call PyWqaeag.shape l = some (c, t)) (ha : SchedNeutral.asked1 c = true) :
    ∃ x, Reads l x t ∧ SchedNeutral.callOf c = some x := by
  cases l with
  | nil => cases h
  | cons p r =>
    unfold PyFlat.call at h
    dsimp only at h
    unfold PyWqaeag.shape at h
    split at h
    · cases h
    · rename_i n k hs
      split at h
      · cases h
      · rename_i hlen
        cases hr : PyFlat.rows k (r.drop n) with
        | none => rw [hr] at h; cases h
        | some y =>
          obtain ⟨xs, t'⟩ := y
          rw [hr] at h
          have h := Option.some.inj h
          have hc : (p :: r.take n) :: xs = c := congrArg Prod.fst h
          have ht : t' = t := congrArg Prod.snd h
          subst hc ht
          -- the ten places
          have rows0 : ∀ {u : List Int}, PyFlat.rows 0 u = some (xs, t') → xs = [] ∧ u = t' := fun {u} q => by
            have q : some (([] : List (List Int)), u) = some (xs, t') := q
            have q := Option.some.inj q
            exact ⟨(congrArg Prod.fst q).symm, congrArg Prod.snd q⟩
          have rowsS : ∀ {u : List Int} {m : Nat} {zs : List (List Int)} {v : List Int}, PyFlat.rows (m + 1) u = some (zs, v) → ∃ x ys w, zs = x :: ys ∧ u = (x.length : Int) :: (x ++ w) ∧ PyFlat.rows m w = some (ys, v) := fun {u m zs v} q => by
            have q : (match PyFlat.row u with
              | none => none
              | some (x, s) => match PyFlat.rows m s with
                | none => none
                | some (xs, t) => some (x :: xs, t)) = some (zs, v) := q
            cases e1 : PyFlat.row u with
            | none => rw [e1] at q; cases q
            | some a =>
              obtain ⟨x, w⟩ := a
              rw [e1] at q
              dsimp only at q
              cases e2 : PyFlat.rows m w with
              | none => rw [e2] at q; cases q
              | some b =>
                obtain ⟨ys, v'⟩ := b
                rw [e2] at q
                have q := Option.some.inj q
                have q1 : x :: ys = zs := congrArg Prod.fst q
                have q2 : v' = v := congrArg Prod.snd q
                subst q1 q2
                exact ⟨x, ys, w, rfl, row_some e1, e2⟩
          by_cases p0 : p = 0
          · subst p0
            simp only [if_true, ↓reduceIte, Option.some.injEq, Prod.mk.injEq] at hs
            obtain ⟨rfl, rfl⟩ := hs
            obtain ⟨rfl, rfl⟩ := rows0 hr
            exact ⟨_, .init _, rfl⟩
          by_cases p1 : p = 1
          · subst p1
            simp [] at hs
            obtain ⟨rfl, rfl⟩ := hs
            obtain ⟨rfl, rfl⟩ := rows0 hr
            match r, hlen, ha with
            | n1 :: r, _, ha =>
              have e1 := natural_nat (show SchedNeutral.natural n1 64 = true from ha)
              refine ⟨.width n1.toNat, ?_, rfl⟩
              have := Reads.width n1.toNat r
              rw [e1] at this
              exact this
            | [], h, _ => simp at h
          by_cases p2 : p = 2
          · subst p2
            simp [] at hs
            obtain ⟨rfl, rfl⟩ := hs
            obtain ⟨rfl, rfl⟩ := rows0 hr
            match r, hlen, ha with
            | n1 :: n2 :: r, _, ha =>
              have ha : (SchedNeutral.natural n1 64 && SchedNeutral.natural n2 64) = true := ha
              rw [Bool.and_eq_true] at ha
              refine ⟨.units n1.toNat n2.toNat, ?_, rfl⟩
              have := Reads.units n1.toNat n2.toNat r
              rw [natural_nat ha.1, natural_nat ha.2] at this
              exact this
            | [], h, _ => simp at h
            | [_], h, _ => simp at h
          by_cases p3 : p = 3
          · subst p3
            simp [] at hs
            obtain ⟨rfl, rfl⟩ := hs
            obtain ⟨rfl, rfl⟩ := rows0 hr
            match r, hlen, ha with
            | n1 :: n2 :: n3 :: r, _, ha =>
              have ha : (SchedNeutral.natural n1 64 && SchedNeutral.natural n2 64 && SchedNeutral.natural n3 64) = true := ha
              rw [Bool.and_eq_true, Bool.and_eq_true] at ha
              refine ⟨.kind n1.toNat n2.toNat n3.toNat, ?_, rfl⟩
              have := Reads.kind n1.toNat n2.toNat n3.toNat r
              rw [natural_nat ha.1.1, natural_nat ha.1.2, natural_nat ha.2] at this
              exact this
            | [], h, _ => simp at h
            | [_], h, _ => simp at h
            | [_, _], h, _ => simp at h
          by_cases p4 : p = 4
          · subst p4
            simp [] at hs
            obtain ⟨rfl, rfl⟩ := hs
            obtain ⟨x1, ys, w, rfl, hu, hr2⟩ := rowsS hr
            obtain ⟨x2, zs, w2, rfl, hw, hr3⟩ := rowsS hr2
            have hr3 : some (([] : List (List Int)), w2) = some (zs, t') := hr3
            have hr3 := Option.some.inj hr3
            have q1 : [] = zs := congrArg Prod.fst hr3
            have q2 : w2 = t' := congrArg Prod.snd hr3
            subst q1 q2 hw
            match r, hlen, ha, hu with
            | n1 :: n2 :: n3 :: r, _, ha, hu =>
              have ha : (SchedNeutral.natural n1 64 && x1.all (fun (z : Int) => SchedNeutral.natural z 64) && x2.all (fun (z : Int) => SchedNeutral.natural z 64) && SchedNeutral.natural n2 64 && SchedNeutral.natural n3 64) = true := ha
              rw [Bool.and_eq_true, Bool.and_eq_true, Bool.and_eq_true, Bool.and_eq_true] at ha
              have hu : r = _ := hu
              refine ⟨.add n1.toNat (SchedNeutral.nats x1) (SchedNeutral.nats x2) n2.toNat n3.toNat, ?_, rfl⟩
              have := Reads.add n1.toNat n2.toNat n3.toNat (SchedNeutral.nats x1) (SchedNeutral.nats x2) w2
              rw [natural_nat ha.1.1.1.1, natural_nat ha.1.2, natural_nat ha.2, naturals_nats ha.1.1.1.2, naturals_nats ha.1.1.2] at this
              unfold SchedNeutral.nats at this
              rw [List.length_map, List.length_map] at this
              rw [hu]
              exact this
            | [], h, _, _ => simp at h
            | [_], h, _, _ => simp at h
            | [_, _], h, _, _ => simp at h
          by_cases p5 : p = 5
          · subst p5
            simp [] at hs
            obtain ⟨rfl, rfl⟩ := hs
            obtain ⟨rfl, rfl⟩ := rows0 hr
            exact ⟨_, .clear _, rfl⟩
          by_cases p6 : p = 6
          · subst p6
            simp [] at hs
            obtain ⟨rfl, rfl⟩ := hs
            obtain ⟨rfl, rfl⟩ := rows0 hr
            match r, hlen, ha with
            | n1 :: n2 :: r, _, ha =>
              have ha : (SchedNeutral.natural n1 64 && SchedNeutral.natural n2 64) = true := ha
              rw [Bool.and_eq_true] at ha
              refine ⟨.dep n1.toNat n2.toNat, ?_, rfl⟩
              have := Reads.dep n1.toNat n2.toNat r
              rw [natural_nat ha.1, natural_nat ha.2] at this
              exact this
            | [], h, _ => simp at h
            | [_], h, _ => simp at h
          by_cases p7 : p = 7
          · subst p7
            simp [] at hs
            obtain ⟨rfl, rfl⟩ := hs
            obtain ⟨rfl, rfl⟩ := rows0 hr
            exact ⟨_, .bound _, rfl⟩
          by_cases p8 : p = 8
          · subst p8
            simp [] at hs
            obtain ⟨rfl, rfl⟩ := hs
            obtain ⟨x1, ys, w, rfl, hu, hr2⟩ := rowsS hr
            have hr2 : some (([] : List (List Int)), w) = some (ys, t') := hr2
            have hr2 := Option.some.inj hr2
            have q1 : [] = ys := congrArg Prod.fst hr2
            have q2 : w = t' := congrArg Prod.snd hr2
            subst q1 q2
            have ha : x1.all (fun (z : Int) => SchedNeutral.natural z 64) = true := ha
            have hu : r = _ := hu
            refine ⟨.time (SchedNeutral.nats x1), ?_, rfl⟩
            have := Reads.time (SchedNeutral.nats x1) w
            rw [naturals_nats ha] at this
            unfold SchedNeutral.nats at this
            rw [List.length_map] at this
            rw [hu]
            exact this
          by_cases p9 : p = 9
          · subst p9
            simp [] at hs
            obtain ⟨rfl, rfl⟩ := hs
            obtain ⟨rfl, rfl⟩ := rows0 hr
            exact ⟨_, .best _, rfl⟩
          · exfalso
            rw [if_neg p0, if_neg p1, if_neg p2, if_neg p3, if_neg p4, if_neg p5, if_neg p6, if_neg p7, if_neg p8, if_neg p9] at hs
            cases hs
theorem Reads.length {l t : List Int} {c : Call} (h : Reads l c t) : t.length < l.length := by
  cases h <;> simp <;> omega
theorem Reads.drop {l t : List Int} {c : Call} (h : Reads l c t) : l.drop (l.length - t.length) = t := by
  have key : ∀ a b : List Int, (a ++ b).drop ((a ++ b).length - b.length) = b := fun a b => by
    rw [List.length_append, Nat.add_sub_cancel]
    exact List.drop_left
  cases h with
  | init r => exact key [0] _
  | width n r => exact key [1, (n : Int)] _
  | units c n r => exact key [2, (c : Int), (n : Int)] _
  | kind c b l r => exact key [3, (c : Int), (b : Int), (l : Int)] _
  | add k m p rs ws r =>
    have := key ([4, (k : Int), (m : Int), (p : Int), (rs.length : Int)] ++ Sched.ints rs ++ [(ws.length : Int)] ++ Sched.ints ws) t
    simpa using this
  | clear r => exact key [5] _
  | dep i j r => exact key [6, (i : Int), (j : Int)] _
  | bound r => exact key [7] _
  | time o r =>
    have := key ([8, (o.length : Int)] ++ Sched.ints o) t
    simpa using this
  | best r => exact key [9] _
end SM

end
section
/-! The orders that are kept, in their order; the best of them. -/
set_option Elab.async false
namespace SM
open Sched

/-- the smaller number at the first place where they differ -/
def lexL : List Nat → List Nat → Bool
  | [], [] => false
  | [], _ :: _ => true
  | _ :: _, [] => false
  | a :: l, b :: m => if a = b then lexL l m else decide (a < b)
theorem lexL_cons (a b : Nat) (l m : List Nat) : lexL (a :: l) (b :: m) = if a = b then lexL l m else decide (a < b) := rfl
theorem lexL_irrefl : ∀ l, lexL l l = false
  | [] => rfl
  | a :: l => by rw [lexL_cons, if_pos rfl]; exact lexL_irrefl l
theorem lexL_asymm : ∀ {l m : List Nat}, lexL l m = true → lexL m l = false
  | [], [], h => by cases h
  | [], _ :: _, _ => rfl
  | _ :: _, [], h => by cases h
  | a :: l, b :: m, h => by
    rw [lexL_cons] at h ⊢
    by_cases e : a = b
    · subst e
      rw [if_pos rfl] at h ⊢
      exact lexL_asymm h
    · rw [if_neg e] at h
      rw [if_neg (fun q => e q.symm)]
      have h := of_decide_eq_true h
      exact decide_eq_false (by omega)
theorem lexL_total : ∀ {l m : List Nat}, l.length = m.length → l ≠ m → lexL l m = false → lexL m l = true
  | [], [], _, h, _ => absurd rfl h
  | [], _ :: _, h, _, _ => by simp at h
  | _ :: _, [], h, _, _ => by simp at h
  | a :: l, b :: m, h, n, k => by
    rw [lexL_cons] at k ⊢
    by_cases e : a = b
    · subst e
      rw [if_pos rfl] at k ⊢
      exact lexL_total (by simpa using h) (fun q => n (by rw [q])) k
    · rw [if_neg e] at k
      rw [if_neg (fun q => e q.symm)]
      have k := of_decide_eq_false k
      exact decide_eq_true (by omega)
/-- an order of l that keeps what must stay -/
structure Kept (s : State) (l o : List Nat) : Prop where
  perm : o.Perm l
  keeps : Sched.keeps s o = true
theorem keeps_cons {s : State} {a : Nat} {l : List Nat} : Sched.keeps s (a :: l) = true ↔ (∀ b ∈ l, need s b a = none) ∧ Sched.keeps s l = true := by
  show (l.all (fun (b : Nat) => (need s b a).isNone) && Sched.keeps s l) = true ↔ _
  rw [Bool.and_eq_true, List.all_eq_true]
  simp only [Option.isNone_iff_eq_none]
theorem filter_perm {l : List Nat} {j : Nat} (hn : l.Nodup) (hj : j ∈ l) : (j :: l.filter (fun (i : Nat) => i != j)).Perm l := by
  have e : l.filter (fun (i : Nat) => i != j) = l.erase j := by
    rw [hn.erase_eq_filter]
  rw [e]
  exact (List.perm_cons_erase hj).symm
theorem mem_ordersOf {s : State} : ∀ (f : Nat) (l o : List Nat), l.Nodup → l.length = f → (o ∈ ordersOf s f l ↔ Kept s l o)
  | 0, l, o, hn, hl => by
    have e : l = [] := List.length_eq_zero_iff.mp hl
    subst e
    show o ∈ [[]] ↔ _
    constructor
    · intro h
      have h := List.mem_singleton.mp h
      subst h
      exact ⟨List.Perm.nil, rfl⟩
    · intro h
      have h := List.perm_nil.mp h.perm
      subst h
      exact List.mem_singleton.mpr rfl
  | f + 1, l, o, hn, hl => by
    show o ∈ l.flatMap (fun (j : Nat) => let r := l.filter fun (i : Nat) => i != j
      if r.all (fun (i : Nat) => (need s i j).isNone) = true then (ordersOf s f r).map fun (o : List Nat) => j :: o else []) ↔ _
    rw [List.mem_flatMap]
    have lenf : ∀ j ∈ l, (l.filter fun (i : Nat) => i != j).length = f := fun j hj => by
      have := (filter_perm hn hj).length_eq
      rw [List.length_cons] at this
      omega
    constructor
    · rintro ⟨j, hj, h⟩
      dsimp only at h
      split at h
      · rename_i c
        obtain ⟨o', ho', rfl⟩ := List.mem_map.mp h
        have ih := (mem_ordersOf f _ o' (hn.filter _) (lenf j hj)).mp ho'
        refine ⟨(ih.perm.cons j).trans (filter_perm hn hj), keeps_cons.mpr ⟨fun b hb => ?_, ih.keeps⟩⟩
        have := List.all_eq_true.mp c b (ih.perm.mem_iff.mp hb)
        exact Option.isNone_iff_eq_none.mp this
      · cases h
    · intro h
      cases o with
      | nil =>
        have := h.perm.length_eq
        simp at this
        omega
      | cons j o' =>
        have hj : j ∈ l := h.perm.mem_iff.mp (List.mem_cons_self ..)
        obtain ⟨k1, k2⟩ := keeps_cons.mp h.keeps
        have hp : o'.Perm (l.filter fun (i : Nat) => i != j) := (h.perm.trans (filter_perm hn hj).symm).cons_inv
        refine ⟨j, hj, ?_⟩
        dsimp only
        rw [if_pos (List.all_eq_true.mpr fun i hi => by rw [k1 i (hp.mem_iff.mpr hi)]; rfl)]
        exact List.mem_map.mpr ⟨o', (mem_ordersOf f _ o' (hn.filter _) (lenf j hj)).mpr ⟨hp, k2⟩, rfl⟩
theorem sorted_ordersOf {s : State} : ∀ (f : Nat) (l : List Nat), l.Pairwise (· < ·) → (ordersOf s f l).Pairwise (fun a b => lexL a b = true)
  | 0, l, _ => List.pairwise_singleton ..
  | f + 1, l, h => by
    show (l.flatMap (fun (j : Nat) => let r := l.filter fun (i : Nat) => i != j
      if r.all (fun (i : Nat) => (need s i j).isNone) = true then (ordersOf s f r).map fun (o : List Nat) => j :: o else [])).Pairwise _
    rw [List.pairwise_flatMap]
    refine ⟨fun j hj => ?_, ?_⟩
    · dsimp only
      split
      · rw [List.pairwise_map]
        refine (sorted_ordersOf f _ (h.filter _)).imp fun {a b} q => ?_
        rw [lexL_cons, if_pos rfl]
        exact q
      · exact List.Pairwise.nil
    · refine h.imp fun {i j} hij x hx y hy => ?_
      dsimp only at hx hy
      split at hx
      · split at hy
        · obtain ⟨x', _, rfl⟩ := List.mem_map.mp hx
          obtain ⟨y', _, rfl⟩ := List.mem_map.mp hy
          rw [lexL_cons, if_neg (by omega)]
          exact decide_eq_true hij
        · cases hy
      · cases hx
theorem range_sorted (n : Nat) : (List.range n).Pairwise (· < ·) := List.pairwise_lt_range
theorem range_nodup (n : Nat) : (List.range n).Nodup := List.nodup_range
/-- what firstLeast picks -/
theorem firstLeast_spec : ∀ (l : List (Nat × List Nat)) (b : Nat × List Nat), (b :: l).Pairwise (fun x y => lexL x.2 y.2 = true) →
    firstLeast l b ∈ b :: l ∧ ∀ x ∈ b :: l, (firstLeast l b).1 < x.1 ∨ ((firstLeast l b).1 = x.1 ∧ (firstLeast l b = x ∨ lexL (firstLeast l b).2 x.2 = true))
  | [], b, _ => by
    refine ⟨List.mem_singleton.mpr rfl, fun x hx => ?_⟩
    have hx := List.mem_singleton.mp hx
    subst hx
    exact .inr ⟨rfl, .inl rfl⟩
  | y :: l, b, h => by
    show firstLeast l (if y.1 < b.1 then y else b) ∈ _ ∧ ∀ x ∈ b :: y :: l, (firstLeast l (if y.1 < b.1 then y else b)).1 < x.1 ∨ ((firstLeast l (if y.1 < b.1 then y else b)).1 = x.1 ∧ (firstLeast l (if y.1 < b.1 then y else b) = x ∨ lexL (firstLeast l (if y.1 < b.1 then y else b)).2 x.2 = true))
    obtain ⟨h1, h2⟩ := List.pairwise_cons.mp h
    obtain ⟨h3, h4⟩ := List.pairwise_cons.mp h2
    by_cases c : y.1 < b.1
    · rw [if_pos c]
      obtain ⟨m, q⟩ := firstLeast_spec l y h2
      refine ⟨List.mem_cons_of_mem _ m, fun x hx => ?_⟩
      rcases List.mem_cons.mp hx with e | e
      · subst e
        refine .inl ?_
        rcases q y (List.mem_cons_self ..) with r | ⟨r, _⟩ <;> omega
      · exact q x e
    · rw [if_neg c]
      have h5 : (b :: l).Pairwise (fun x y => lexL x.2 y.2 = true) := List.pairwise_cons.mpr ⟨fun x hx => h1 x (List.mem_cons_of_mem _ hx), h4⟩
      obtain ⟨m, q⟩ := firstLeast_spec l b h5
      refine ⟨?_, fun x hx => ?_⟩
      · rcases List.mem_cons.mp m with e | e
        · rw [e]; exact List.mem_cons_self ..
        · exact List.mem_cons_of_mem _ (List.mem_cons_of_mem _ e)
      · rcases List.mem_cons.mp hx with e | e
        · subst e
          exact q x (List.mem_cons_self ..)
        · rcases List.mem_cons.mp e with e | e
          · subst e
            have qb := q b (List.mem_cons_self ..)
            have hbx : lexL b.2 x.2 = true := h1 x (List.mem_cons_self ..)
            rcases qb with r | ⟨r, r2⟩
            · exact .inl (by omega)
            · by_cases d : (firstLeast l b).1 < x.1
              · exact .inl d
              · refine .inr ⟨by omega, .inr ?_⟩
                rcases List.mem_cons.mp m with e2 | e2
                · rw [e2]; exact hbx
                · -- it stands behind b with b's own length: then it is b
                  rcases r2 with r2 | r2
                  · rw [r2]; exact hbx
                  · have := h1 _ (List.mem_cons_of_mem _ e2)
                    rw [lexL_asymm r2] at this
                    cases this
          · exact q x (List.mem_cons_of_mem _ e)
/-- an order is better -/
def taken (s : State) (o : List Nat) : Nat := lengthOf s o (timed s [] o)
theorem given_kept_aux {s : State} : ∀ (l : List Nat), l.Pairwise (· < ·) → Sched.keeps s l = true
  | [], _ => rfl
  | a :: l, h => by
    obtain ⟨h1, h2⟩ := List.pairwise_cons.mp h
    refine keeps_cons.mpr ⟨fun b hb => ?_, given_kept_aux l h2⟩
    have := h1 b hb
    unfold need
    split
    · rw [if_neg (by omega)]
    · rfl
theorem given_kept (s : State) : Kept s (List.range s.block.length) (List.range s.block.length) := ⟨List.Perm.refl _, given_kept_aux _ (range_sorted _)⟩
theorem bestOf_spec (s : State) : Kept s (List.range s.block.length) (bestOf s) ∧ ∀ o, Kept s (List.range s.block.length) o → taken s (bestOf s) < taken s o ∨ (taken s (bestOf s) = taken s o ∧ (bestOf s = o ∨ lexL (bestOf s) o = true)) := by
  have hm := fun o => mem_ordersOf (s := s) s.block.length (List.range s.block.length) o (range_nodup _) List.length_range
  have hs := sorted_ordersOf (s := s) s.block.length (List.range s.block.length) (range_sorted _)
  unfold bestOf
  cases e : ordersOf s s.block.length (List.range s.block.length) with
  | nil =>
    have := (hm _).mpr (given_kept s)
    rw [e] at this
    cases this
  | cons x l =>
    rw [e] at hs
    rw [List.map_cons]
    dsimp only
    have hs' : ((x :: l).map fun (o : List Nat) => (lengthOf s o (timed s [] o), o)).Pairwise (fun a b => lexL a.2 b.2 = true) := by
      rw [List.pairwise_map]
      exact hs
    rw [List.map_cons] at hs'
    obtain ⟨m, q⟩ := firstLeast_spec _ _ hs'
    rw [← List.map_cons (f := fun (o : List Nat) => (lengthOf s o (timed s [] o), o))] at m q
    obtain ⟨b, hb, eb⟩ := List.mem_map.mp m
    rw [← eb] at q ⊢
    refine ⟨(hm b).mp (by rw [e]; exact hb), fun o ho => ?_⟩
    have ho' := (hm o).mpr ho
    rw [e] at ho'
    have := q (lengthOf s o (timed s [] o), o) (List.mem_map.mpr ⟨o, ho', rfl⟩)
    rcases this with r | ⟨r1, r2⟩
    · exact .inl r
    · refine .inr ⟨r1, ?_⟩
      rcases r2 with r2 | r2
      · exact .inl (congrArg Prod.snd r2)
      · exact .inr r2
/-- there is just one -/
theorem bestOf_unique {s : State} {o : List Nat} (h : Kept s (List.range s.block.length) o) (hb : ∀ o', Kept s (List.range s.block.length) o' → taken s o < taken s o' ∨ (taken s o = taken s o' ∧ (o = o' ∨ lexL o o' = true))) : bestOf s = o := by
  obtain ⟨k, q⟩ := bestOf_spec s
  rcases q o h with a | ⟨a, a2⟩
  · rcases hb _ k with b | ⟨b, _⟩ <;> omega
  · rcases a2 with a2 | a2
    · exact a2
    · rcases hb _ k with b | ⟨b, b2⟩
      · omega
      · rcases b2 with b2 | b2
        · exact b2.symm
        · rw [lexL_asymm a2] at b2
          cases b2

/-! ### times grow at the end -/
theorem timed_length (s : State) : ∀ (o : List Nat) (b : Begun), (timed s b o).length = o.length
  | [], _ => rfl
  | j :: r, b => by
    show (timed s (b ++ [(j, beginAt s b j)]) r).length + 1 = r.length + 1
    rw [timed_length s r]
theorem timed_snoc (s : State) : ∀ (o : List Nat) (b : Begun) (j : Nat), timed s b (o ++ [j]) = timed s b o ++ [beginAt s (b ++ o.zip (timed s b o)) j]
  | [], b, j => by
    show [beginAt s b j] = [beginAt s (b ++ []) j]
    rw [List.append_nil]
  | i :: r, b, j => by
    show beginAt s b i :: timed s (b ++ [(i, beginAt s b i)]) (r ++ [j]) = beginAt s b i :: (timed s (b ++ [(i, beginAt s b i)]) r ++ [beginAt s (b ++ (i, beginAt s b i) :: r.zip (timed s (b ++ [(i, beginAt s b i)]) r)) j])
    rw [timed_snoc s r, List.append_assoc]
    rfl
theorem taken_nil (s : State) : taken s [] = 0 := rfl
theorem lengthOf_snoc (s : State) {o ts : List Nat} (h : o.length = ts.length) (j t : Nat) : lengthOf s (o ++ [j]) (ts ++ [t]) = max (lengthOf s o ts) (t + latencyOf s j) := by
  unfold lengthOf
  rw [List.zip_append h, List.foldl_append]
  rfl
/-! ### is it an order -/
theorem perm_of_all : ∀ (l o : List Nat), l.Nodup → o.length = l.length → (∀ x ∈ l, x ∈ o) → o.Perm l
  | [], o, _, h, _ => by
    have e : o = [] := List.length_eq_zero_iff.mp h
    subst e
    exact List.Perm.nil
  | a :: l, o, hn, h, k => by
    obtain ⟨n1, n2⟩ := List.nodup_cons.mp hn
    have ha : a ∈ o := k a (List.mem_cons_self ..)
    have p := List.perm_cons_erase ha
    refine p.trans ((perm_of_all l (o.erase a) n2 ?_ fun x hx => ?_).cons a)
    · have := p.length_eq
      rw [List.length_cons] at this h
      omega
    · have hx' := k x (List.mem_cons_of_mem _ hx)
      have ne : x ≠ a := fun q => n1 (by rw [← q]; exact hx)
      exact (List.mem_erase_of_ne ne).mpr hx'
theorem isOrder_iff {s : State} {o : List Nat} : isOrder s o = true ↔ o.Perm (List.range s.block.length) := by
  unfold isOrder
  rw [Bool.and_eq_true, List.all_eq_true, beq_iff_eq]
  constructor
  · rintro ⟨h1, h2⟩
    exact perm_of_all _ o (range_nodup _) (by rw [List.length_range]; exact h1) fun i hi => by simpa using h2 i hi
  · intro h
    refine ⟨by rw [h.length_eq, List.length_range], fun i hi => ?_⟩
    rw [List.contains_iff_mem]
    exact h.mem_iff.mpr hi
end SM

end
section
/-! What is left of the list, turn by turn. -/
set_option Elab.async false
namespace SM
open Sched

theorem kept_length {s : State} {l o : List Nat} (h : Kept s l o) : o.length = l.length := h.perm.length_eq
theorem ans_len {s : State} (h : Wf s) (c : Call) : (ans (step s c).2).length ≤ 16 := by
  have hs : ∀ z : Int, (ans (says z)).length ≤ 16 := fun z => by rw [ans_says]; show 4 ≤ 16; decide
  have ht : ∀ (z : Int) (l : List Nat), l.length ≤ 12 → (ans (tells z l)).length ≤ 16 := fun z l hl => by
    rw [ans_tells]
    have e : (Sched.ints l).length = l.length := by unfold Sched.ints; rw [List.length_map]
    simp only [List.length_cons, e]
    omega
  have hb := h.blen
  cases c with
  | init => exact hs _
  | width n => unfold step; dsimp only; split <;> exact hs _
  | units c n => unfold step; dsimp only; split <;> exact hs _
  | kind c b l => unfold step; dsimp only; split <;> exact hs _
  | add k r w m p =>
    unfold step
    dsimp only
    split
    · exact hs _
    · split <;> exact hs _
  | clear => exact hs _
  | dep i j => unfold step; dsimp only; split <;> exact hs _
  | bound => exact hs _
  | time o =>
    unfold step
    dsimp only
    split
    · exact hs _
    · split
      · exact hs _
      · rename_i h1 h2
        refine ht _ _ ?_
        have h1 : isOrder s o = true := by simpa using h1
        have := (isOrder_iff.mp h1).length_eq
        rw [List.length_range] at this
        rw [timed_length]
        omega
  | best =>
    refine ht _ _ ?_
    have := kept_length (bestOf_spec s).1
    rw [List.length_range] at this
    rw [List.length_append, timed_length]
    omega
structure Rest (l : List Int) (k : Nat) (s : State) (out : List Int) : Prop where
  le : k ≤ l.length
  wf : Wf s
  ex : ∃ f cs n, PyFlat.calls PyWqaeag.shape f (l.drop k) = some cs ∧ (∀ c ∈ cs, SchedNeutral.asked1 c = true) ∧ PyWqaeag.answers l = out ++ PyFlat.told (PyFlat.played SchedNeutral.step s cs) ∧ cs.length + n ≤ 400 ∧ out.length ≤ 16 * n
theorem rest_start {l : List Int} (h : PyWqaeag.answers_asked l = true) : Rest l 0 start [] := by
  refine ⟨Nat.zero_le _, wf_start, ?_⟩
  unfold PyWqaeag.answers_asked at h
  unfold PyWqaeag.answers
  cases e : PyWqaeag.calls l with
  | none => rw [e] at h; cases h
  | some cs =>
    rw [e] at h
    unfold PyWqaeag.calls at e
    cases e2 : PyFlat.calls PyWqaeag.shape l.length l with
    | none => rw [e2] at e; cases e
    | some ds =>
      rw [e2] at e
      have e := Option.some.inj e
      rw [map_whole] at e
      subst e
      refine ⟨l.length, ds, 0, e2, ?_, rfl, ?_, Nat.le_refl _⟩
      all_goals rw [Bool.and_eq_true] at h
      have h2 := h.2
      unfold SchedNeutral.asked at h2
      rw [Bool.and_eq_true] at h2
      · exact List.all_eq_true.mp h2.1
      · have := of_decide_eq_true h.1
        exact this
theorem rest_end {l : List Int} {k : Nat} {s : State} {out : List Int} (h : Rest l k s out) (e : l.length ≤ k) : PyWqaeag.answers l = out := by
  obtain ⟨f, cs, n, h1, h2, h3, h4, h5⟩ := h.ex
  rw [List.drop_eq_nil_of_le e] at h1
  have q : cs = [] := by
    cases f <;> exact (Option.some.inj h1).symm
  subst q
  rw [h3]
  show out ++ [] = out
  rw [List.append_nil]
theorem rest_len {l : List Int} {k : Nat} {s : State} {out : List Int} (h : Rest l k s out) : out.length ≤ 6400 := by
  obtain ⟨f, cs, n, h1, h2, h3, h4, h5⟩ := h.ex
  omega
/-- THE TURN: a call is read, what is left goes on from the state behind it -/
theorem rest_turn {l : List Int} {k : Nat} {s : State} {out : List Int} (h : Rest l k s out) (hk : k < l.length) :
    ∃ (c : Call) (t : List Int) (k' : Nat), Reads (l.drop k) c t ∧ t = l.drop k' ∧ k < k' ∧ Rest l k' (step s c).1 (out ++ ans (step s c).2) := by
  obtain ⟨f, cs, n, h1, h2, h3, h4, h5⟩ := h.ex
  cases e : l.drop k with
  | nil =>
    have := List.drop_eq_nil_iff.mp e
    omega
  | cons p r =>
    rw [e] at h1
    cases f with
    | zero => cases h1
    | succ f =>
      have h1 : (match PyFlat.call PyWqaeag.shape (p :: r) with
        | none => none
        | some (c, t) => match PyFlat.calls PyWqaeag.shape f t with
          | none => none
          | some cs => some (c :: cs)) = some cs := h1
      cases e1 : PyFlat.call PyWqaeag.shape (p :: r) with
      | none => rw [e1] at h1; cases h1
      | some a =>
        obtain ⟨c, t⟩ := a
        rw [e1] at h1
        dsimp only at h1
        cases e2 : PyFlat.calls PyWqaeag.shape f t with
        | none => rw [e2] at h1; cases h1
        | some ds =>
          rw [e2] at h1
          have h1 := Option.some.inj h1
          subst h1
          obtain ⟨x, hx, hc⟩ := call_some e1 (h2 c (List.mem_cons_self ..))
          have hl := hx.length
          have hd := hx.drop
          rw [← e] at hl hd
          rw [List.length_drop] at hl hd
          rw [List.drop_drop] at hd
          have hk' : k + (l.length - k - t.length) = l.length - t.length := by omega
          rw [hk'] at hd
          refine ⟨x, t, l.length - t.length, hx, hd.symm, by omega, ⟨by omega, wf_step h.wf x, f, ds, n + 1, by rw [hd]; exact e2, fun c' hc' => h2 c' (List.mem_cons_of_mem _ hc'), ?_, by rw [List.length_cons] at h4; omega, by have := ans_len h.wf x; rw [List.length_append]; omega⟩⟩
          rw [h3]
          have hs : SchedNeutral.step s c = ((step s x).1, SchedNeutral.numbersOf (step s x).2) := by
            unfold SchedNeutral.step
            rw [hc]
          show out ++ PyFlat.told ((SchedNeutral.step s c).2 :: PyFlat.played SchedNeutral.step (SchedNeutral.step s c).1 ds) = _
          rw [hs]
          unfold PyFlat.told
          rw [List.flatMap_cons, List.append_assoc]
          rfl
end SM

end
section
/-! What the program does, in plain words over the specification: the closed form of the earliest cycle, accepted prefixes, the flow, the walk over prefixes. -/
set_option Elab.async false
set_option linter.all false
namespace SM
open Sched
def mx (l : List Nat) : Nat := l.foldl max 0
theorem foldl_max_base : ∀ (l : List Nat) (a b : Nat), l.foldl max (max a b) = max a (l.foldl max b)
  | [], _, _ => rfl
  | x :: l, a, b => by
    show l.foldl max (max (max a b) x) = max a (l.foldl max (max b x))
    rw [Nat.max_assoc, foldl_max_base l a (max b x)]
theorem mx_cons (a : Nat) (l : List Nat) : mx (a :: l) = max a (mx l) := by
  show l.foldl max (max 0 a) = _
  rw [Nat.max_comm, foldl_max_base]
  rfl
theorem mx_snoc (l : List Nat) (a : Nat) : mx (l ++ [a]) = max (mx l) a := by
  unfold mx; rw [List.foldl_append]; rfl
theorem mx_le {l : List Nat} {t : Nat} : mx l ≤ t ↔ ∀ x ∈ l, x ≤ t := by
  induction l with
  | nil => simp [mx]
  | cons a l ih =>
    rw [mx_cons]
    constructor
    · intro h x hx
      rcases List.mem_cons.mp hx with rfl | hx
      · omega
      · exact ih.mp (by omega) x hx
    · intro h
      have h1 := h a List.mem_cons_self
      have h2 := ih.mpr fun x hx => h x (List.mem_cons_of_mem _ hx)
      omega
theorem le_mx {l : List Nat} {x : Nat} (h : x ∈ l) : x ≤ mx l := mx_le.mp (Nat.le_refl _) x h
/-! ### begun so far, in an order -/
def tb (s : State) (o : List Nat) : Begun := o.zip (timed s [] o)
theorem tb_nil (s : State) : tb s [] = [] := rfl
theorem tb_snoc (s : State) (o : List Nat) (j : Nat) : tb s (o ++ [j]) = tb s o ++ [(j, beginAt s (tb s o) j)] := by
  unfold tb
  rw [timed_snoc, List.zip_append (by rw [timed_length])]
  rfl
theorem tb_keys (s : State) (o : List Nat) : (tb s o).map (·.1) = o := by
  unfold tb
  exact List.map_fst_zip (by rw [timed_length]; exact Nat.le_refl _)
theorem tb_vals (s : State) (o : List Nat) : (tb s o).map (·.2) = timed s [] o := by
  unfold tb
  exact List.map_snd_zip (by rw [timed_length]; exact Nat.le_refl _)
theorem tb_length (s : State) (o : List Nat) : (tb s o).length = o.length := by
  rw [← List.length_map (f := (·.1)), tb_keys]
/-- how many cycles what has begun takes -/
def cyc (s : State) (b : Begun) : Nat := mx (b.map fun (x : Nat × Nat) => x.2 + latencyOf s x.1)
theorem lengthOf_cyc (s : State) (o ts : List Nat) : lengthOf s o ts = cyc s (o.zip ts) := by
  unfold lengthOf cyc mx
  rw [List.foldl_map]
theorem taken_cyc (s : State) (o : List Nat) : taken s o = cyc s (tb s o) := lengthOf_cyc s o _
theorem cyc_snoc (s : State) (b : Begun) (x : Nat × Nat) : cyc s (b ++ [x]) = max (cyc s b) (x.2 + latencyOf s x.1) := by
  unfold cyc
  rw [List.map_append]
  exact mx_snoc _ _
theorem taken_snoc (s : State) (o : List Nat) (j : Nat) : taken s o ≤ taken s (o ++ [j]) := by
  rw [taken_cyc, taken_cyc, tb_snoc, cyc_snoc]
  exact Nat.le_max_left _ _
theorem taken_app (s : State) (o r : List Nat) : taken s o ≤ taken s (o ++ r) := by
  induction r generalizing o with
  | nil => rw [List.append_nil]; exact Nat.le_refl _
  | cons a r ih =>
    rw [show o ++ a :: r = (o ++ [a]) ++ r by simp]
    exact Nat.le_trans (taken_snoc s o a) (ih (o ++ [a]))
theorem taken_prefix {s : State} {p o : List Nat} (h : p <+: o) : taken s p ≤ taken s o := by
  obtain ⟨r, rfl⟩ := h
  exact taken_app s p r
/-! ### what an instruction waits for -/
def wt (s : State) (j : Nat) : Begun := (List.range j).filterMap fun i => (need s i j).map fun d => (i, d)
theorem need_lt {s : State} {i j d : Nat} (h : need s i j = some d) : i < j ∧ i < s.block.length ∧ j < s.block.length := by
  unfold need at h
  split at h
  · rename_i x y hx hy
    split at h
    · rename_i c
      exact ⟨c.1, (List.getElem?_eq_some_iff.mp hx).1, (List.getElem?_eq_some_iff.mp hy).1⟩
    · cases h
  · cases h
theorem mem_wt {s : State} {j : Nat} {x : Nat × Nat} : x ∈ wt s j ↔ need s x.1 j = some x.2 := by
  unfold wt
  rw [List.mem_filterMap]
  constructor
  · rintro ⟨i, hi, h⟩
    obtain ⟨d, hd, e⟩ := Option.map_eq_some_iff.mp h
    subst e
    exact hd
  · intro h
    exact ⟨x.1, List.mem_range.mpr (need_lt h).1, by rw [h]; rfl⟩
def has (b : List Nat) (w : Begun) : Bool := w.all fun x => b.contains x.1
theorem has_iff {s : State} {b : List Nat} {j : Nat} : has b (wt s j) = true ↔ ∀ i d, need s i j = some d → i ∈ b := by
  unfold has
  rw [List.all_eq_true]
  constructor
  · intro h i d e
    exact List.contains_iff_mem.mp (h (i, d) (mem_wt.mpr e))
  · intro h x hx
    exact List.contains_iff_mem.mpr (h x.1 x.2 (mem_wt.mp hx))
/-! ### the earliest cycle, closed -/
def at2 (b : Begun) (i : Nat) : Nat := (b.lookup i).getD 0
def aWaits (w b : Begun) : Nat := mx (w.map fun x => at2 b x.1 + x.2)
def aWidth (w : Nat) (c : List Nat) : Nat := if c.length < w then 0 else c.getD (c.length - w) 0 + 1
def endsOf (s : State) (b : Begun) (u : Nat) : List Nat := b.filterMap fun x => match s.block[x.1]? with
  | some z => if z.kind.unit = u then some (x.2 + z.kind.busy) else none
  | none => none
def aUnits (n : Nat) (es : List Nat) : Nat := if es.length < n then 0 else es.getD (es.length - n) 0
structure Good (s : State) (b : Begun) : Prop where
  nd : (b.map (·.1)).Nodup
  lt : ∀ x ∈ b, x.1 < s.block.length
  sorted : (b.map (·.2)).Pairwise (· ≤ ·)
theorem cnt_ge : ∀ {l : List Nat} {u v : Nat}, l.Pairwise (· ≤ ·) → 1 ≤ u → u ≤ l.length → ((l.filter fun x => decide (v ≤ x)).length < u ↔ l.getD (l.length - u) 0 < v)
  | [], u, v, _, h1, h2 => by simp at h2; omega
  | a :: l, u, v, hs, h1, h2 => by
    obtain ⟨ha, hs'⟩ := List.pairwise_cons.mp hs
    have hlen : (a :: l).length = l.length + 1 := rfl
    by_cases hu : u = l.length + 1
    · subst hu
      rw [hlen, Nat.sub_self]
      show _ ↔ a < v
      constructor
      · intro h
        by_cases hv : v ≤ a
        · exfalso
          have e : ((a :: l).filter fun x => decide (v ≤ x)) = a :: l := List.filter_eq_self.mpr fun x hx => by
            rcases List.mem_cons.mp hx with rfl | hx
            · exact decide_eq_true hv
            · exact decide_eq_true (Nat.le_trans hv (ha x hx))
          rw [e, hlen] at h
          omega
        · omega
      · intro h
        rw [List.filter_cons, if_neg (by simp; omega)]
        have := List.length_filter_le (fun x => decide (v ≤ x)) l
        omega
    · have hu' : u ≤ l.length := by rw [hlen] at h2; omega
      have ih := cnt_ge (l := l) (u := u) (v := v) hs' h1 hu'
      have e1 : (a :: l).length - u = (l.length - u) + 1 := by rw [hlen]; omega
      rw [e1]
      have e2 : (a :: l).getD (l.length - u + 1) 0 = l.getD (l.length - u) 0 := by simp [List.getD]
      rw [e2, ← ih]
      by_cases hv : v ≤ a
      · have hall : (l.filter fun x => decide (v ≤ x)) = l := List.filter_eq_self.mpr fun x hx => decide_eq_true (Nat.le_trans hv (ha x hx))
        rw [List.filter_cons, if_pos (decide_eq_true hv), hall, List.length_cons]
        constructor <;> intro h <;> omega
      · rw [List.filter_cons, if_neg (by simp; omega)]
theorem lookup_mem {b : Begun} {i t : Nat} (nd : (b.map (·.1)).Nodup) (h : (i, t) ∈ b) : b.lookup i = some t := by
  induction b with
  | nil => cases h
  | cons x b ih =>
    obtain ⟨n1, n2⟩ := List.nodup_cons.mp nd
    rw [show x = (x.1, x.2) from rfl, List.lookup_cons]
    rcases List.mem_cons.mp h with e | h
    · subst e
      simp
    · have : (i == x.1) = false := by
        rw [beq_eq_false_iff_ne]
        intro e
        exact n1 (List.mem_map.mpr ⟨(i, t), h, e⟩)
      rw [this]
      exact ih n2 h
theorem lastOf_mx (b : Begun) : lastOf b = mx (b.map (·.2)) := by
  unfold lastOf mx
  rw [List.foldl_map]
/-- the cycle that the program takes -/
def eb (s : State) (b : Begun) (k : Nat) (es : List Nat) (u : Nat) : Nat := max (max (mx (b.map (·.2))) (aWidth s.width (b.map (·.2)))) (max (aWaits (wt s k) b) (aUnits (s.units.getD u 1) es))
theorem may_iff {s : State} (h : Wf s) {b : Begun} {k t : Nat} {y : Ins} {es : List Nat} (g : Good s b) (hy : s.block[k]? = some y) (hw : has (b.map (·.1)) (wt s k) = true) (ht : lastOf b ≤ t) (pe : es.Perm (endsOf s b y.kind.unit)) (se : es.Pairwise (· ≤ ·)) :
    may s b k t = true ↔ eb s b k es y.kind.unit ≤ t := by
  have hall : ∀ x ∈ b, x.2 ≤ t := fun x hx => Nat.le_trans (le_lastOf hx) ht
  unfold may
  rw [hy]
  dsimp only
  rw [Bool.and_eq_true, Bool.and_eq_true, Bool.and_eq_true]
  -- width
  have hW : decide ((b.filter fun (x : Nat × Nat) => x.2 == t).length < s.width) = true ↔ aWidth s.width (b.map (·.2)) ≤ t := by
    rw [decide_eq_true_iff]
    have e : (b.filter fun (x : Nat × Nat) => x.2 == t).length = ((b.map (·.2)).filter fun x => decide (t ≤ x)).length := by
      rw [List.filter_map, List.length_map]
      congr 1
      refine List.filter_congr fun x hx => ?_
      have := hall x hx
      show (x.2 == t) = decide (t ≤ x.2)
      by_cases q : x.2 = t
      · rw [q]; simp
      · rw [beq_false_of_ne q]; symm; exact decide_eq_false (by omega)
    rw [e]
    unfold aWidth
    split
    · rename_i hl
      have := List.length_filter_le (fun x => decide (t ≤ x)) (b.map (·.2))
      constructor <;> intro _ <;> omega
    · rename_i hl
      rw [cnt_ge g.sorted h.w1 (by omega)]
      omega
  -- waits
  have hN : (b.all fun (x : Nat × Nat) => match need s x.1 k with | some d => decide (x.2 + d ≤ t) | none => true) = true ↔ aWaits (wt s k) b ≤ t := by
    rw [List.all_eq_true]
    unfold aWaits
    rw [mx_le]
    constructor
    · intro q z hz
      obtain ⟨x, hx, rfl⟩ := List.mem_map.mp hz
      have e := mem_wt.mp hx
      have m := (has_iff.mp hw) x.1 x.2 e
      obtain ⟨y', hy', e'⟩ := List.mem_map.mp m
      have q' := q y' hy'
      have e2 : need s y'.1 k = some x.2 := by rw [e']; exact e
      rw [e2] at q'
      have q' := of_decide_eq_true q'
      have l : b.lookup x.1 = some y'.2 := lookup_mem g.nd (by rw [← e']; exact hy')
      unfold at2
      rw [l]
      exact q'
    · intro q x hx
      split
      · rename_i d hd
        refine decide_eq_true ?_
        have l : b.lookup x.1 = some x.2 := lookup_mem g.nd hx
        have := q (at2 b x.1 + d) (List.mem_map.mpr ⟨(x.1, d), mem_wt.mpr hd, rfl⟩)
        unfold at2 at this
        rw [l] at this
        exact this
      · rfl
  -- units
  have hU : decide (engaged s b y t < s.units.getD y.kind.unit 1) = true ↔ aUnits (s.units.getD y.kind.unit 1) es ≤ t := by
    rw [decide_eq_true_iff]
    have e : engaged s b y t = (es.filter fun x => decide (t + 1 ≤ x)).length := by
      rw [(pe.filter _).length_eq]
      unfold engaged endsOf
      clear hW hN hall pe se hw g ht
      induction b with
      | nil => rfl
      | cons x b ih =>
        rw [List.filterMap_cons, List.filter_cons]
        cases e1 : s.block[x.1]? with
        | none => simpa using ih
        | some z =>
          by_cases e2 : z.kind.unit = y.kind.unit
          · by_cases e3 : t < x.2 + z.kind.busy
            · simp [e2, e3, List.filter_cons]
              rw [if_pos (by omega), List.length_cons]
              simpa using ih
            · simp [e2, e3, List.filter_cons]
              rw [if_neg (by omega)]
              simpa using ih
          · simpa [e2] using ih
    rw [e]
    unfold aUnits
    split
    · rename_i hl
      have := List.length_filter_le (fun x => decide (t + 1 ≤ x)) es
      constructor <;> intro _ <;> omega
    · rename_i hl
      rw [cnt_ge se (units_pos h _) (by omega)]
      omega
  have hL : mx (b.map (·.2)) ≤ t := by rw [← lastOf_mx]; exact ht
  have hA : (b.all fun (x : Nat × Nat) => decide (x.2 ≤ t)) = true := List.all_eq_true.mpr fun x hx => decide_eq_true (hall x hx)
  unfold eb
  constructor
  · rintro ⟨_, q1, q2, q3⟩
    have q1 := hW.mp q1
    have q2 := hN.mp q2
    have q3 := hU.mp q3
    omega
  · intro q
    exact ⟨hA, hW.mpr (by omega), hN.mpr (by omega), hU.mpr (by omega)⟩
theorem eb_is {s : State} (h : Wf s) {b : Begun} {k : Nat} {y : Ins} {es : List Nat} (g : Good s b) (hy : s.block[k]? = some y) (hw : has (b.map (·.1)) (wt s k) = true) (pe : es.Perm (endsOf s b y.kind.unit)) (se : es.Pairwise (· ≤ ·)) :
    beginAt s b k = eb s b k es y.kind.unit := by
  obtain ⟨h1, h2, h3, h4⟩ := beginAt_ok h b k
  have q1 := (may_iff h g hy hw h1 pe se).mp h3
  have q0 : lastOf b ≤ eb s b k es y.kind.unit := by rw [lastOf_mx]; unfold eb; omega
  rcases Nat.lt_or_ge (eb s b k es y.kind.unit) (beginAt s b k) with q | q
  · have z := h4 _ q0 q
    rw [(may_iff h g hy hw q0 pe se).mpr (Nat.le_refl _)] at z
    cases z
  · omega
theorem good_nil (s : State) : Good s [] := ⟨List.nodup_nil, (fun x hx => nomatch hx), List.Pairwise.nil⟩
theorem good_snoc {s : State} (h : Wf s) {b : Begun} (g : Good s b) {k : Nat} (hk : k < s.block.length) (hn : k ∉ b.map (·.1)) : Good s (b ++ [(k, beginAt s b k)]) := by
  refine ⟨?_, fun x hx => ?_, ?_⟩
  · rw [List.map_append]
    exact List.nodup_append.mpr ⟨g.nd, by simp, fun x hx z hz => by
      have e : z = k := by simpa using hz
      subst e
      intro q
      subst q
      exact hn hx⟩
  · rcases List.mem_append.mp hx with q | q
    · exact g.lt x q
    · rw [List.mem_singleton.mp q]; exact hk
  · rw [List.map_append, List.pairwise_append]
    refine ⟨g.sorted, by simp, fun x hx z hz => ?_⟩
    have e : z = beginAt s b k := by simpa using hz
    subst e
    obtain ⟨y, hy, rfl⟩ := List.mem_map.mp hx
    exact Nat.le_trans (le_lastOf hy) (beginAt_ok h b k).1
/-! ### accepted prefixes -/
inductive Acc (s : State) : List Nat → Prop
  | nil : Acc s []
  | snoc {o : List Nat} {k : Nat} : Acc s o → k < s.block.length → k ∉ o → has o (wt s k) = true → Acc s (o ++ [k])
theorem Acc.good {s : State} (h : Wf s) {o : List Nat} (a : Acc s o) : Good s (tb s o) := by
  induction a with
  | nil => exact good_nil s
  | @snoc o k a hk hn hw ih =>
    rw [tb_snoc]
    exact good_snoc h ih hk (by rw [tb_keys]; exact hn)
theorem Acc.nodup {s : State} {o : List Nat} (a : Acc s o) : o.Nodup := by
  induction a with
  | nil => exact List.nodup_nil
  | @snoc o k a hk hn hw ih =>
    exact List.nodup_append.mpr ⟨ih, by simp, fun x hx z hz => by
      have e : z = k := by simpa using hz
      subst e
      intro q
      subst q
      exact hn hx⟩
theorem Acc.lt {s : State} {o : List Nat} (a : Acc s o) : ∀ k ∈ o, k < s.block.length := by
  induction a with
  | nil => intro k hk; cases hk
  | @snoc o k a hk hn hw ih =>
    intro i hi
    rcases List.mem_append.mp hi with q | q
    · exact ih i q
    · rw [List.mem_singleton.mp q]; exact hk
theorem Acc.inv {s : State} {o : List Nat} {k : Nat} (a : Acc s (o ++ [k])) : Acc s o ∧ k < s.block.length ∧ k ∉ o ∧ has o (wt s k) = true := by
  generalize e : o ++ [k] = m at a
  cases a with
  | nil => simp at e
  | @snoc o' k' a hk hn hw =>
    have e1 := List.append_inj' e rfl
    have e2 : k = k' := by simpa using e1.2
    obtain ⟨e3, _⟩ := e1
    subst e2 e3
    exact ⟨a, hk, hn, hw⟩
theorem Acc.pre {s : State} {p m : List Nat} (a : Acc s m) (h : p <+: m) : Acc s p := by
  induction a with
  | nil =>
    have e : p = [] := List.prefix_nil.mp h
    subst e
    exact .nil
  | @snoc o k a hk hn hw ih =>
    rcases List.prefix_concat_iff.mp h with e | e
    · subst e
      exact .snoc a hk hn hw
    · exact ih e
theorem Acc.has_all {s : State} {o : List Nat} (a : Acc s o) : ∀ {x i d : Nat}, x ∈ o → need s i x = some d → i ∈ o := by
  induction a with
  | nil => intro x i d h; cases h
  | @snoc o k a hk hn hw ih =>
    intro x i d hx hd
    rcases List.mem_append.mp hx with q | q
    · exact List.mem_append_left _ (ih q hd)
    · have e : x = k := List.mem_singleton.mp q
      subst e
      exact List.mem_append_left _ (has_iff.mp hw i d hd)
theorem perm_of_nodup {o : List Nat} {n : Nat} (nd : o.Nodup) (lt : ∀ k ∈ o, k < n) (hl : o.length = n) : o.Perm (List.range n) := by
  refine List.Perm.symm (perm_of_all o (List.range n) nd (by rw [List.length_range]; omega) fun x hx => List.mem_range.mpr (lt x hx))
theorem keeps_pw {s : State} : ∀ {o : List Nat}, Sched.keeps s o = true ↔ o.Pairwise fun a b => need s b a = none
  | [] => by simp [Sched.keeps]
  | a :: l => by rw [keeps_cons, List.pairwise_cons, keeps_pw (o := l)]
/-- an accepted order of the whole block -/
theorem kept_acc {s : State} {o : List Nat} : Kept s (List.range s.block.length) o ↔ Acc s o ∧ o.length = s.block.length := by
  constructor
  · rintro ⟨hp, hk⟩
    refine ⟨?_, by rw [hp.length_eq, List.length_range]⟩
    have hk := keeps_pw.mp hk
    have nd : o.Nodup := hp.nodup_iff.mpr List.nodup_range
    have mem : ∀ i, i < s.block.length → i ∈ o := fun i hi => hp.mem_iff.mpr (List.mem_range.mpr hi)
    have key : ∀ p r, o = p ++ r → Acc s p := by
      intro p
      generalize hn : p.length = n
      induction n generalizing p with
      | zero =>
        intro r _
        have e : p = [] := List.length_eq_zero_iff.mp hn
        subst e
        exact .nil
      | succ n ih =>
        intro r hr
        rcases List.eq_nil_or_concat p with e | ⟨p', k, e⟩
        · subst e
          simp at hn
        · rw [List.concat_eq_append] at e
          subst e
          have e1 : o = p' ++ (k :: r) := by rw [hr]; simp
          have a := ih p' (by simpa using hn) (k :: r) e1
          have nd' := nd
          rw [e1, List.nodup_append] at nd'
          refine .snoc a (List.mem_range.mp (hp.mem_iff.mp (by rw [e1]; simp))) (fun m => nd'.2.2 k m k List.mem_cons_self rfl) (has_iff.mpr fun i d hd => ?_)
          have hi := mem i (need_lt hd).2.1
          rw [e1] at hi
          rcases List.mem_append.mp hi with q | q
          · exact q
          · exfalso
            rcases List.mem_cons.mp q with q | q
            · have := (need_lt hd).1
              omega
            · rw [e1, List.pairwise_append] at hk
              have z := (List.pairwise_cons.mp hk.2.1).1 i q
              rw [hd] at z
              cases z
    exact key o [] (by simp)
  · rintro ⟨a, hl⟩
    refine ⟨perm_of_nodup a.nodup a.lt hl, keeps_pw.mpr ?_⟩
    clear hl
    induction a with
    | nil => exact List.Pairwise.nil
    | @snoc o k a hk hn hw ih =>
      rw [List.pairwise_append]
      refine ⟨ih, by simp, fun x hx z hz => ?_⟩
      have e : z = k := by simpa using hz
      subst e
      cases q : need s z x with
      | none => rfl
      | some d =>
        exfalso
        have hx' := a.has_all hx q
        exact hn hx'
end SM

end
section
/-! The walk over accepted prefixes; the flow. -/
set_option Elab.async false
set_option linter.all false
namespace SM
open Sched
abbrev Full (s : State) (o : List Nat) : Prop := Kept s (List.range s.block.length) o
theorem Full.len {s : State} {o : List Nat} (h : Full s o) : o.length = s.block.length := by rw [h.perm.length_eq, List.length_range]
theorem Full.acc {s : State} {o : List Nat} (h : Full s o) : Acc s o := (kept_acc.mp h).1
theorem lex_least : ∀ {l o : List Nat}, l.Pairwise (· < ·) → o.Perm l → l = o ∨ lexL l o = true
  | [], o, _, h => .inl h.symm.nil_eq.symm.symm
  | a :: l, [], _, h => by have := h.length_eq; simp at this
  | a :: l, b :: o, hs, h => by
    obtain ⟨h1, h2⟩ := List.pairwise_cons.mp hs
    by_cases e : a = b
    · subst e
      rcases lex_least h2 h.cons_inv with q | q
      · exact .inl (by rw [q])
      · refine .inr ?_
        rw [lexL_cons, if_pos rfl]
        exact q
    · refine .inr ?_
      rw [lexL_cons, if_neg e]
      have m : b ∈ a :: l := h.mem_iff.mp List.mem_cons_self
      rcases List.mem_cons.mp m with q | q
      · exact absurd q.symm e
      · exact decide_eq_true (h1 b q)
theorem lexL_app : ∀ (p : List Nat) {a b : Nat} {l m : List Nat}, a < b → lexL (p ++ a :: l) (p ++ b :: m) = true
  | [], a, b, l, m, h => by
    show lexL (a :: l) (b :: m) = true
    rw [lexL_cons, if_neg (by omega)]
    exact decide_eq_true h
  | x :: p, a, b, l, m, h => by
    show lexL (x :: (p ++ a :: l)) (x :: (p ++ b :: m)) = true
    rw [lexL_cons, if_pos rfl]
    exact lexL_app p h
/-- st: what is yet to be tried, the next one last; ob the best so far -/
structure Dfs (s : State) (ob : List Nat) (st : List (List Nat)) : Prop where
  kb : Full s ob
  acc : ∀ p ∈ st, Acc s p
  lt : ∀ o p, p ∈ st → Full s o → p <+: o → ob = o ∨ lexL ob o = true
  done : ∀ o, Full s o → (∃ p ∈ st, p <+: o) ∨ taken s ob < taken s o ∨ (taken s ob = taken s o ∧ (ob = o ∨ lexL ob o = true))
  sorted : st.Pairwise fun q p => ∀ o o', Full s o → Full s o' → p <+: o → q <+: o' → lexL o o' = true
theorem dfs_start (s : State) : Dfs s (List.range s.block.length) [[]] := by
  refine ⟨given_kept s, fun p hp => ?_, fun o p hp ho _ => lex_least (range_sorted _) ho.perm, fun o ho => .inl ⟨[], List.mem_singleton.mpr rfl, List.nil_prefix⟩, by simp⟩
  rw [List.mem_singleton.mp hp]
  exact .nil
theorem dfs_drop {s : State} {ob p : List Nat} {st : List (List Nat)} (h : Dfs s ob (st ++ [p])) (hc : taken s ob ≤ taken s p) : Dfs s ob st := by
  refine ⟨h.kb, fun q hq => h.acc q (List.mem_append_left _ hq), fun o q hq => h.lt o q (List.mem_append_left _ hq), fun o ho => ?_, (List.pairwise_append.mp h.sorted).1⟩
  rcases h.done o ho with ⟨q, hq, e⟩ | q
  · rcases List.mem_append.mp hq with m | m
    · exact .inl ⟨q, m, e⟩
    · have e2 : q = p := List.mem_singleton.mp m
      subst e2
      have l1 := taken_prefix (s := s) e
      have l2 := h.lt o q (List.mem_append_right _ (List.mem_singleton.mpr rfl)) ho e
      rcases Nat.lt_or_ge (taken s ob) (taken s o) with z | z
      · exact .inr (.inl z)
      · exact .inr (.inr ⟨by omega, l2⟩)
  · exact .inr q
theorem dfs_full {s : State} {ob p : List Nat} {st : List (List Nat)} (h : Dfs s ob (st ++ [p])) (hc : taken s p < taken s ob) (hl : p.length = s.block.length) : Dfs s p st := by
  have ap := h.acc p (List.mem_append_right _ (List.mem_singleton.mpr rfl))
  have fp : Full s p := kept_acc.mpr ⟨ap, hl⟩
  refine ⟨fp, fun q hq => h.acc q (List.mem_append_left _ hq), fun o q hq ho e => ?_, fun o ho => ?_, (List.pairwise_append.mp h.sorted).1⟩
  · exact .inr ((List.pairwise_append.mp h.sorted).2.2 q hq p (List.mem_singleton.mpr rfl) p o fp ho (List.prefix_refl _) e)
  · rcases h.done o ho with ⟨q, hq, e⟩ | q
    · rcases List.mem_append.mp hq with m | m
      · exact .inl ⟨q, m, e⟩
      · have e2 : q = p := List.mem_singleton.mp m
        subst e2
        have e3 : q = o := e.eq_of_length (by rw [hl, ho.len])
        exact .inr (.inr ⟨by rw [e3], .inl e3⟩)
    · refine .inr (.inl ?_)
      rcases q with q | ⟨q, _⟩ <;> omega
def next (s : State) (p : List Nat) (k : Nat) : Bool := !p.contains k && has p (wt s k)
def childs (s : State) (p : List Nat) : List (List Nat) := ((List.range s.block.length).filter fun k => next s p k).map fun k => p ++ [k]
theorem dfs_more {s : State} {ob p : List Nat} {st : List (List Nat)} (h : Dfs s ob (st ++ [p])) (hl : p.length < s.block.length) : Dfs s ob (st ++ (childs s p).reverse) := by
  have ap := h.acc p (List.mem_append_right _ (List.mem_singleton.mpr rfl))
  have mc : ∀ q, q ∈ (childs s p).reverse ↔ ∃ k, k < s.block.length ∧ next s p k = true ∧ q = p ++ [k] := fun q => by
    rw [List.mem_reverse]
    unfold childs
    rw [List.mem_map]
    constructor
    · rintro ⟨k, hk, rfl⟩
      obtain ⟨h1, h2⟩ := List.mem_filter.mp hk
      exact ⟨k, List.mem_range.mp h1, h2, rfl⟩
    · rintro ⟨k, h1, h2, rfl⟩
      exact ⟨k, List.mem_filter.mpr ⟨List.mem_range.mpr h1, h2⟩, rfl⟩
  have pre : ∀ {o : List Nat} {k : Nat}, p ++ [k] <+: o → p <+: o := fun {o k} e => (List.prefix_append p [k]).trans e
  refine ⟨h.kb, fun q hq => ?_, fun o q hq ho e => ?_, fun o ho => ?_, ?_⟩
  · rcases List.mem_append.mp hq with m | m
    · exact h.acc q (List.mem_append_left _ m)
    · obtain ⟨k, h1, h2, rfl⟩ := (mc q).mp m
      unfold next at h2
      rw [Bool.and_eq_true, Bool.not_eq_true'] at h2
      refine .snoc ap h1 (fun z => ?_) h2.2
      rw [List.contains_iff_mem.mpr z] at h2
      cases h2.1
  · rcases List.mem_append.mp hq with m | m
    · exact h.lt o q (List.mem_append_left _ m) ho e
    · obtain ⟨k, h1, h2, rfl⟩ := (mc q).mp m
      exact h.lt o p (List.mem_append_right _ (List.mem_singleton.mpr rfl)) ho (pre e)
  · rcases h.done o ho with ⟨q, hq, e⟩ | q
    · rcases List.mem_append.mp hq with m | m
      · exact .inl ⟨q, List.mem_append_left _ m, e⟩
      · have e2 : q = p := List.mem_singleton.mp m
        subst e2
        obtain ⟨r, er⟩ := e
        cases r with
        | nil =>
          rw [List.append_nil] at er
          have := ho.len
          rw [← er] at this
          omega
        | cons k r =>
          have e3 : q ++ [k] <+: o := ⟨r, by rw [← er]; simp⟩
          obtain ⟨_, a2, a3, a4⟩ := (ho.acc.pre e3).inv
          refine .inl ⟨q ++ [k], List.mem_append_right _ ((mc _).mpr ⟨k, a2, ?_, rfl⟩), e3⟩
          unfold next
          rw [Bool.and_eq_true, Bool.not_eq_true']
          refine ⟨?_, a4⟩
          cases z : q.contains k with
          | false => rfl
          | true => exact absurd (List.contains_iff_mem.mp z) a3
    · exact .inr q
  · rw [List.pairwise_append]
    obtain ⟨s1, _, s3⟩ := List.pairwise_append.mp h.sorted
    refine ⟨s1, ?_, fun q hq c hc o o' ho ho' e1 e2 => ?_⟩
    · rw [List.pairwise_reverse]
      unfold childs
      rw [List.pairwise_map]
      refine ((range_sorted _).filter _).imp fun {a b} hab o o' ho ho' e1 e2 => ?_
      obtain ⟨r1, rfl⟩ := e1
      obtain ⟨r2, rfl⟩ := e2
      rw [List.append_assoc, List.append_assoc]
      exact lexL_app p hab
    · obtain ⟨k, _, _, rfl⟩ := (mc c).mp hc
      exact s3 q hq p (List.mem_singleton.mpr rfl) o o' ho ho' (pre e1) e2
theorem dfs_end {s : State} {ob : List Nat} (h : Dfs s ob []) : bestOf s = ob := by
  refine bestOf_unique h.kb fun o ho => ?_
  rcases h.done o ho with ⟨q, hq, _⟩ | q
  · cases hq
  · exact q
/-- how much is yet to be tried -/
def mu (st : List (List Nat)) : Nat := (st.map fun p => 7 ^ (7 - p.length)).sum
theorem mu_app (a b : List (List Nat)) : mu (a ++ b) = mu a + mu b := by
  unfold mu
  rw [List.map_append, List.sum_append]
theorem mu_one (p : List Nat) : mu [p] = 7 ^ (7 - p.length) := by
  unfold mu
  simp
theorem mu_rev (a : List (List Nat)) : mu a.reverse = mu a := by
  induction a with
  | nil => rfl
  | cons x a ih =>
    rw [List.reverse_cons, mu_app, ih, mu_one]
    show _ = (7 ^ (7 - x.length) :: (a.map fun p => 7 ^ (7 - p.length))).sum
    rw [List.sum_cons]
    unfold mu
    omega
theorem mu_pos (p : List Nat) : 0 < mu [p] := by
  rw [mu_one]
  exact Nat.pow_pos (by decide)
theorem mu_childs {s : State} (h : Wf s) {p : List Nat} (hl : p.length < s.block.length) : mu (childs s p).reverse < mu [p] := by
  rw [mu_rev, mu_one]
  have hb := h.blen
  have e : 7 - p.length = (6 - p.length) + 1 := by omega
  have key : ∀ l : List Nat, mu (l.map fun k => p ++ [k]) = l.length * 7 ^ (6 - p.length) := by
    intro l
    induction l with
    | nil => simp [mu]
    | cons a l ih =>
      have : mu ((a :: l).map fun k => p ++ [k]) = mu [p ++ [a]] + mu (l.map fun k => p ++ [k]) := by rw [← mu_app]; rfl
      have e1 : 7 - (p ++ [a]).length = 6 - p.length := by rw [List.length_append, List.length_singleton]; omega
      have e2 : (a :: l).length = l.length + 1 := rfl
      rw [this, ih, mu_one, e1, e2, Nat.add_mul]
      omega
  unfold childs
  rw [key, e, Nat.pow_succ]
  have l1 := List.length_filter_le (fun k => next s p k) (List.range s.block.length)
  rw [List.length_range] at l1
  have pos : 0 < 7 ^ (6 - p.length) := Nat.pow_pos (by decide)
  calc _ ≤ 6 * 7 ^ (6 - p.length) := Nat.mul_le_mul_right _ (by omega)
    _ < 7 ^ (6 - p.length) * 7 := by omega
/-! ### is_accepted -/
theorem full_of_acc {s : State} {o : List Nat} (hp : o.Perm (List.range s.block.length)) : Acc s o ↔ Sched.keeps s o = true := by
  constructor
  · intro a
    exact (kept_acc.mpr ⟨a, by rw [hp.length_eq, List.length_range]⟩).keeps
  · intro k
    exact (kept_acc.mp ⟨hp, k⟩).1
/-! ### the flow -/
def fl (s : State) (j : Nat) : List Nat := (List.range j).foldl (fun (ds : List Nat) (j : Nat) => ds ++ [(List.range j).foldl (fun (m i : Nat) => match need s i j with
  | some d => max m (ds.getD i 0 + d)
  | none => m) 0]) []
theorem fl_length (s : State) : ∀ j, (fl s j).length = j
  | 0 => rfl
  | j + 1 => by
    unfold fl
    rw [List.range_succ, List.foldl_append]
    show ((fl s j) ++ [_]).length = j + 1
    rw [List.length_append, fl_length s j]
    rfl
def fb (s : State) (j : Nat) : Begun := (List.range j).zip (fl s j)
theorem zip_range_lookup (l : List Nat) {i : Nat} (h : i < l.length) : ((List.range l.length).zip l).lookup i = some (l.getD i 0) := by
  refine lookup_mem (by rw [List.map_fst_zip (by simp)]; exact List.nodup_range) ?_
  refine List.mem_iff_getElem?.mpr ⟨i, ?_⟩
  rw [List.getElem?_zip_eq_some]
  exact ⟨by simp [h], by simp [List.getD, h]⟩
theorem foldl_need (s : State) (f : Nat → Nat) (j : Nat) : ∀ (l : List Nat) (m : Nat), l.foldl (fun (m i : Nat) => match need s i j with
  | some d => max m (f i + d)
  | none => m) m = (l.filterMap fun i => (need s i j).map fun d => f i + d).foldl max m
  | [], m => rfl
  | i :: l, m => by
    rw [List.foldl_cons, List.filterMap_cons]
    cases e : need s i j with
    | none => exact foldl_need s f j l m
    | some d => exact foldl_need s f j l _
theorem filterMap_cong {α β : Type} {f g : α → Option β} : ∀ {l : List α}, (∀ x ∈ l, f x = g x) → l.filterMap f = l.filterMap g
  | [], _ => rfl
  | a :: l, h => by rw [List.filterMap_cons, List.filterMap_cons, h a List.mem_cons_self, filterMap_cong (l := l) fun x hx => h x (List.mem_cons_of_mem _ hx)]
theorem fb_snoc (s : State) (j : Nat) : fb s (j + 1) = fb s j ++ [(j, aWaits (wt s j) (fb s j))] := by
  have e1 : fl s (j + 1) = fl s j ++ [aWaits (wt s j) (fb s j)] := by
    conv => lhs; unfold fl
    rw [List.range_succ, List.foldl_append]
    show fl s j ++ [_] = _
    congr 2
    rw [foldl_need]
    unfold aWaits mx wt
    rw [List.map_filterMap]
    congr 1
    refine filterMap_cong fun i hi => ?_
    have hi := List.mem_range.mp hi
    cases e : need s i j with
    | none => rfl
    | some d =>
      have z := zip_range_lookup (fl s j) (i := i) (by rw [fl_length]; exact hi)
      rw [fl_length] at z
      have z2 : at2 (fb s j) i = (fl s j).getD i 0 := by unfold at2 fb; rw [z]; rfl
      show some ((fl s j).getD i 0 + d) = some (at2 (fb s j) i + d)
      rw [z2]
  unfold fb
  rw [e1, List.range_succ, List.zip_append (by rw [List.length_range, fl_length])]
  rfl
theorem fb_keys (s : State) (j : Nat) : (fb s j).map (·.1) = List.range j := by
  unfold fb
  exact List.map_fst_zip (by rw [fl_length, List.length_range]; exact Nat.le_refl _)
theorem fb_has (s : State) (j : Nat) : has ((fb s j).map (·.1)) (wt s j) = true := by
  rw [fb_keys]
  exact has_iff.mpr fun i d e => List.mem_range.mpr (need_lt e).1
theorem bound_is (s : State) : Sched.bound s = cyc s (fb s s.block.length) := by
  unfold Sched.bound
  dsimp only
  have e : flow s = fl s s.block.length := rfl
  rw [e]
  unfold cyc mx
  rw [List.foldl_map]
  have key : ∀ (n : Nat) (l : List Nat) (m : Nat), l.length = n → (List.range n).foldl (fun (m j : Nat) => max m (l.getD j 0 + latencyOf s j)) m = ((List.range n).zip l).foldl (fun (m : Nat) (x : Nat × Nat) => max m (x.2 + latencyOf s x.1)) m := by
    intro n
    induction n with
    | zero => intro l m _; rfl
    | succ n ih =>
      intro l m hl
      rcases List.eq_nil_or_concat l with e | ⟨l', a, e⟩
      · subst e; simp at hl
      · rw [List.concat_eq_append] at e
        subst e
        have hl' : l'.length = n := by simpa using hl
        rw [List.range_succ, List.foldl_append, List.zip_append (by rw [List.length_range, hl']), List.foldl_append, ← ih l' m hl']
        have e1 : (List.range n).foldl (fun (m j : Nat) => max m ((l' ++ [a]).getD j 0 + latencyOf s j)) m = (List.range n).foldl (fun (m j : Nat) => max m (l'.getD j 0 + latencyOf s j)) m := by
          have : ∀ (k : List Nat) (m : Nat), (∀ x ∈ k, x < l'.length) → k.foldl (fun (m j : Nat) => max m ((l' ++ [a]).getD j 0 + latencyOf s j)) m = k.foldl (fun (m j : Nat) => max m (l'.getD j 0 + latencyOf s j)) m := by
            intro k
            induction k with
            | nil => intro m _; rfl
            | cons x k ihk =>
              intro m hx
              rw [List.foldl_cons, List.foldl_cons]
              have hx1 := hx x List.mem_cons_self
              have : (l' ++ [a]).getD x 0 = l'.getD x 0 := by simp [List.getD, List.getElem?_append_left hx1]
              rw [this]
              exact ihk _ fun y hy => hx y (List.mem_cons_of_mem _ hy)
          exact this _ _ fun x hx => by rw [hl']; exact List.mem_range.mp hx
        rw [e1]
        show max _ ((l' ++ [a]).getD n 0 + latencyOf s n) = max _ (a + latencyOf s n)
        have : (l' ++ [a]).getD n 0 = a := by subst hl'; simp [List.getD]
        rw [this]
  exact key _ _ 0 (fl_length s _)
end SM

end
set_option Elab.async false
set_option linter.all false
set_option maxRecDepth 100000
set_option maxHeartbeats 2000000
namespace Bo
open PySem PySem.Spec PyProof.Rows L2
theorem pe_gint {X : Cx} {x : Str} {n : Int} {pos : Pos} (hg : Gl X x) (h : ∃ t, X.mg x = some (.int n t)) (hd : (x == ("__debug__" : Str)) = false := by decide) : PE X (.Name x pos) (tC (.int n)) := by
  obtain ⟨t, e⟩ := h
  exact pe_glob hg e ⟨t, rfl⟩ hd
/-- a comprehension's block, by a look -/
def blkB (N : List Str) (scn names : List (Str × NameKind)) (own : List (Str × Nat)) : Bool :=
  names.all (fun y => names.lookup y.1 == some y.2) && own.all (fun p => N[p.2]? == some p.1) &&
    names.all (fun y => !(y.2 == .free) || (scn.lookup y.1 == some .cell || scn.lookup y.1 == some .free)) &&
    names.all (fun y => !(y.2 == .local || y.2 == .cell) || ((own.map (·.1)).contains y.1 || !N.contains y.1))
theorem blk_of {N : List Str} {sc scope : Scope} {own : List (Str × Nat)} (hk : scope.kind = .function) (h : blkB N sc.names scope.names own = true) : BlkOk N sc scope own := by
  unfold blkB at h
  rw [Bool.and_eq_true, Bool.and_eq_true, Bool.and_eq_true, List.all_eq_true, List.all_eq_true, List.all_eq_true, List.all_eq_true] at h
  obtain ⟨⟨⟨h1, h2⟩, h3⟩, h4⟩ := h
  refine ⟨hk, fun y hy => ?_, fun p hp => ?_, fun y hy e => ?_, fun y hy e => ?_⟩
  · exact eq_of_beq (h1 y hy)
  · exact eq_of_beq (h2 p hp)
  · have q := h3 y hy
    rw [e] at q
    have q : ((sc.names.lookup y.1 == some .cell) || (sc.names.lookup y.1 == some .free)) = true := q
    rw [Bool.or_eq_true] at q
    rcases q with q | q
    · exact .inl (eq_of_beq q)
    · exact .inr (eq_of_beq q)
  · have q := h4 y hy
    have e2 : (y.2 == NameKind.local || y.2 == NameKind.cell) = true := by
      rcases e with e | e <;> rw [e] <;> rfl
    rw [e2, Bool.not_true, Bool.false_or, Bool.or_eq_true] at q
    rcases q with q | q
    · exact .inl (List.contains_iff_mem.mp q)
    · refine .inr fun z => ?_
      rw [List.contains_iff_mem.mpr z] at q
      cases q
/-! ### rules in a form that a simp reads: a tracked list by an equation -/
theorem PE.imp {X : Cx} {e : Expr} {t t' : TE} (h : PE X e t) (f : ∀ σ H Q, t' σ H Q → t σ H Q) : PE X e t' := fun pins s σ H Q I q => h pins s σ H Q I (f σ H Q q)
theorem PI.imp {X : Cx} {tg e : Expr} {t t' : TI} (h : PI X tg e t) (f : ∀ σ H R, t' σ H R → t σ H R) : PI X tg e t' := fun pins s σ H R I q => h pins s σ H R I (f σ H R q)
theorem IxR.imp {X : Cx} {r r' : R2} (h : IxR X r) (f : ∀ x y H Q, r' x y H Q → r x y H Q) : IxR X r' := fun a b pins s σ H x y v u Q I rx ry q hs => h a b pins s σ H x y v u Q I rx ry (f x y H Q q) hs
theorem CallR.imp {X : Cx} {v : Value} {r r' : List V → Hp → VK → Prop} (h : CallR X v r) (f : ∀ xs H Q, r' xs H Q → r xs H Q) : CallR X v r' := fun pins s σ H xs us Q I r q => h pins s σ H xs us Q I r (f xs H Q q)
theorem SlR.imp {X : Cx} {r r' : V → Option Int → Option Int → Hp → VK → Prop} (h : SlR X r) (f : ∀ x lo hi H Q, r' x lo hi H Q → r x lo hi H Q) : SlR X r' := fun pins s σ H x v vl vu lo hi sl Q I rx hs pl pu q => h pins s σ H x v vl vu lo hi sl Q I rx hs pl pu (f x lo hi H Q q)
def mIx : R2 := fun x y H Q => ∃ p xs i, x = .ref p ∧ H p = some (.lst xs) ∧ y = .int i ∧ ∃ v, atI xs i = some v ∧ Q v H
theorem ix_lst {X : Cx} : IxR X mIx := IxR.imp ix_list fun x y H Q ⟨p, xs, i, h1, h2, h3, v, h4, h5⟩ => ⟨p, xs, i, v, h1, h3, SqL.of h2, h4, h5⟩
def mLen : List V → Hp → VK → Prop := fun vs H Q => ∃ p ys, vs = [.ref p] ∧ H p = some (.lst ys) ∧ Q (.int ys.length) H
theorem len_lst {X : Cx} : CallR X (.builtin "len") mLen := CallR.imp call_len_seq fun vs H Q ⟨p, ys, h1, h2, h3⟩ => ⟨p, ys, h1, .inl (SqL.of h2), h3⟩
def mAll : List V → Hp → VK → Prop := fun vs H Q => ∃ (p : Addr) (bs : List Bool), vs = [.ref p] ∧ H p = some (.lst (bs.map V.bl)) ∧ Q (.bl (bs.all id)) H
theorem all_lst {X : Cx} (hc : X.calm = true) : CallR X (.builtin "all") mAll := CallR.imp (cr_all hc) fun vs H Q ⟨p, ys, h1, h2, h3⟩ => ⟨p, ys, h1, SqL.of h2, h3⟩
def mAny : List V → Hp → VK → Prop := fun vs H Q => ∃ (p : Addr) (bs : List Bool), vs = [.ref p] ∧ H p = some (.lst (bs.map V.bl)) ∧ Q (.bl (bs.any id)) H
theorem any_lst {X : Cx} (hc : X.calm = true) : CallR X (.builtin "any") mAny := CallR.imp (cr_any hc) fun vs H Q ⟨p, ys, h1, h2, h3⟩ => ⟨p, ys, h1, SqL.of h2, h3⟩
theorem OpR.imp {X : Cx} {f : Value → Value → Sem Value} {r r' : R2} (h : OpR X f r) (g : ∀ x y H Q, r' x y H Q → r x y H Q) : OpR X f r' := fun pins s σ H x y v u Q I rx ry q => h pins s σ H x y v u Q I rx ry (g x y H Q q)
def mIn : R2 := fun x y H Q => ∃ p xs, y = .ref p ∧ H p = some (.lst xs) ∧ flatV x = true ∧ xs.all flatV = true ∧ Q (.bl (inV x xs)) H
theorem in_lst {X : Cx} : OpR X (compareOp .In) mIn := OpR.imp op_in_seq fun x y H Q ⟨p, xs, h1, h2, h3, h4, h5⟩ => ⟨p, xs, h1, .inl (SqL.of h2), h3, h4, h5⟩
def isLst : Option HO → Bool
  | some (.lst _) => true
  | _ => false
theorem isLst_lst {xs : List V} : isLst (some (.lst xs)) = true := rfl
theorem isLst_ex {o : Option HO} (h : isLst o = true) : ∃ xs, o = some (.lst xs) := by
  cases o with
  | none => cases h
  | some u => cases u <;> first | exact ⟨_, rfl⟩ | cases h
theorem tyV_lst {K : PySem.W.Frag} {H : Hp} {p : Addr} (h : isLst (H p) = true) : tyV K "list" (.ref p) H := by
  obtain ⟨xs, e⟩ := isLst_ex h
  exact .inl ⟨rfl, xs, SqL.of e⟩
theorem ex_sql {K : PySem.W.Frag} {H : Hp} {p : Addr} (h : isLst (H p) = true) : ∃ xs, SqL K H p xs := by
  obtain ⟨xs, e⟩ := isLst_ex h
  exact ⟨xs, SqL.of e⟩
theorem szl {n : Nat} (h : n ≤ 1000000) : n ≤ sizeLine := Nat.le_trans h (by decide)
theorem szl' {n : Nat} (h : n ≤ 1000000) : n < sizeLine := Nat.lt_of_le_of_lt h (by decide)
theorem upd_none {H : Hp} {a b : Addr} {o : HO} : upd H a o b = none ↔ (b ≠ a ∧ a ≠ b ∧ H b = none) := by
  by_cases h : b = a
  · subst h
    rw [upd_same]
    exact ⟨fun q => (by cases q), fun q => (q.1 rfl).elim⟩
  · rw [upd_ne h]
    exact ⟨fun q => ⟨h, fun z => h z.symm, q⟩, fun q => q.2.2⟩
theorem upd_old {H : Hp} {a b : Addr} {o : HO} (h1 : H a = none) (h2 : (H b).isSome = true) : upd H a o b = H b := by
  refine upd_ne fun e => ?_
  rw [e, h1] at h2
  cases h2
/-! ### a block statement by statement -/
def Nx (N M : L2.St → Hp → Prop) : Prop := ∀ σ H, M σ H → N σ H
theorem Nx.go {N M : L2.St → Hp → Prop} (h : Nx N M) {σ : L2.St} {H : Hp} (q : M σ H) : N σ H := h σ H q
theorem seq_step {t u : TS} {D : Ends} {σ : L2.St} {H : Hp} (h : ∀ N, Nx N (u D) → t { D with nx := N } σ H) : tSeq t u D σ H := h _ fun _ _ q => q
theorem Same.new' {H : Hp} {a : Addr} {o : HO} (h : H a = none) : Same H (L2.upd H a o) := fun b u e => by rw [upd_ne (ne_of_none e h)]; exact e
/-! ### a comprehension over a tracked list, whose test and element only make new things -/
theorem lc_list {K : PySem.W.Frag} {tl : TE} {i : Nat} {tt : TT} {te : TE} {vs : List Nat} {σ : L2.St} {H : Hp} {Q : VK} {a : Addr} {xs : List V} (p : V → Bool) (g : V → V)
    (hl : ∀ R : VK, R (.ref a) H → tl σ H R) (ha : H a = some (.lst xs)) (hlen : xs.length ≤ 1000000) (hw : ∀ x, wipe ((wipe σ vs).set i (some x)) vs = wipe σ vs)
    (ht : ∀ x ∈ xs, ∀ (H1 : Hp) (R : Bool → Hp → Prop), Same H H1 → (∀ H2, Same H1 H2 → R (p x) H2) → tt ((wipe σ vs).set i (some x)) H1 R)
    (he : ∀ x ∈ xs, p x = true → ∀ (H1 : Hp) (R : VK), Same H H1 → (∀ H2, Same H1 H2 → R (g x) H2) → te ((wipe σ vs).set i (some x)) H1 R)
    (hk : ∀ D H', H D = none → H' D = some (.lst ((xs.filter p).map g)) → Same H H' → Q (.ref D) H') : tLc (iList K tl) (gName i) tt te vs σ H Q := by
  refine hl _ ⟨a, rfl, ⟨xs, SqL.of ha⟩, fun D hD => ?_⟩
  have sq : ∀ {H' : Hp}, Same H H' → SqL K H' a xs := fun s => SqL.of (s _ _ ha)
  refine ⟨fun j m H' => m = xs.length - j ∧ j ≤ xs.length ∧ H' D = some (.lst (((xs.take j).filter p).map g)) ∧ Same H H', ⟨xs.length, by simp, Nat.zero_le _, upd_same, Same.new' hD⟩, ?_⟩
  rintro j m H' ⟨rfl, hj, hD', s⟩
  by_cases hlt : j < xs.length
  · refine .inr ⟨⟨xs, xs[j], sq s, by simp [hlt]⟩, fun H2 => H2 D = some (.lst (((xs.take (j + 1)).filter p).map g)) ∧ Same H H2, fun H2 ⟨q1, q2⟩ => ⟨xs.length - (j + 1), by omega, rfl, hlt, q1, q2⟩, fun x H1 y => ?_⟩
    obtain ⟨e, y⟩ := y
    subst e
    have hx : xs[j]? = some x := y xs (sq s)
    have mem : x ∈ xs := List.mem_of_getElem? hx
    refine ⟨hw x, ht x mem _ _ s fun H2 s2 => ?_⟩
    have e1 : xs.take (j + 1) = xs.take j ++ [x] := by rw [List.take_add_one, hx]; rfl
    cases hp : p x with
    | false =>
      rw [if_neg Bool.false_ne_true]
      refine ⟨?_, fun b o q => s2 b o (s b o q)⟩
      rw [e1, List.filter_append, List.filter_cons, hp, if_neg Bool.false_ne_true, List.filter_nil, List.append_nil]
      exact s2 _ _ hD'
    | true =>
      rw [if_pos rfl]
      refine he x mem hp H2 _ (fun b o q => s2 b o (s b o q)) fun H3 s3 => ⟨_, s3 _ _ (s2 _ _ hD'), ?_, ?_, fun b o q => ?_⟩
      · refine Nat.lt_of_le_of_lt (Nat.le_trans ?_ hlen) (by decide)
        rw [List.length_map]
        exact Nat.le_trans (List.length_filter_le _ _) (by rw [List.length_take]; omega)
      · rw [upd_same, e1, List.filter_append, List.filter_cons, hp, if_pos rfl, List.filter_nil, List.map_append]
        rfl
      · rw [upd_ne (ne_of_none q hD)]
        exact s3 b o (s2 b o (s b o q))
  · have e : j = xs.length := by omega
    subst e
    rw [List.take_length] at hD'
    exact .inl ⟨⟨xs, sq s, Nat.le_refl _⟩, hk D H' hD hD' s⟩

def top (i : Nat) : Stmt := PySem.Challenge.pw_beginorder_s01_answers.main.body.getD i (.Pass ⟨0, 0, 0, 0⟩)
abbrev s_is_within : Stmt := top 37
abbrev s_are_registers : Stmt := top 38
abbrev s_is_memory_use : Stmt := top 39
abbrev s_name_one_in_common : Stmt := top 40
abbrev s_may_meet_in_memory : Stmt := top 41
abbrev s_bits_between : Stmt := top 42
abbrev s_needed_cycles : Stmt := top 43
abbrev s_waits_of : Stmt := top 44
abbrev s_waits_in : Stmt := top 45
abbrev s_have_all_begun : Stmt := top 46
abbrev s_is_accepted : Stmt := top 47
abbrev s_after_waits : Stmt := top 48
abbrev s_after_width : Stmt := top 49
abbrev s_after_units : Stmt := top 50
abbrev s_earliest_begin : Stmt := top 51
abbrev s_begins_in_order : Stmt := top 52
abbrev s_cycles_taken : Stmt := top 53
abbrev s_with_one_more : Stmt := top 54
abbrev s_best_begins : Stmt := top 55
abbrev s_answer_width : Stmt := top 56
abbrev s_answer_units : Stmt := top 57
abbrev s_answer_kind : Stmt := top 58
abbrev s_answer_add : Stmt := top 59
abbrev s_answer_dep : Stmt := top 60
abbrev s_answer_number : Stmt := top 61
abbrev s_answer_call : Stmt := top 62
abbrev s_written_answer : Stmt := top 63
abbrev s_answers : Stmt := top 64
abbrev s_Kind_init : Stmt := inClass (top 33) 0
abbrev s_Instruction_init : Stmt := inClass (top 34) 0
abbrev s_Line_init : Stmt := inClass (top 35) 0
abbrev s_Line_begin : Stmt := inClass (top 35) 1
abbrev s_Line_set_width : Stmt := inClass (top 35) 2
abbrev s_Line_set_units : Stmt := inClass (top 35) 3
abbrev s_Line_add_kind : Stmt := inClass (top 35) 4
abbrev s_Line_add : Stmt := inClass (top 35) 5
abbrev s_Line_clear : Stmt := inClass (top 35) 6
abbrev s_Line_dep : Stmt := inClass (top 35) 7
abbrev s_Line_bound : Stmt := inClass (top 35) 8
abbrev s_Line_time : Stmt := inClass (top 35) 9
abbrev s_Line_best : Stmt := inClass (top 35) 10
abbrev s_Reader_init : Stmt := inClass (top 36) 0
abbrev s_Reader_has_more : Stmt := inClass (top 36) 1
abbrev s_Reader_number : Stmt := inClass (top 36) 2
abbrev s_Reader_row : Stmt := inClass (top 36) 3
/-- the addresses of the text's classes and defs -/
structure Adr where
  C_Kind : Addr
  C_Instruction : Addr
  C_Line : Addr
  C_Reader : Addr
  f_is_within : Addr
  d_is_within : FuncData
  f_are_registers : Addr
  d_are_registers : FuncData
  f_is_memory_use : Addr
  d_is_memory_use : FuncData
  f_name_one_in_common : Addr
  d_name_one_in_common : FuncData
  f_may_meet_in_memory : Addr
  d_may_meet_in_memory : FuncData
  f_bits_between : Addr
  d_bits_between : FuncData
  f_needed_cycles : Addr
  d_needed_cycles : FuncData
  f_waits_of : Addr
  d_waits_of : FuncData
  f_waits_in : Addr
  d_waits_in : FuncData
  f_have_all_begun : Addr
  d_have_all_begun : FuncData
  f_is_accepted : Addr
  d_is_accepted : FuncData
  f_after_waits : Addr
  d_after_waits : FuncData
  f_after_width : Addr
  d_after_width : FuncData
  f_after_units : Addr
  d_after_units : FuncData
  f_earliest_begin : Addr
  d_earliest_begin : FuncData
  f_begins_in_order : Addr
  d_begins_in_order : FuncData
  f_cycles_taken : Addr
  d_cycles_taken : FuncData
  f_with_one_more : Addr
  d_with_one_more : FuncData
  f_best_begins : Addr
  d_best_begins : FuncData
  f_answer_width : Addr
  d_answer_width : FuncData
  f_answer_units : Addr
  d_answer_units : FuncData
  f_answer_kind : Addr
  d_answer_kind : FuncData
  f_answer_add : Addr
  d_answer_add : FuncData
  f_answer_dep : Addr
  d_answer_dep : FuncData
  f_answer_number : Addr
  d_answer_number : FuncData
  f_answer_call : Addr
  d_answer_call : FuncData
  f_written_answer : Addr
  d_written_answer : FuncData
  f_answers : Addr
  d_answers : FuncData
  f_Kind_init : Addr
  d_Kind_init : FuncData
  f_Instruction_init : Addr
  d_Instruction_init : FuncData
  f_Line_init : Addr
  d_Line_init : FuncData
  f_Line_begin : Addr
  d_Line_begin : FuncData
  f_Line_set_width : Addr
  d_Line_set_width : FuncData
  f_Line_set_units : Addr
  d_Line_set_units : FuncData
  f_Line_add_kind : Addr
  d_Line_add_kind : FuncData
  f_Line_add : Addr
  d_Line_add : FuncData
  f_Line_clear : Addr
  d_Line_clear : FuncData
  f_Line_dep : Addr
  d_Line_dep : FuncData
  f_Line_bound : Addr
  d_Line_bound : FuncData
  f_Line_time : Addr
  d_Line_time : FuncData
  f_Line_best : Addr
  d_Line_best : FuncData
  f_Reader_init : Addr
  d_Reader_init : FuncData
  f_Reader_has_more : Addr
  d_Reader_has_more : FuncData
  f_Reader_number : Addr
  d_Reader_number : FuncData
  f_Reader_row : Addr
  d_Reader_row : FuncData
/-- what the top has written -/
structure Txt (K : PySem.W.Frag) (mg : Str → Option Value) (A : Adr) : Prop where
  c_CALL_INIT : ∃ t, mg "CALL_INIT" = some (.int (0) t)
  c_CALL_WIDTH : ∃ t, mg "CALL_WIDTH" = some (.int (1) t)
  c_CALL_UNITS : ∃ t, mg "CALL_UNITS" = some (.int (2) t)
  c_CALL_KIND : ∃ t, mg "CALL_KIND" = some (.int (3) t)
  c_CALL_ADD : ∃ t, mg "CALL_ADD" = some (.int (4) t)
  c_CALL_CLEAR : ∃ t, mg "CALL_CLEAR" = some (.int (5) t)
  c_CALL_DEP : ∃ t, mg "CALL_DEP" = some (.int (6) t)
  c_CALL_BOUND : ∃ t, mg "CALL_BOUND" = some (.int (7) t)
  c_CALL_TIME : ∃ t, mg "CALL_TIME" = some (.int (8) t)
  c_CALL_BEST : ∃ t, mg "CALL_BEST" = some (.int (9) t)
  c_MOST_WIDTH : ∃ t, mg "MOST_WIDTH" = some (.int (4) t)
  c_CLASSES : ∃ t, mg "CLASSES" = some (.int (8) t)
  c_MOST_UNITS : ∃ t, mg "MOST_UNITS" = some (.int (4) t)
  c_MOST_KINDS : ∃ t, mg "MOST_KINDS" = some (.int (16) t)
  c_MOST_BUSY : ∃ t, mg "MOST_BUSY" = some (.int (16) t)
  c_MOST_LATENCY : ∃ t, mg "MOST_LATENCY" = some (.int (32) t)
  c_MOST_INSTRUCTIONS : ∃ t, mg "MOST_INSTRUCTIONS" = some (.int (6) t)
  c_MOST_READS : ∃ t, mg "MOST_READS" = some (.int (4) t)
  c_MOST_WRITES : ∃ t, mg "MOST_WRITES" = some (.int (2) t)
  c_REGISTERS : ∃ t, mg "REGISTERS" = some (.int (32) t)
  c_MEM_NONE : ∃ t, mg "MEM_NONE" = some (.int (0) t)
  c_MEM_WRITES : ∃ t, mg "MEM_WRITES" = some (.int (2) t)
  c_PLACES : ∃ t, mg "PLACES" = some (.int (16) t)
  c_ANY_PLACE : ∃ t, mg "ANY_PLACE" = some (.int (255) t)
  c_BIT_READS_RESULT : ∃ t, mg "BIT_READS_RESULT" = some (.int (1) t)
  c_BIT_WRITES_WHAT_IS_READ : ∃ t, mg "BIT_WRITES_WHAT_IS_READ" = some (.int (2) t)
  c_BIT_BOTH_WRITE : ∃ t, mg "BIT_BOTH_WRITE" = some (.int (4) t)
  c_BIT_MEMORY : ∃ t, mg "BIT_MEMORY" = some (.int (8) t)
  c_DONE : ∃ t, mg "DONE" = some (.int (0) t)
  c_REFUSED : ∃ t, mg "REFUSED" = some (.int (-1) t)
  c_NOT_ACCEPTED : ∃ t, mg "NOT_ACCEPTED" = some (.int (-2) t)
  n_all : mg "all" = none
  n_any : mg "any" = none
  n_dict : mg "dict" = none
  n_len : mg "len" = none
  n_list : mg "list" = none
  n_max : mg "max" = none
  n_range : mg "range" = none
  n_reversed : mg "reversed" = none
  n_sorted : mg "sorted" = none
  cl_Kind : Cls K A.C_Kind
  g_Kind : mg "Kind" = some (.ref A.C_Kind)
  a_Kind_unit_class : NoAttr K A.C_Kind "unit_class"
  a_Kind_busy : NoAttr K A.C_Kind "busy"
  a_Kind_latency : NoAttr K A.C_Kind "latency"
  mk_Kind : Mk K A.C_Kind A.f_Kind_init
  cl_Instruction : Cls K A.C_Instruction
  g_Instruction : mg "Instruction" = some (.ref A.C_Instruction)
  a_Instruction_kind : NoAttr K A.C_Instruction "kind"
  a_Instruction_reads : NoAttr K A.C_Instruction "reads"
  a_Instruction_writes : NoAttr K A.C_Instruction "writes"
  a_Instruction_mem : NoAttr K A.C_Instruction "mem"
  a_Instruction_place : NoAttr K A.C_Instruction "place"
  mk_Instruction : Mk K A.C_Instruction A.f_Instruction_init
  cl_Line : Cls K A.C_Line
  g_Line : mg "Line" = some (.ref A.C_Line)
  a_Line_width : NoAttr K A.C_Line "width"
  a_Line_units : NoAttr K A.C_Line "units"
  a_Line_kinds : NoAttr K A.C_Line "kinds"
  a_Line_block : NoAttr K A.C_Line "block"
  mk_Line : Mk K A.C_Line A.f_Line_init
  cl_Reader : Cls K A.C_Reader
  g_Reader : mg "Reader" = some (.ref A.C_Reader)
  a_Reader_numbers : NoAttr K A.C_Reader "numbers"
  a_Reader_at : NoAttr K A.C_Reader "at"
  mk_Reader : Mk K A.C_Reader A.f_Reader_init
  F_is_within : Fun K "is_within" "is_within" s_is_within A.f_is_within A.d_is_within
  b_is_within : Binds K A.d_is_within ["n", "most"] []
  g_is_within : mg "is_within" = some (.ref A.f_is_within)
  k_is_within : PySem.W.keepIn K (.ref A.f_is_within) = true
  F_are_registers : Fun K "are_registers" "are_registers" s_are_registers A.f_are_registers A.d_are_registers
  b_are_registers : Binds K A.d_are_registers ["row", "most"] []
  g_are_registers : mg "are_registers" = some (.ref A.f_are_registers)
  k_are_registers : PySem.W.keepIn K (.ref A.f_are_registers) = true
  F_is_memory_use : Fun K "is_memory_use" "is_memory_use" s_is_memory_use A.f_is_memory_use A.d_is_memory_use
  b_is_memory_use : Binds K A.d_is_memory_use ["mem", "place"] []
  g_is_memory_use : mg "is_memory_use" = some (.ref A.f_is_memory_use)
  k_is_memory_use : PySem.W.keepIn K (.ref A.f_is_memory_use) = true
  F_name_one_in_common : Fun K "name_one_in_common" "name_one_in_common" s_name_one_in_common A.f_name_one_in_common A.d_name_one_in_common
  b_name_one_in_common : Binds K A.d_name_one_in_common ["row", "other"] []
  g_name_one_in_common : mg "name_one_in_common" = some (.ref A.f_name_one_in_common)
  k_name_one_in_common : PySem.W.keepIn K (.ref A.f_name_one_in_common) = true
  F_may_meet_in_memory : Fun K "may_meet_in_memory" "may_meet_in_memory" s_may_meet_in_memory A.f_may_meet_in_memory A.d_may_meet_in_memory
  b_may_meet_in_memory : Binds K A.d_may_meet_in_memory ["one", "other"] []
  g_may_meet_in_memory : mg "may_meet_in_memory" = some (.ref A.f_may_meet_in_memory)
  k_may_meet_in_memory : PySem.W.keepIn K (.ref A.f_may_meet_in_memory) = true
  F_bits_between : Fun K "bits_between" "bits_between" s_bits_between A.f_bits_between A.d_bits_between
  b_bits_between : Binds K A.d_bits_between ["earlier", "later"] []
  g_bits_between : mg "bits_between" = some (.ref A.f_bits_between)
  k_bits_between : PySem.W.keepIn K (.ref A.f_bits_between) = true
  F_needed_cycles : Fun K "needed_cycles" "needed_cycles" s_needed_cycles A.f_needed_cycles A.d_needed_cycles
  b_needed_cycles : Binds K A.d_needed_cycles ["earlier", "later", "bits"] []
  g_needed_cycles : mg "needed_cycles" = some (.ref A.f_needed_cycles)
  k_needed_cycles : PySem.W.keepIn K (.ref A.f_needed_cycles) = true
  F_waits_of : Fun K "waits_of" "waits_of" s_waits_of A.f_waits_of A.d_waits_of
  b_waits_of : Binds K A.d_waits_of ["block", "j"] []
  g_waits_of : mg "waits_of" = some (.ref A.f_waits_of)
  k_waits_of : PySem.W.keepIn K (.ref A.f_waits_of) = true
  F_waits_in : Fun K "waits_in" "waits_in" s_waits_in A.f_waits_in A.d_waits_in
  b_waits_in : Binds K A.d_waits_in ["block"] []
  g_waits_in : mg "waits_in" = some (.ref A.f_waits_in)
  k_waits_in : PySem.W.keepIn K (.ref A.f_waits_in) = true
  F_have_all_begun : Fun K "have_all_begun" "have_all_begun" s_have_all_begun A.f_have_all_begun A.d_have_all_begun
  b_have_all_begun : Binds K A.d_have_all_begun ["wait", "begun"] []
  g_have_all_begun : mg "have_all_begun" = some (.ref A.f_have_all_begun)
  k_have_all_begun : PySem.W.keepIn K (.ref A.f_have_all_begun) = true
  F_is_accepted : Fun K "is_accepted" "is_accepted" s_is_accepted A.f_is_accepted A.d_is_accepted
  b_is_accepted : Binds K A.d_is_accepted ["waits", "order"] []
  g_is_accepted : mg "is_accepted" = some (.ref A.f_is_accepted)
  k_is_accepted : PySem.W.keepIn K (.ref A.f_is_accepted) = true
  F_after_waits : Fun K "after_waits" "after_waits" s_after_waits A.f_after_waits A.d_after_waits
  b_after_waits : Binds K A.d_after_waits ["wait", "begins"] []
  g_after_waits : mg "after_waits" = some (.ref A.f_after_waits)
  k_after_waits : PySem.W.keepIn K (.ref A.f_after_waits) = true
  F_after_width : Fun K "after_width" "after_width" s_after_width A.f_after_width A.d_after_width
  b_after_width : Binds K A.d_after_width ["width", "cycles"] []
  g_after_width : mg "after_width" = some (.ref A.f_after_width)
  k_after_width : PySem.W.keepIn K (.ref A.f_after_width) = true
  F_after_units : Fun K "after_units" "after_units" s_after_units A.f_after_units A.d_after_units
  b_after_units : Binds K A.d_after_units ["line", "begins", "unit_class"] []
  g_after_units : mg "after_units" = some (.ref A.f_after_units)
  k_after_units : PySem.W.keepIn K (.ref A.f_after_units) = true
  F_earliest_begin : Fun K "earliest_begin" "earliest_begin" s_earliest_begin A.f_earliest_begin A.d_earliest_begin
  b_earliest_begin : Binds K A.d_earliest_begin ["line", "waits", "begins", "k"] []
  g_earliest_begin : mg "earliest_begin" = some (.ref A.f_earliest_begin)
  k_earliest_begin : PySem.W.keepIn K (.ref A.f_earliest_begin) = true
  F_begins_in_order : Fun K "begins_in_order" "begins_in_order" s_begins_in_order A.f_begins_in_order A.d_begins_in_order
  b_begins_in_order : Binds K A.d_begins_in_order ["line", "waits", "order"] []
  g_begins_in_order : mg "begins_in_order" = some (.ref A.f_begins_in_order)
  k_begins_in_order : PySem.W.keepIn K (.ref A.f_begins_in_order) = true
  F_cycles_taken : Fun K "cycles_taken" "cycles_taken" s_cycles_taken A.f_cycles_taken A.d_cycles_taken
  b_cycles_taken : Binds K A.d_cycles_taken ["block", "begins"] []
  g_cycles_taken : mg "cycles_taken" = some (.ref A.f_cycles_taken)
  k_cycles_taken : PySem.W.keepIn K (.ref A.f_cycles_taken) = true
  F_with_one_more : Fun K "with_one_more" "with_one_more" s_with_one_more A.f_with_one_more A.d_with_one_more
  b_with_one_more : Binds K A.d_with_one_more ["line", "waits", "begins"] []
  g_with_one_more : mg "with_one_more" = some (.ref A.f_with_one_more)
  k_with_one_more : PySem.W.keepIn K (.ref A.f_with_one_more) = true
  F_best_begins : Fun K "best_begins" "best_begins" s_best_begins A.f_best_begins A.d_best_begins
  b_best_begins : Binds K A.d_best_begins ["line"] []
  g_best_begins : mg "best_begins" = some (.ref A.f_best_begins)
  k_best_begins : PySem.W.keepIn K (.ref A.f_best_begins) = true
  F_answer_width : Fun K "answer_width" "answer_width" s_answer_width A.f_answer_width A.d_answer_width
  b_answer_width : Binds K A.d_answer_width ["line", "reader"] []
  g_answer_width : mg "answer_width" = some (.ref A.f_answer_width)
  k_answer_width : PySem.W.keepIn K (.ref A.f_answer_width) = true
  F_answer_units : Fun K "answer_units" "answer_units" s_answer_units A.f_answer_units A.d_answer_units
  b_answer_units : Binds K A.d_answer_units ["line", "reader"] []
  g_answer_units : mg "answer_units" = some (.ref A.f_answer_units)
  k_answer_units : PySem.W.keepIn K (.ref A.f_answer_units) = true
  F_answer_kind : Fun K "answer_kind" "answer_kind" s_answer_kind A.f_answer_kind A.d_answer_kind
  b_answer_kind : Binds K A.d_answer_kind ["line", "reader"] []
  g_answer_kind : mg "answer_kind" = some (.ref A.f_answer_kind)
  k_answer_kind : PySem.W.keepIn K (.ref A.f_answer_kind) = true
  F_answer_add : Fun K "answer_add" "answer_add" s_answer_add A.f_answer_add A.d_answer_add
  b_answer_add : Binds K A.d_answer_add ["line", "reader"] []
  g_answer_add : mg "answer_add" = some (.ref A.f_answer_add)
  k_answer_add : PySem.W.keepIn K (.ref A.f_answer_add) = true
  F_answer_dep : Fun K "answer_dep" "answer_dep" s_answer_dep A.f_answer_dep A.d_answer_dep
  b_answer_dep : Binds K A.d_answer_dep ["line", "reader"] []
  g_answer_dep : mg "answer_dep" = some (.ref A.f_answer_dep)
  k_answer_dep : PySem.W.keepIn K (.ref A.f_answer_dep) = true
  F_answer_number : Fun K "answer_number" "answer_number" s_answer_number A.f_answer_number A.d_answer_number
  b_answer_number : Binds K A.d_answer_number ["line", "reader", "call"] []
  g_answer_number : mg "answer_number" = some (.ref A.f_answer_number)
  k_answer_number : PySem.W.keepIn K (.ref A.f_answer_number) = true
  F_answer_call : Fun K "answer_call" "answer_call" s_answer_call A.f_answer_call A.d_answer_call
  b_answer_call : Binds K A.d_answer_call ["line", "reader"] []
  g_answer_call : mg "answer_call" = some (.ref A.f_answer_call)
  k_answer_call : PySem.W.keepIn K (.ref A.f_answer_call) = true
  F_written_answer : Fun K "written_answer" "written_answer" s_written_answer A.f_written_answer A.d_written_answer
  b_written_answer : Binds K A.d_written_answer ["number", "row"] []
  g_written_answer : mg "written_answer" = some (.ref A.f_written_answer)
  k_written_answer : PySem.W.keepIn K (.ref A.f_written_answer) = true
  F_answers : Fun K "answers" "answers" s_answers A.f_answers A.d_answers
  b_answers : Binds K A.d_answers ["calls"] []
  g_answers : mg "answers" = some (.ref A.f_answers)
  k_answers : PySem.W.keepIn K (.ref A.f_answers) = true
  F_Kind_init : Fun K "__init__" "Kind.__init__" s_Kind_init A.f_Kind_init A.d_Kind_init
  b_Kind_init : Binds K A.d_Kind_init ["self", "unit_class", "busy", "latency"] []
  F_Instruction_init : Fun K "__init__" "Instruction.__init__" s_Instruction_init A.f_Instruction_init A.d_Instruction_init
  b_Instruction_init : Binds K A.d_Instruction_init ["self", "kind", "reads", "writes", "mem", "place"] []
  F_Line_init : Fun K "__init__" "Line.__init__" s_Line_init A.f_Line_init A.d_Line_init
  b_Line_init : Binds K A.d_Line_init ["self"] []
  F_Line_begin : Fun K "begin" "Line.begin" s_Line_begin A.f_Line_begin A.d_Line_begin
  b_Line_begin : Binds K A.d_Line_begin ["self"] []
  m_Line_begin : Meth K A.C_Line "begin" A.f_Line_begin
  F_Line_set_width : Fun K "set_width" "Line.set_width" s_Line_set_width A.f_Line_set_width A.d_Line_set_width
  b_Line_set_width : Binds K A.d_Line_set_width ["self", "n"] []
  m_Line_set_width : Meth K A.C_Line "set_width" A.f_Line_set_width
  F_Line_set_units : Fun K "set_units" "Line.set_units" s_Line_set_units A.f_Line_set_units A.d_Line_set_units
  b_Line_set_units : Binds K A.d_Line_set_units ["self", "c", "n"] []
  m_Line_set_units : Meth K A.C_Line "set_units" A.f_Line_set_units
  F_Line_add_kind : Fun K "add_kind" "Line.add_kind" s_Line_add_kind A.f_Line_add_kind A.d_Line_add_kind
  b_Line_add_kind : Binds K A.d_Line_add_kind ["self", "c", "busy", "latency"] []
  m_Line_add_kind : Meth K A.C_Line "add_kind" A.f_Line_add_kind
  F_Line_add : Fun K "add" "Line.add" s_Line_add A.f_Line_add A.d_Line_add
  b_Line_add : Binds K A.d_Line_add ["self", "kind", "reads", "writes", "mem", "place"] []
  m_Line_add : Meth K A.C_Line "add" A.f_Line_add
  F_Line_clear : Fun K "clear" "Line.clear" s_Line_clear A.f_Line_clear A.d_Line_clear
  b_Line_clear : Binds K A.d_Line_clear ["self"] []
  m_Line_clear : Meth K A.C_Line "clear" A.f_Line_clear
  F_Line_dep : Fun K "dep" "Line.dep" s_Line_dep A.f_Line_dep A.d_Line_dep
  b_Line_dep : Binds K A.d_Line_dep ["self", "i", "j"] []
  m_Line_dep : Meth K A.C_Line "dep" A.f_Line_dep
  F_Line_bound : Fun K "bound" "Line.bound" s_Line_bound A.f_Line_bound A.d_Line_bound
  b_Line_bound : Binds K A.d_Line_bound ["self"] []
  m_Line_bound : Meth K A.C_Line "bound" A.f_Line_bound
  F_Line_time : Fun K "time" "Line.time" s_Line_time A.f_Line_time A.d_Line_time
  b_Line_time : Binds K A.d_Line_time ["self", "order"] []
  m_Line_time : Meth K A.C_Line "time" A.f_Line_time
  F_Line_best : Fun K "best" "Line.best" s_Line_best A.f_Line_best A.d_Line_best
  b_Line_best : Binds K A.d_Line_best ["self"] []
  m_Line_best : Meth K A.C_Line "best" A.f_Line_best
  F_Reader_init : Fun K "__init__" "Reader.__init__" s_Reader_init A.f_Reader_init A.d_Reader_init
  b_Reader_init : Binds K A.d_Reader_init ["self", "numbers"] []
  F_Reader_has_more : Fun K "has_more" "Reader.has_more" s_Reader_has_more A.f_Reader_has_more A.d_Reader_has_more
  b_Reader_has_more : Binds K A.d_Reader_has_more ["self"] []
  m_Reader_has_more : Meth K A.C_Reader "has_more" A.f_Reader_has_more
  F_Reader_number : Fun K "number" "Reader.number" s_Reader_number A.f_Reader_number A.d_Reader_number
  b_Reader_number : Binds K A.d_Reader_number ["self"] []
  m_Reader_number : Meth K A.C_Reader "number" A.f_Reader_number
  F_Reader_row : Fun K "row" "Reader.row" s_Reader_row A.f_Reader_row A.d_Reader_row
  b_Reader_row : Binds K A.d_Reader_row ["self"] []
  m_Reader_row : Meth K A.C_Reader "row" A.f_Reader_row
theorem sc_is_within : FnScope ["n", "most"] ["n", "most"] (defScope s_is_within) := ⟨rfl, rfl, rfl, by decide +kernel, rfl, by decide +kernel, by decide +kernel⟩
theorem sc_are_registers : FnScope ["row", "most", "r"] ["row", "most"] (defScope s_are_registers) := ⟨rfl, rfl, rfl, by decide +kernel, rfl, by decide +kernel, by decide +kernel⟩
theorem sc_is_memory_use : FnScope ["mem", "place"] ["mem", "place"] (defScope s_is_memory_use) := ⟨rfl, rfl, rfl, by decide +kernel, rfl, by decide +kernel, by decide +kernel⟩
theorem sc_name_one_in_common : FnScope ["row", "other", "r"] ["row", "other"] (defScope s_name_one_in_common) := ⟨rfl, rfl, rfl, by decide +kernel, rfl, by decide +kernel, by decide +kernel⟩
theorem sc_may_meet_in_memory : FnScope ["one", "other"] ["one", "other"] (defScope s_may_meet_in_memory) := ⟨rfl, rfl, rfl, by decide +kernel, rfl, by decide +kernel, by decide +kernel⟩
theorem sc_bits_between : FnScope ["earlier", "later", "bits", "one_writes"] ["earlier", "later"] (defScope s_bits_between) := ⟨rfl, rfl, rfl, by decide +kernel, rfl, by decide +kernel, by decide +kernel⟩
theorem sc_needed_cycles : FnScope ["earlier", "later", "bits", "needed"] ["earlier", "later", "bits"] (defScope s_needed_cycles) := ⟨rfl, rfl, rfl, by decide +kernel, rfl, by decide +kernel, by decide +kernel⟩
theorem sc_waits_of : FnScope ["block", "j", "waits", "i", "bits"] ["block", "j"] (defScope s_waits_of) := ⟨rfl, rfl, rfl, by decide +kernel, rfl, by decide +kernel, by decide +kernel⟩
theorem sc_waits_in : FnScope ["block", "j"] ["block"] (defScope s_waits_in) := ⟨rfl, rfl, rfl, by decide +kernel, rfl, by decide +kernel, by decide +kernel⟩
theorem sc_have_all_begun : FnScope ["wait", "begun", "i"] ["wait", "begun"] (defScope s_have_all_begun) := ⟨rfl, rfl, rfl, by decide +kernel, rfl, by decide +kernel, by decide +kernel⟩
theorem sc_is_accepted : FnScope ["waits", "order", "begun", "k"] ["waits", "order"] (defScope s_is_accepted) := ⟨rfl, rfl, rfl, by decide +kernel, rfl, by decide +kernel, by decide +kernel⟩
theorem sc_after_waits : FnScope ["wait", "begins", "i"] ["wait", "begins"] (defScope s_after_waits) := ⟨rfl, rfl, rfl, by decide +kernel, rfl, by decide +kernel, by decide +kernel⟩
theorem sc_after_width : FnScope ["width", "cycles"] ["width", "cycles"] (defScope s_after_width) := ⟨rfl, rfl, rfl, by decide +kernel, rfl, by decide +kernel, by decide +kernel⟩
theorem sc_after_units : FnScope ["line", "begins", "unit_class", "ends", "i", "units", "kind"] ["line", "begins", "unit_class"] (defScope s_after_units) := ⟨rfl, rfl, rfl, by decide +kernel, rfl, by decide +kernel, by decide +kernel⟩
theorem sc_earliest_begin : FnScope ["line", "waits", "begins", "k", "cycles", "after_preceding"] ["line", "waits", "begins", "k"] (defScope s_earliest_begin) := ⟨rfl, rfl, rfl, by decide +kernel, rfl, by decide +kernel, by decide +kernel⟩
theorem sc_begins_in_order : FnScope ["line", "waits", "order", "begins", "k"] ["line", "waits", "order"] (defScope s_begins_in_order) := ⟨rfl, rfl, rfl, by decide +kernel, rfl, by decide +kernel, by decide +kernel⟩
theorem sc_cycles_taken : FnScope ["block", "begins", "k"] ["block", "begins"] (defScope s_cycles_taken) := ⟨rfl, rfl, rfl, by decide +kernel, rfl, by decide +kernel, by decide +kernel⟩
theorem sc_with_one_more : FnScope ["line", "waits", "begins", "longer", "k", "more"] ["line", "waits", "begins"] (defScope s_with_one_more) := ⟨rfl, rfl, rfl, by decide +kernel, rfl, by decide +kernel, by decide +kernel⟩
theorem sc_best_begins : FnScope ["line", "waits", "best", "fewest", "untried", "begins", "cycles"] ["line"] (defScope s_best_begins) := ⟨rfl, rfl, rfl, by decide +kernel, rfl, by decide +kernel, by decide +kernel⟩
theorem sc_answer_width : FnScope ["line", "reader", "n"] ["line", "reader"] (defScope s_answer_width) := ⟨rfl, rfl, rfl, by decide +kernel, rfl, by decide +kernel, by decide +kernel⟩
theorem sc_answer_units : FnScope ["line", "reader", "c", "n"] ["line", "reader"] (defScope s_answer_units) := ⟨rfl, rfl, rfl, by decide +kernel, rfl, by decide +kernel, by decide +kernel⟩
theorem sc_answer_kind : FnScope ["line", "reader", "c", "busy", "latency"] ["line", "reader"] (defScope s_answer_kind) := ⟨rfl, rfl, rfl, by decide +kernel, rfl, by decide +kernel, by decide +kernel⟩
theorem sc_answer_add : FnScope ["line", "reader", "kind", "mem", "place", "reads", "writes"] ["line", "reader"] (defScope s_answer_add) := ⟨rfl, rfl, rfl, by decide +kernel, rfl, by decide +kernel, by decide +kernel⟩
theorem sc_answer_dep : FnScope ["line", "reader", "i", "j"] ["line", "reader"] (defScope s_answer_dep) := ⟨rfl, rfl, rfl, by decide +kernel, rfl, by decide +kernel, by decide +kernel⟩
theorem sc_answer_number : FnScope ["line", "reader", "call"] ["line", "reader", "call"] (defScope s_answer_number) := ⟨rfl, rfl, rfl, by decide +kernel, rfl, by decide +kernel, by decide +kernel⟩
theorem sc_answer_call : FnScope ["line", "reader", "call"] ["line", "reader"] (defScope s_answer_call) := ⟨rfl, rfl, rfl, by decide +kernel, rfl, by decide +kernel, by decide +kernel⟩
theorem sc_written_answer : FnScope ["number", "row", "answer"] ["number", "row"] (defScope s_written_answer) := ⟨rfl, rfl, rfl, by decide +kernel, rfl, by decide +kernel, by decide +kernel⟩
theorem sc_answers : FnScope ["calls", "line", "reader", "given", "answer"] ["calls"] (defScope s_answers) := ⟨rfl, rfl, rfl, by decide +kernel, rfl, by decide +kernel, by decide +kernel⟩
theorem sc_Kind_init : FnScope ["self", "unit_class", "busy", "latency"] ["self", "unit_class", "busy", "latency"] (defScope s_Kind_init) := ⟨rfl, rfl, rfl, by decide +kernel, rfl, by decide +kernel, by decide +kernel⟩
theorem sc_Instruction_init : FnScope ["self", "kind", "reads", "writes", "mem", "place"] ["self", "kind", "reads", "writes", "mem", "place"] (defScope s_Instruction_init) := ⟨rfl, rfl, rfl, by decide +kernel, rfl, by decide +kernel, by decide +kernel⟩
theorem sc_Line_init : FnScope ["self"] ["self"] (defScope s_Line_init) := ⟨rfl, rfl, rfl, by decide +kernel, rfl, by decide +kernel, by decide +kernel⟩
theorem sc_Line_begin : FnScope ["self"] ["self"] (defScope s_Line_begin) := ⟨rfl, rfl, rfl, by decide +kernel, rfl, by decide +kernel, by decide +kernel⟩
theorem sc_Line_set_width : FnScope ["self", "n"] ["self", "n"] (defScope s_Line_set_width) := ⟨rfl, rfl, rfl, by decide +kernel, rfl, by decide +kernel, by decide +kernel⟩
theorem sc_Line_set_units : FnScope ["self", "c", "n"] ["self", "c", "n"] (defScope s_Line_set_units) := ⟨rfl, rfl, rfl, by decide +kernel, rfl, by decide +kernel, by decide +kernel⟩
theorem sc_Line_add_kind : FnScope ["self", "c", "busy", "latency"] ["self", "c", "busy", "latency"] (defScope s_Line_add_kind) := ⟨rfl, rfl, rfl, by decide +kernel, rfl, by decide +kernel, by decide +kernel⟩
theorem sc_Line_add : FnScope ["self", "kind", "reads", "writes", "mem", "place"] ["self", "kind", "reads", "writes", "mem", "place"] (defScope s_Line_add) := ⟨rfl, rfl, rfl, by decide +kernel, rfl, by decide +kernel, by decide +kernel⟩
theorem sc_Line_clear : FnScope ["self"] ["self"] (defScope s_Line_clear) := ⟨rfl, rfl, rfl, by decide +kernel, rfl, by decide +kernel, by decide +kernel⟩
theorem sc_Line_dep : FnScope ["self", "i", "j"] ["self", "i", "j"] (defScope s_Line_dep) := ⟨rfl, rfl, rfl, by decide +kernel, rfl, by decide +kernel, by decide +kernel⟩
theorem sc_Line_bound : FnScope ["self", "waits", "begins", "k"] ["self"] (defScope s_Line_bound) := ⟨rfl, rfl, rfl, by decide +kernel, rfl, by decide +kernel, by decide +kernel⟩
theorem sc_Line_time : FnScope ["self", "order", "waits", "begins"] ["self", "order"] (defScope s_Line_time) := ⟨rfl, rfl, rfl, by decide +kernel, rfl, by decide +kernel, by decide +kernel⟩
theorem sc_Line_best : FnScope ["self", "begins"] ["self"] (defScope s_Line_best) := ⟨rfl, rfl, rfl, by decide +kernel, rfl, by decide +kernel, by decide +kernel⟩
theorem sc_Reader_init : FnScope ["self", "numbers"] ["self", "numbers"] (defScope s_Reader_init) := ⟨rfl, rfl, rfl, by decide +kernel, rfl, by decide +kernel, by decide +kernel⟩
theorem sc_Reader_has_more : FnScope ["self"] ["self"] (defScope s_Reader_has_more) := ⟨rfl, rfl, rfl, by decide +kernel, rfl, by decide +kernel, by decide +kernel⟩
theorem sc_Reader_number : FnScope ["self", "value"] ["self"] (defScope s_Reader_number) := ⟨rfl, rfl, rfl, by decide +kernel, rfl, by decide +kernel, by decide +kernel⟩
theorem sc_Reader_row : FnScope ["self", "size", "start"] ["self"] (defScope s_Reader_row) := ⟨rfl, rfl, rfl, by decide +kernel, rfl, by decide +kernel, by decide +kernel⟩

def fs_Kind (x0 x1 x2 : V) : List (Str × V) := [("unit_class", x0), ("busy", x1), ("latency", x2)]
theorem lk_Kind_unit_class {x0 x1 x2 : V} : (fs_Kind x0 x1 x2).lookup ("unit_class" : Str) = some x0 := by rfl
theorem pt_Kind_unit_class {x0 x1 x2 : V} {v : V} : putF "unit_class" v (fs_Kind x0 x1 x2) = fs_Kind v x1 x2 := by rfl
theorem lk_Kind_busy {x0 x1 x2 : V} : (fs_Kind x0 x1 x2).lookup ("busy" : Str) = some x1 := by rfl
theorem pt_Kind_busy {x0 x1 x2 : V} {v : V} : putF "busy" v (fs_Kind x0 x1 x2) = fs_Kind x0 v x2 := by rfl
theorem lk_Kind_latency {x0 x1 x2 : V} : (fs_Kind x0 x1 x2).lookup ("latency" : Str) = some x2 := by rfl
theorem pt_Kind_latency {x0 x1 x2 : V} {v : V} : putF "latency" v (fs_Kind x0 x1 x2) = fs_Kind x0 x1 v := by rfl
theorem ln_Kind {x0 x1 x2 : V} : (fs_Kind x0 x1 x2).length = 3 := rfl
theorem st_Kind_1 {x0 : V} : putF ("unit_class" : Str) x0 [] = [(("unit_class" : Str), x0)] := by rfl
theorem st_Kind_2 {x0 x1 : V} : putF ("busy" : Str) x1 [(("unit_class" : Str), x0)] = [(("unit_class" : Str), x0), (("busy" : Str), x1)] := by rfl
theorem st_Kind_3 {x0 x1 x2 : V} : putF ("latency" : Str) x2 [(("unit_class" : Str), x0), (("busy" : Str), x1)] = fs_Kind x0 x1 x2 := by rfl
def fs_Instruction (x0 x1 x2 x3 x4 : V) : List (Str × V) := [("kind", x0), ("reads", x1), ("writes", x2), ("mem", x3), ("place", x4)]
theorem lk_Instruction_kind {x0 x1 x2 x3 x4 : V} : (fs_Instruction x0 x1 x2 x3 x4).lookup ("kind" : Str) = some x0 := by rfl
theorem pt_Instruction_kind {x0 x1 x2 x3 x4 : V} {v : V} : putF "kind" v (fs_Instruction x0 x1 x2 x3 x4) = fs_Instruction v x1 x2 x3 x4 := by rfl
theorem lk_Instruction_reads {x0 x1 x2 x3 x4 : V} : (fs_Instruction x0 x1 x2 x3 x4).lookup ("reads" : Str) = some x1 := by rfl
theorem pt_Instruction_reads {x0 x1 x2 x3 x4 : V} {v : V} : putF "reads" v (fs_Instruction x0 x1 x2 x3 x4) = fs_Instruction x0 v x2 x3 x4 := by rfl
theorem lk_Instruction_writes {x0 x1 x2 x3 x4 : V} : (fs_Instruction x0 x1 x2 x3 x4).lookup ("writes" : Str) = some x2 := by rfl
theorem pt_Instruction_writes {x0 x1 x2 x3 x4 : V} {v : V} : putF "writes" v (fs_Instruction x0 x1 x2 x3 x4) = fs_Instruction x0 x1 v x3 x4 := by rfl
theorem lk_Instruction_mem {x0 x1 x2 x3 x4 : V} : (fs_Instruction x0 x1 x2 x3 x4).lookup ("mem" : Str) = some x3 := by rfl
theorem pt_Instruction_mem {x0 x1 x2 x3 x4 : V} {v : V} : putF "mem" v (fs_Instruction x0 x1 x2 x3 x4) = fs_Instruction x0 x1 x2 v x4 := by rfl
theorem lk_Instruction_place {x0 x1 x2 x3 x4 : V} : (fs_Instruction x0 x1 x2 x3 x4).lookup ("place" : Str) = some x4 := by rfl
theorem pt_Instruction_place {x0 x1 x2 x3 x4 : V} {v : V} : putF "place" v (fs_Instruction x0 x1 x2 x3 x4) = fs_Instruction x0 x1 x2 x3 v := by rfl
theorem ln_Instruction {x0 x1 x2 x3 x4 : V} : (fs_Instruction x0 x1 x2 x3 x4).length = 5 := rfl
theorem st_Instruction_1 {x0 : V} : putF ("kind" : Str) x0 [] = [(("kind" : Str), x0)] := by rfl
theorem st_Instruction_2 {x0 x1 : V} : putF ("reads" : Str) x1 [(("kind" : Str), x0)] = [(("kind" : Str), x0), (("reads" : Str), x1)] := by rfl
theorem st_Instruction_3 {x0 x1 x2 : V} : putF ("writes" : Str) x2 [(("kind" : Str), x0), (("reads" : Str), x1)] = [(("kind" : Str), x0), (("reads" : Str), x1), (("writes" : Str), x2)] := by rfl
theorem st_Instruction_4 {x0 x1 x2 x3 : V} : putF ("mem" : Str) x3 [(("kind" : Str), x0), (("reads" : Str), x1), (("writes" : Str), x2)] = [(("kind" : Str), x0), (("reads" : Str), x1), (("writes" : Str), x2), (("mem" : Str), x3)] := by rfl
theorem st_Instruction_5 {x0 x1 x2 x3 x4 : V} : putF ("place" : Str) x4 [(("kind" : Str), x0), (("reads" : Str), x1), (("writes" : Str), x2), (("mem" : Str), x3)] = fs_Instruction x0 x1 x2 x3 x4 := by rfl
def fs_Line (x0 x1 x2 x3 : V) : List (Str × V) := [("width", x0), ("units", x1), ("kinds", x2), ("block", x3)]
theorem lk_Line_width {x0 x1 x2 x3 : V} : (fs_Line x0 x1 x2 x3).lookup ("width" : Str) = some x0 := by rfl
theorem pt_Line_width {x0 x1 x2 x3 : V} {v : V} : putF "width" v (fs_Line x0 x1 x2 x3) = fs_Line v x1 x2 x3 := by rfl
theorem lk_Line_units {x0 x1 x2 x3 : V} : (fs_Line x0 x1 x2 x3).lookup ("units" : Str) = some x1 := by rfl
theorem pt_Line_units {x0 x1 x2 x3 : V} {v : V} : putF "units" v (fs_Line x0 x1 x2 x3) = fs_Line x0 v x2 x3 := by rfl
theorem lk_Line_kinds {x0 x1 x2 x3 : V} : (fs_Line x0 x1 x2 x3).lookup ("kinds" : Str) = some x2 := by rfl
theorem pt_Line_kinds {x0 x1 x2 x3 : V} {v : V} : putF "kinds" v (fs_Line x0 x1 x2 x3) = fs_Line x0 x1 v x3 := by rfl
theorem lk_Line_block {x0 x1 x2 x3 : V} : (fs_Line x0 x1 x2 x3).lookup ("block" : Str) = some x3 := by rfl
theorem pt_Line_block {x0 x1 x2 x3 : V} {v : V} : putF "block" v (fs_Line x0 x1 x2 x3) = fs_Line x0 x1 x2 v := by rfl
theorem lm_Line_begin {x0 x1 x2 x3 : V} : (fs_Line x0 x1 x2 x3).lookup ("begin" : Str) = none := by rfl
theorem lm_Line_set_width {x0 x1 x2 x3 : V} : (fs_Line x0 x1 x2 x3).lookup ("set_width" : Str) = none := by rfl
theorem lm_Line_set_units {x0 x1 x2 x3 : V} : (fs_Line x0 x1 x2 x3).lookup ("set_units" : Str) = none := by rfl
theorem lm_Line_add_kind {x0 x1 x2 x3 : V} : (fs_Line x0 x1 x2 x3).lookup ("add_kind" : Str) = none := by rfl
theorem lm_Line_add {x0 x1 x2 x3 : V} : (fs_Line x0 x1 x2 x3).lookup ("add" : Str) = none := by rfl
theorem lm_Line_clear {x0 x1 x2 x3 : V} : (fs_Line x0 x1 x2 x3).lookup ("clear" : Str) = none := by rfl
theorem lm_Line_dep {x0 x1 x2 x3 : V} : (fs_Line x0 x1 x2 x3).lookup ("dep" : Str) = none := by rfl
theorem lm_Line_bound {x0 x1 x2 x3 : V} : (fs_Line x0 x1 x2 x3).lookup ("bound" : Str) = none := by rfl
theorem lm_Line_time {x0 x1 x2 x3 : V} : (fs_Line x0 x1 x2 x3).lookup ("time" : Str) = none := by rfl
theorem lm_Line_best {x0 x1 x2 x3 : V} : (fs_Line x0 x1 x2 x3).lookup ("best" : Str) = none := by rfl
theorem ln_Line {x0 x1 x2 x3 : V} : (fs_Line x0 x1 x2 x3).length = 4 := rfl
theorem st_Line_1 {x0 : V} : putF ("width" : Str) x0 [] = [(("width" : Str), x0)] := by rfl
theorem st_Line_2 {x0 x1 : V} : putF ("units" : Str) x1 [(("width" : Str), x0)] = [(("width" : Str), x0), (("units" : Str), x1)] := by rfl
theorem st_Line_3 {x0 x1 x2 : V} : putF ("kinds" : Str) x2 [(("width" : Str), x0), (("units" : Str), x1)] = [(("width" : Str), x0), (("units" : Str), x1), (("kinds" : Str), x2)] := by rfl
theorem st_Line_4 {x0 x1 x2 x3 : V} : putF ("block" : Str) x3 [(("width" : Str), x0), (("units" : Str), x1), (("kinds" : Str), x2)] = fs_Line x0 x1 x2 x3 := by rfl
def fs_Reader (x0 x1 : V) : List (Str × V) := [("numbers", x0), ("at", x1)]
theorem lk_Reader_numbers {x0 x1 : V} : (fs_Reader x0 x1).lookup ("numbers" : Str) = some x0 := by rfl
theorem pt_Reader_numbers {x0 x1 : V} {v : V} : putF "numbers" v (fs_Reader x0 x1) = fs_Reader v x1 := by rfl
theorem lk_Reader_at {x0 x1 : V} : (fs_Reader x0 x1).lookup ("at" : Str) = some x1 := by rfl
theorem pt_Reader_at {x0 x1 : V} {v : V} : putF "at" v (fs_Reader x0 x1) = fs_Reader x0 v := by rfl
theorem lm_Reader_has_more {x0 x1 : V} : (fs_Reader x0 x1).lookup ("has_more" : Str) = none := by rfl
theorem lm_Reader_number {x0 x1 : V} : (fs_Reader x0 x1).lookup ("number" : Str) = none := by rfl
theorem lm_Reader_row {x0 x1 : V} : (fs_Reader x0 x1).lookup ("row" : Str) = none := by rfl
theorem ln_Reader {x0 x1 : V} : (fs_Reader x0 x1).length = 2 := rfl
theorem st_Reader_1 {x0 : V} : putF ("numbers" : Str) x0 [] = [(("numbers" : Str), x0)] := by rfl
theorem st_Reader_2 {x0 x1 : V} : putF ("at" : Str) x1 [(("numbers" : Str), x0)] = fs_Reader x0 x1 := by rfl

local macro_rules | `(tactic| walk_at "rd") => `(tactic| simp only [tDGet, tDIn, tDNotIn, sDPut, tDNewK, tListV, tListR, tListB, tMaxD, mMax4, mSorted, mIn, mDict, mListD, rPop, tSeq, tAsg, gName, tVar, tC, tOp, tUn, rI0, rI, rU, rEq, rNe, scal, tTest, tB, tAndV, tOrV, tNotV, tAnd, tOr, tNot, tIf, tIfS, tRet, tRetN, tDrop, tNext, tFld, sFld, tCall, tMeth, tMake, tNil, tCons, tCB, tBM, tBM0, tSl, tPart, tNoPart, tBreak, tCont, gSub, tNever, wipe, tYes, rAppend, rExtend, rCat, rRep, tLst, tTup, mIx, mLen, mAll, mAny, tyV_lst, ex_sql, isLst_lst, cxOf, Cx.nox, Cx.wish, L2.start, List.map_cons, List.map_nil, List.length_map, List.length_cons, List.length_nil, List.cons_append, List.nil_append, List.append_nil, Nat.zero_add, Nat.reduceAdd, Nat.reduceSub, Nat.reduceLT, Nat.sub_self, List.replicate, List.getElem?_cons_zero, List.getElem?_cons_succ, List.set_cons_zero, List.set_cons_succ, Option.some.injEq, V.int.injEq, V.bl.injEq, V.ref.injEq, HO.ins.injEq, HO.lst.injEq, List.cons.injEq, exists_eq_left', exists_eq_left, exists_eq_right', exists_eq_right, exists_and_left, exists_and_right, exists_eq', exists_eq, true_and, and_true, and_assoc, decide_eq_true_eq, ite_true, ite_false, if_true, if_false, Bool.false_eq_true, Bool.not_eq_true', decide_not, Bool.not_true, Bool.not_false, ↓reduceIte, upd_same, upd_upd, upd_none, upd_old, upd_ne, and_imp, Option.isSome_some, ne_eq, not_false_eq_true, implies_true, forall_const, sizeLine_eq, Int.reducePow, Int.reduceNeg, Int.reduceLE, Int.reduceLT, Int.reduceToNat, Nat.reduceMul, Nat.reduceLeDiff, Nat.zero_le, Nat.one_mul, lk_Kind_unit_class, pt_Kind_unit_class, lk_Kind_busy, pt_Kind_busy, lk_Kind_latency, pt_Kind_latency, ln_Kind, st_Kind_1, st_Kind_2, st_Kind_3, lk_Instruction_kind, pt_Instruction_kind, lk_Instruction_reads, pt_Instruction_reads, lk_Instruction_writes, pt_Instruction_writes, lk_Instruction_mem, pt_Instruction_mem, lk_Instruction_place, pt_Instruction_place, ln_Instruction, st_Instruction_1, st_Instruction_2, st_Instruction_3, st_Instruction_4, st_Instruction_5, lk_Line_width, pt_Line_width, lk_Line_units, pt_Line_units, lk_Line_kinds, pt_Line_kinds, lk_Line_block, pt_Line_block, lm_Line_begin, lm_Line_set_width, lm_Line_set_units, lm_Line_add_kind, lm_Line_add, lm_Line_clear, lm_Line_dep, lm_Line_bound, lm_Line_time, lm_Line_best, ln_Line, st_Line_1, st_Line_2, st_Line_3, st_Line_4, lk_Reader_numbers, pt_Reader_numbers, lk_Reader_at, pt_Reader_at, lm_Reader_has_more, lm_Reader_number, lm_Reader_row, ln_Reader, st_Reader_1, st_Reader_2])
local macro_rules | `(tactic| walk_at "rdh") => `(tactic| simp only [tDGet, tDIn, tDNotIn, sDPut, tDNewK, tListV, tListR, tListB, tMaxD, mMax4, mSorted, mIn, mDict, mListD, rPop, tSeq, tAsg, gName, tVar, tC, tOp, tUn, rI0, rI, rU, rEq, rNe, scal, tTest, tB, tAndV, tOrV, tNotV, tAnd, tOr, tNot, tIf, tIfS, tRet, tRetN, tDrop, tNext, tFld, sFld, tCall, tMeth, tMake, tNil, tCons, tCB, tBM, tBM0, tSl, tPart, tNoPart, tBreak, tCont, gSub, tNever, wipe, tYes, rAppend, rExtend, rCat, rRep, tLst, tTup, mIx, mLen, mAll, mAny, tyV_lst, ex_sql, isLst_lst, cxOf, Cx.nox, Cx.wish, L2.start, List.map_cons, List.map_nil, List.length_map, List.length_cons, List.length_nil, List.cons_append, List.nil_append, List.append_nil, Nat.zero_add, Nat.reduceAdd, Nat.reduceSub, Nat.reduceLT, Nat.sub_self, List.replicate, List.getElem?_cons_zero, List.getElem?_cons_succ, List.set_cons_zero, List.set_cons_succ, Option.some.injEq, V.int.injEq, V.bl.injEq, V.ref.injEq, HO.ins.injEq, HO.lst.injEq, List.cons.injEq, exists_eq_left', exists_eq_left, exists_eq_right', exists_eq_right, exists_and_left, exists_and_right, exists_eq', exists_eq, true_and, and_true, and_assoc, decide_eq_true_eq, ite_true, ite_false, if_true, if_false, Bool.false_eq_true, Bool.not_eq_true', decide_not, Bool.not_true, Bool.not_false, ↓reduceIte, upd_same, upd_upd, upd_none, upd_old, upd_ne, and_imp, Option.isSome_some, ne_eq, not_false_eq_true, implies_true, forall_const, sizeLine_eq, Int.reducePow, Int.reduceNeg, Int.reduceLE, Int.reduceLT, Int.reduceToNat, Nat.reduceMul, Nat.reduceLeDiff, Nat.zero_le, Nat.one_mul, lk_Kind_unit_class, pt_Kind_unit_class, lk_Kind_busy, pt_Kind_busy, lk_Kind_latency, pt_Kind_latency, ln_Kind, st_Kind_1, st_Kind_2, st_Kind_3, lk_Instruction_kind, pt_Instruction_kind, lk_Instruction_reads, pt_Instruction_reads, lk_Instruction_writes, pt_Instruction_writes, lk_Instruction_mem, pt_Instruction_mem, lk_Instruction_place, pt_Instruction_place, ln_Instruction, st_Instruction_1, st_Instruction_2, st_Instruction_3, st_Instruction_4, st_Instruction_5, lk_Line_width, pt_Line_width, lk_Line_units, pt_Line_units, lk_Line_kinds, pt_Line_kinds, lk_Line_block, pt_Line_block, lm_Line_begin, lm_Line_set_width, lm_Line_set_units, lm_Line_add_kind, lm_Line_add, lm_Line_clear, lm_Line_dep, lm_Line_bound, lm_Line_time, lm_Line_best, ln_Line, st_Line_1, st_Line_2, st_Line_3, st_Line_4, lk_Reader_numbers, pt_Reader_numbers, lk_Reader_at, pt_Reader_at, lm_Reader_has_more, lm_Reader_number, lm_Reader_row, ln_Reader, st_Reader_1, st_Reader_2, *])
/-! ### what stands in the heap -/
inductive All2 {α β : Type} (R : α → β → Prop) : List α → List β → Prop
  | nil : All2 R [] []
  | cons {a : α} {b : β} {l : List α} {m : List β} : R a b → All2 R l m → All2 R (a :: l) (b :: m)
theorem All2.length {α β : Type} {R : α → β → Prop} : ∀ {l : List α} {m : List β}, All2 R l m → l.length = m.length
  | _, _, .nil => rfl
  | _, _, .cons _ t => by rw [List.length_cons, List.length_cons, t.length]
theorem All2.imp {α β : Type} {R S : α → β → Prop} (f : ∀ a b, R a b → S a b) : ∀ {l : List α} {m : List β}, All2 R l m → All2 S l m
  | _, _, .nil => .nil
  | _, _, .cons r t => .cons (f _ _ r) (t.imp f)
theorem All2.get {α β : Type} {R : α → β → Prop} : ∀ {l : List α} {m : List β} {i : Nat} {b : β}, All2 R l m → m[i]? = some b → ∃ a, l[i]? = some a ∧ R a b
  | _, _, _, _, .nil, e => by simp at e
  | _, _, 0, _, .cons r _, e => by simp at e; subst e; exact ⟨_, rfl, r⟩
  | _, _, i + 1, b, .cons _ t, e => by
    obtain ⟨a, h1, h2⟩ := All2.get (i := i) (b := b) t (by simpa using e)
    exact ⟨a, by simpa using h1, h2⟩
theorem All2.snoc {α β : Type} {R : α → β → Prop} {a : α} {b : β} (r : R a b) : ∀ {l : List α} {m : List β}, All2 R l m → All2 R (l ++ [a]) (m ++ [b])
  | _, _, .nil => .cons r .nil
  | _, _, .cons q t => .cons q (t.snoc r)
/-- what was there is there, but for F -/
def Keep (F : List Addr) (H H' : Hp) : Prop := ∀ b o, H b = some o → b ∉ F → H' b = some o
theorem Same.keep {F : List Addr} {H H' : Hp} (h : Same H H') : Keep F H H' := fun b o e _ => h b o e
theorem Same.new {H : Hp} {a : Addr} {o : HO} (h : H a = none) : Same H (upd H a o) := fun b u e => by rw [upd_ne (ne_of_none e h)]; exact e
theorem Same.upd {I H : Hp} {a : Addr} {o : HO} (s : Same I H) (h : I a = none) : Same I (upd H a o) := fun b u e => by rw [upd_ne (ne_of_none e h)]; exact s b u e
section
variable (A : Adr)
def KindAt (I : Hp) (p : Addr) (k : Sched.Kind) : Prop := ∃ dx, I p = some (.ins A.C_Kind dx (fs_Kind (nI k.unit) (nI k.busy) (nI k.latency)))
def InsAt (I : Hp) (p : Addr) (x : Sched.Ins) : Prop := ∃ dx kp r w, I p = some (.ins A.C_Instruction dx (fs_Instruction (.ref kp) (.ref r) (.ref w) (nI x.mem) (nI x.place))) ∧ KindAt A I kp x.kind ∧ I r = some (.lst (natV x.reads)) ∧ I w = some (.lst (natV x.writes))
/-- a Line: I, what never changes any more; the line's own object and lists at p, u, kl, bl -/
structure LineX (I H : Hp) (p u kl bl dx : Addr) (ks bs : List Addr) (s : Sched.State) : Prop where
  obj : H p = some (.ins A.C_Line dx (fs_Line (nI s.width) (.ref u) (.ref kl) (.ref bl)))
  lu : H u = some (.lst (natV s.units))
  lk : H kl = some (.lst (ks.map V.ref))
  lb : H bl = some (.lst (bs.map V.ref))
  uk : u ≠ kl
  ub : u ≠ bl
  kb : kl ≠ bl
  sub : Same I H
  ip : I p = none
  iu : I u = none
  ik : I kl = none
  ib : I bl = none
  ks : All2 (KindAt A I) ks s.kinds
  bs : All2 (InsAt A I) bs s.block
def LineAt (I H : Hp) (p : Addr) (F : List Addr) (s : Sched.State) : Prop := ∃ u kl bl dx ks bs, F = [p, u, kl, bl] ∧ LineX A I H p u kl bl dx ks bs s
end
section
variable {A : Adr}
theorem KindAt.mono {I I' : Hp} {p : Addr} {k : Sched.Kind} (s : Same I I') (h : KindAt A I p k) : KindAt A I' p k := by
  obtain ⟨dx, e⟩ := h
  exact ⟨dx, s _ _ e⟩
theorem InsAt.mono {I I' : Hp} {p : Addr} {x : Sched.Ins} (s : Same I I') (h : InsAt A I p x) : InsAt A I' p x := by
  obtain ⟨dx, kp, r, w, e1, e2, e3, e4⟩ := h
  exact ⟨dx, kp, r, w, s _ _ e1, e2.mono s, s _ _ e3, s _ _ e4⟩
theorem LineX.keep {I H H' : Hp} {p u kl bl dx : Addr} {ks bs : List Addr} {s : Sched.State} {G : List Addr} (L : LineX A I H p u kl bl dx ks bs s) (k : Keep G H H') (h1 : p ∉ G) (h2 : u ∉ G) (h3 : kl ∉ G) (h4 : bl ∉ G) (hi : ∀ g ∈ G, I g = none) : LineX A I H' p u kl bl dx ks bs s :=
  ⟨k _ _ L.obj h1, k _ _ L.lu h2, k _ _ L.lk h3, k _ _ L.lb h4, L.uk, L.ub, L.kb, fun b o e => k b o (L.sub b o e) fun q => (by rw [hi b q] at e; cases e), L.ip, L.iu, L.ik, L.ib, L.ks, L.bs⟩
theorem LineAt.keep {I H H' : Hp} {p : Addr} {F G : List Addr} {s : Sched.State} (L : LineAt A I H p F s) (k : Keep G H H') (hF : ∀ g ∈ G, g ∉ F ∧ I g = none) : LineAt A I H' p F s := by
  obtain ⟨u, kl, bl, dx, ks, bs, rfl, X⟩ := L
  have no : ∀ a ∈ [p, u, kl, bl], a ∉ G := fun a ha q => (hF a q).1 ha
  exact ⟨u, kl, bl, dx, ks, bs, rfl, X.keep k (no _ (by simp)) (no _ (by simp)) (no _ (by simp)) (no _ (by simp)) fun g hg => (hF g hg).2⟩
theorem LineAt.same {I H H' : Hp} {p : Addr} {F : List Addr} {s : Sched.State} (L : LineAt A I H p F s) (k : Same H H') : LineAt A I H' p F s := L.keep (G := []) (Same.keep k) (fun _ h => nomatch h)
end
section
variable {A : Adr} {I H : Hp} {p u kl bl dx : Addr} {ks bs : List Addr} {s : Sched.State}
theorem LineX.pu (L : LineX A I H p u kl bl dx ks bs s) : p ≠ u := ne_of L.obj L.lu (by intro z; cases z)
theorem LineX.pk (L : LineX A I H p u kl bl dx ks bs s) : p ≠ kl := ne_of L.obj L.lk (by intro z; cases z)
theorem LineX.pb (L : LineX A I H p u kl bl dx ks bs s) : p ≠ bl := ne_of L.obj L.lb (by intro z; cases z)
theorem LineX.setW (L : LineX A I H p u kl bl dx ks bs s) (n : Nat) : LineX A I (upd H p (.ins A.C_Line dx (fs_Line (nI n) (.ref u) (.ref kl) (.ref bl)))) p u kl bl dx ks bs { s with width := n } :=
  ⟨upd_same, by rw [upd_ne L.pu.symm]; exact L.lu, by rw [upd_ne L.pk.symm]; exact L.lk, by rw [upd_ne L.pb.symm]; exact L.lb, L.uk, L.ub, L.kb, Same.upd L.sub L.ip, L.ip, L.iu, L.ik, L.ib, L.ks, L.bs⟩
theorem LineX.setU (L : LineX A I H p u kl bl dx ks bs s) (l : List Nat) : LineX A I (upd H u (.lst (natV l))) p u kl bl dx ks bs { s with units := l } :=
  ⟨by rw [upd_ne L.pu]; exact L.obj, upd_same, by rw [upd_ne L.uk.symm]; exact L.lk, by rw [upd_ne L.ub.symm]; exact L.lb, L.uk, L.ub, L.kb, Same.upd L.sub L.iu, L.ip, L.iu, L.ik, L.ib, L.ks, L.bs⟩
/-- more that never changes, in a heap that has it -/
theorem LineX.grow {I' H' : Hp} (L : LineX A I H p u kl bl dx ks bs s) (hI : Same I I') (hH : Same H H') (hs : Same I' H') (n : ∀ b, b ∈ [p, u, kl, bl] → I' b = none) : LineX A I' H' p u kl bl dx ks bs s :=
  ⟨hH _ _ L.obj, hH _ _ L.lu, hH _ _ L.lk, hH _ _ L.lb, L.uk, L.ub, L.kb, hs, n p (by simp), n u (by simp), n kl (by simp), n bl (by simp), L.ks.imp fun _ _ q => q.mono hI, L.bs.imp fun _ _ q => q.mono hI⟩
theorem LineX.addK (L : LineX A I H p u kl bl dx ks bs s) {x : Addr} {k : Sched.Kind} (h : KindAt A I x k) : LineX A I (upd H kl (.lst (ks.map V.ref ++ [.ref x]))) p u kl bl dx (ks ++ [x]) bs { s with kinds := s.kinds ++ [k] } :=
  ⟨by rw [upd_ne L.pk]; exact L.obj, by rw [upd_ne L.uk]; exact L.lu, by rw [upd_same, List.map_append]; rfl, by rw [upd_ne L.kb.symm]; exact L.lb, L.uk, L.ub, L.kb, Same.upd L.sub L.ik, L.ip, L.iu, L.ik, L.ib, L.ks.snoc h, L.bs⟩
theorem LineX.addB (L : LineX A I H p u kl bl dx ks bs s) {x : Addr} {k : Sched.Ins} (h : InsAt A I x k) : LineX A I (upd H bl (.lst (bs.map V.ref ++ [.ref x]))) p u kl bl dx ks (bs ++ [x]) { s with block := s.block ++ [k] } :=
  ⟨by rw [upd_ne L.pb]; exact L.obj, by rw [upd_ne L.ub]; exact L.lu, by rw [upd_ne L.kb]; exact L.lk, by rw [upd_same, List.map_append]; rfl, L.uk, L.ub, L.kb, Same.upd L.sub L.ib, L.ip, L.iu, L.ik, L.ib, L.ks, L.bs.snoc h⟩
end
/-- rows that are given away; what is known of I behind it -/
structure Out (A : Adr) (I H : Hp) (p : Addr) (F R : List Addr) (s' : Sched.State) (H' : Hp) : Prop where
  keep : Keep F H H'
  ex : ∃ I' F', LineAt A I' H' p F' s' ∧ Same I I' ∧ (∀ b, I b = none → (H b).isSome = true → b ∉ R → I' b = none) ∧ ∀ b ∈ F', b ∈ F ∨ H b = none
def LineSp (A : Adr) (p : Addr) (R : List Addr) (c : Sched.Call) (H : Hp) (Q : VK) : Prop := ∃ I F s, LineAt A I H p F s ∧ SM.Wf s ∧ (∀ r ∈ R, r ∉ F) ∧ ∀ H', Out A I H p F R (Sched.step s c).1 H' → Q (.int (Sched.step s c).2.ret) H'
theorem Out.same {A : Adr} {I H : Hp} {p : Addr} {F R : List Addr} {s : Sched.State} (L : LineAt A I H p F s) : Out A I H p F R s H := ⟨fun _ _ e _ => e, I, F, L, fun _ _ e => e, fun _ e _ _ => e, fun b hb => .inl hb⟩
theorem upd_keep {F : List Addr} {H : Hp} {a : Addr} {o : HO} (h : a ∈ F) : Keep F H (upd H a o) := fun b u e hb => by rw [upd_ne fun q => hb (by rw [q]; exact h)]; exact e
theorem Keep.trans {F : List Addr} {H H1 H2 : Hp} (a : Keep F H H1) (b : Keep F H1 H2) : Keep F H H2 := fun c o e hc => b c o (a c o e hc) hc

section
variable {P : Program} {w : World} {K : PySem.W.Frag} {mg : Str → Option Value} {base : Heap} {A : Adr}
/-! ### is_within, is_memory_use -/
def sp_is_within : Sp := fun vs H Q _ => ∃ n m : Int, vs = [.int n, .int m] ∧ Q (.bl (decide (1 ≤ n ∧ n ≤ m))) H
theorem ok_is_within (T : Txt K mg A) : FnOk P w K mg base CX0 1 A.f_is_within A.d_is_within ["n", "most"] sp_is_within := by
  refine T.F_is_within.ok sc_is_within (fun vs H Q E h => ?_) (fun cdv B outer s H vs Q E hr h => ?_)
  · obtain ⟨n, m, rfl, _⟩ := h
    rfl
  · obtain ⟨n, m, rfl, k⟩ := h
    refine ⟨_, (pss_one (ps_ret (pe_and (pe_cmpR op_le pe_int (pv 0) (nomark _)) (pe_one (pe_cmpR op_le (pv 0) (pv 1) (nomark _)))))), ?_⟩
    walk_at "rd"
    by_cases h : 1 ≤ n
    · simpa [h] using k
    · simpa [h] using k
def sp_is_memory_use : Sp := fun vs H Q _ => ∃ m p : Nat, vs = [nI m, nI p] ∧ Q (.bl (decide (m = 0 ∨ (m ≤ 2 ∧ (p < 16 ∨ p = 255))))) H
theorem ok_is_memory_use (T : Txt K mg A) : FnOk P w K mg base CX0 1 A.f_is_memory_use A.d_is_memory_use ["mem", "place"] sp_is_memory_use := by
  refine T.F_is_memory_use.ok sc_is_memory_use (fun vs H Q E h => ?_) (fun cdv B outer s H vs Q E hr h => ?_)
  · obtain ⟨n, m, rfl, _⟩ := h
    rfl
  · obtain ⟨m, p, rfl, k⟩ := h
    refine ⟨_, (pss_cons (ps_if (pt_cmpR op_eq (pv 0) (pe_gint (by rfl) T.c_MEM_NONE) (nomark _)) (pss_one (ps_ret pe_bl)) pss_nil) (pss_one (ps_ret (pe_and (pe_cmpR op_le (pv 0) (pe_gint (by rfl) T.c_MEM_WRITES) (nomark _)) (pe_one (pe_or (pe_cmpR op_lt (pv 1) (pe_gint (by rfl) T.c_PLACES) (nomark _)) (pe_one (pe_cmpR op_eq (pv 1) (pe_gint (by rfl) T.c_ANY_PLACE) (nomark _))))))))), ?_⟩
    walk_at "rd"
    repeat' split
    all_goals (refine Eq.mp (congrArg (fun b => Q (.bl b) H) ?_) k)
    all_goals (first | (refine decide_eq_true ?_; omega) | (refine decide_eq_false ?_; omega) | (refine decide_eq_decide.mpr ?_; omega))
/-! ### Kind, Instruction -/
def sp_Kind_init (A : Adr) : Sp := fun vs H Q _ => ∃ p dx x y z, vs = [.ref p, x, y, z] ∧ H p = some (.ins A.C_Kind dx []) ∧ Q .non (upd H p (.ins A.C_Kind dx (fs_Kind x y z)))
theorem ok_Kind_init (T : Txt K mg A) : FnOk P w K mg base CX0 1 A.f_Kind_init A.d_Kind_init ["self", "unit_class", "busy", "latency"] (sp_Kind_init A) := by
  refine T.F_Kind_init.ok sc_Kind_init (fun vs H Q E h => ?_) (fun cdv B outer s H vs Q E hr h => ?_)
  · obtain ⟨p, dx, x, y, z, rfl, _⟩ := h
    rfl
  · obtain ⟨p, dx, x, y, z, rfl, hp, k⟩ := h
    have cl_Kind := T.cl_Kind
    have a_Kind_unit_class := T.a_Kind_unit_class
    have a_Kind_busy := T.a_Kind_busy
    have a_Kind_latency := T.a_Kind_latency
    refine ⟨_, (pss_cons (ps_fld (pv 0) (pv 1) rfl) (pss_cons (ps_fld (pv 0) (pv 2) rfl) (pss_one (ps_fld (pv 0) (pv 3) rfl)))), ?_⟩
    walk_at "rdh"
def sp_Instruction_init (A : Adr) : Sp := fun vs H Q _ => ∃ p dx a b c d e, vs = [.ref p, a, b, c, d, e] ∧ H p = some (.ins A.C_Instruction dx []) ∧ Q .non (upd H p (.ins A.C_Instruction dx (fs_Instruction a b c d e)))
theorem ok_Instruction_init (T : Txt K mg A) : FnOk P w K mg base CX0 1 A.f_Instruction_init A.d_Instruction_init ["self", "kind", "reads", "writes", "mem", "place"] (sp_Instruction_init A) := by
  refine T.F_Instruction_init.ok sc_Instruction_init (fun vs H Q E h => ?_) (fun cdv B outer s H vs Q E hr h => ?_)
  · obtain ⟨p, dx, a, b, c, d, e, rfl, _⟩ := h
    rfl
  · obtain ⟨p, dx, a, b, c, d, e, rfl, hp, k⟩ := h
    have cl_Instruction := T.cl_Instruction
    have a_Instruction_kind := T.a_Instruction_kind
    have a_Instruction_reads := T.a_Instruction_reads
    have a_Instruction_writes := T.a_Instruction_writes
    have a_Instruction_mem := T.a_Instruction_mem
    have a_Instruction_place := T.a_Instruction_place
    refine ⟨_, (pss_cons (ps_fld (pv 0) (pv 1) rfl) (pss_cons (ps_fld (pv 0) (pv 2) rfl) (pss_cons (ps_fld (pv 0) (pv 3) rfl) (pss_cons (ps_fld (pv 0) (pv 4) rfl) (pss_one (ps_fld (pv 0) (pv 5) rfl)))))), ?_⟩
    walk_at "rdh"
/-! ### Line -/
def sp_Line_begin (A : Adr) : Sp := fun vs H Q _ => ∃ p dx fs, vs = [.ref p] ∧ H p = some (.ins A.C_Line dx fs) ∧ (fs = [] ∨ ∃ a b c d, fs = fs_Line a b c d) ∧
  ∀ H' u kl bl, H' p = some (.ins A.C_Line dx (fs_Line (nI 1) (.ref u) (.ref kl) (.ref bl))) → H' u = some (.lst (natV (List.replicate 8 1))) → H' kl = some (.lst []) → H' bl = some (.lst []) → u ≠ kl → u ≠ bl → kl ≠ bl →
    H u = none → H kl = none → H bl = none → Keep [p] H H' → Q (.int 0) H'
theorem ok_Line_begin (T : Txt K mg A) : FnOk P w K mg base CX0 1 A.f_Line_begin A.d_Line_begin ["self"] (sp_Line_begin A) := by
  refine T.F_Line_begin.ok sc_Line_begin (fun vs H Q E h => ?_) (fun cdv B outer s H vs Q E hr h => ?_)
  · obtain ⟨p, dx, fs, rfl, _⟩ := h
    rfl
  · obtain ⟨p, dx, fs, rfl, hp, hfs, k⟩ := h
    have cl_Line := T.cl_Line
    have a_Line_width := T.a_Line_width
    have a_Line_units := T.a_Line_units
    have a_Line_kinds := T.a_Line_kinds
    have a_Line_block := T.a_Line_block
    refine ⟨_, (pss_cons (ps_fld (pv 0) pe_int rfl) (pss_cons (ps_fld (pv 0) (pe_op op_rep (pe_lst (pa_cons pe_int pa_nil)) (pe_gint (by rfl) T.c_CLASSES)) rfl) (pss_cons (ps_fld (pv 0) (pe_lst pa_nil) rfl) (pss_cons (ps_fld (pv 0) (pe_lst pa_nil) rfl) (pss_one (ps_ret (pe_gint (by rfl) T.c_DONE))))))), ?_⟩
    rcases hfs with rfl | ⟨a0, b0, c0, d0, rfl⟩
    · refine seq_step fun N hN => ?_
      walk_at "rdh"
      refine hN.go (seq_step fun N hN => ?_)
      walk_at "rdh"
      intro a a1 a2 a3 u u1 u2 u3 u4 u5
      walk_at "rdh"
      refine hN.go (seq_step fun N hN => ?_)
      walk_at "rdh"
      intro kl
      intros
      walk_at "rdh"
      refine hN.go (seq_step fun N hN => ?_)
      walk_at "rdh"
      intro bl
      intros
      walk_at "rdh"
      refine hN.go ?_
      walk_at "rd"
      refine k _ u kl bl ?_ ?_ ?_ ?_ ?_ ?_ ?_ ?_ ?_ ?_ ?_
      · walk_at "rdh"
        rfl
      · walk_at "rdh"
        rfl
      · walk_at "rdh"
      · walk_at "rdh"
      · walk_at "rdh"
      · walk_at "rdh"
      · walk_at "rdh"
      · walk_at "rdh"
      · walk_at "rdh"
      · walk_at "rdh"
      · intro b o e hb
        have hb1 : ¬ b = p := fun q => hb (by rw [q]; exact List.mem_singleton.mpr rfl)
        have nb : ∀ x, H x = none → ¬ b = x := fun x hx => ne_of_none e hx
        walk_at "rdh"
    · refine seq_step fun N hN => ?_
      walk_at "rdh"
      refine hN.go (seq_step fun N hN => ?_)
      walk_at "rdh"
      intro a a1 a2 a3 u u1 u2 u3 u4 u5
      walk_at "rdh"
      refine hN.go (seq_step fun N hN => ?_)
      walk_at "rdh"
      intro kl
      intros
      walk_at "rdh"
      refine hN.go (seq_step fun N hN => ?_)
      walk_at "rdh"
      intro bl
      intros
      walk_at "rdh"
      refine hN.go ?_
      walk_at "rd"
      refine k _ u kl bl ?_ ?_ ?_ ?_ ?_ ?_ ?_ ?_ ?_ ?_ ?_
      · walk_at "rdh"
        rfl
      · walk_at "rdh"
        rfl
      · walk_at "rdh"
      · walk_at "rdh"
      · walk_at "rdh"
      · walk_at "rdh"
      · walk_at "rdh"
      · walk_at "rdh"
      · walk_at "rdh"
      · walk_at "rdh"
      · intro b o e hb
        have hb1 : ¬ b = p := fun q => hb (by rw [q]; exact List.mem_singleton.mpr rfl)
        have nb : ∀ x, H x = none → ¬ b = x := fun x hx => ne_of_none e hx
        walk_at "rdh"
def sp_Line_init (A : Adr) : Sp := fun vs H Q _ => ∃ p dx, vs = [.ref p] ∧ H p = some (.ins A.C_Line dx []) ∧
  ∀ H' u kl bl, H' p = some (.ins A.C_Line dx (fs_Line (nI 1) (.ref u) (.ref kl) (.ref bl))) → H' u = some (.lst (natV (List.replicate 8 1))) → H' kl = some (.lst []) → H' bl = some (.lst []) → u ≠ kl → u ≠ bl → kl ≠ bl →
    H u = none → H kl = none → H bl = none → Keep [p] H H' → Q .non H'
theorem ok_Line_init (T : Txt K mg A) : FnOk P w K mg base CX0 2 A.f_Line_init A.d_Line_init ["self"] (sp_Line_init A) := by
  have G_Line_begin := ok_Line_begin (P := P) (w := w) (base := base) T
  refine T.F_Line_init.ok sc_Line_init (fun vs H Q E h => ?_) (fun cdv B outer s H vs Q E hr h => ?_)
  · obtain ⟨p, dx, rfl, _⟩ := h
    rfl
  · obtain ⟨p, dx, rfl, hp, k⟩ := h
    have cl_Line := T.cl_Line
    have a_Line_width := T.a_Line_width
    have a_Line_units := T.a_Line_units
    have a_Line_kinds := T.a_Line_kinds
    have a_Line_block := T.a_Line_block
    refine ⟨_, (pss_one (ps_expr (pe_meth0 (pv 0) T.cl_Line T.m_Line_begin G_Line_begin (hr.mono (by decide)) T.b_Line_begin .nil pass0))), ?_⟩
    have lm : ([] : List (Str × V)).lookup ("begin" : Str) = none := rfl
    walk_at "rdh"
    exact ⟨p, dx, _, rfl, hp, .inl rfl, fun H' u kl bl h1 h2 h3 h4 h5 h6 h7 h8 h9 h10 h11 => k H' u kl bl h1 h2 h3 h4 h5 h6 h7 h8 h9 h10 h11⟩
/-! ### one call of the specification upon a Line -/
def sp_Line_set_width (A : Adr) : Sp := fun vs H Q _ => ∃ (p : Addr) (n : Nat), vs = [.ref p, nI n] ∧ LineSp A p [] (.width n) H Q
theorem ok_Line_set_width (T : Txt K mg A) : FnOk P w K mg base CX0 2 A.f_Line_set_width A.d_Line_set_width ["self", "n"] (sp_Line_set_width A) := by
  have G_is_within := ok_is_within (P := P) (w := w) (base := base) T
  refine T.F_Line_set_width.ok sc_Line_set_width (fun vs H Q E h => ?_) (fun cdv B outer s H vs Q E hr h => ?_)
  · obtain ⟨p, n, rfl, _⟩ := h
    rfl
  · obtain ⟨p, n, rfl, I, F, st, ⟨u, kl, bl, dx, ks, bs, rfl, L⟩, wf, hR, k⟩ := h
    have cl_Line := T.cl_Line
    have a_Line_width := T.a_Line_width
    have a_Line_units := T.a_Line_units
    have a_Line_kinds := T.a_Line_kinds
    have a_Line_block := T.a_Line_block
    have hp := L.obj
    refine ⟨_, (pss_cons (ps_if (pt_not (pt_val (pe_call G_is_within (hr.mono (by decide)) (by rfl) T.g_is_within T.k_is_within T.b_is_within .nil pass0 (pa_cons (pv 1) (pa_cons (pe_gint (by rfl) T.c_MOST_WIDTH) pa_nil))))) (pss_one (ps_ret (pe_gint (by rfl) T.c_REFUSED))) pss_nil) (pss_cons (ps_fld (pv 0) (pv 1) rfl) (pss_one (ps_ret (pe_gint (by rfl) T.c_DONE))))), ?_⟩
    refine seq_step fun N hN => ?_
    unfold sp_is_within
    walk_at "rdh"
    by_cases hc : 1 ≤ (n : Int) ∧ (n : Int) ≤ 4
    · rw [if_neg (by rw [decide_eq_true hc]; exact Bool.noConfusion)]
      refine hN.go (seq_step fun N hN => ?_)
      walk_at "rdh"
      refine hN.go ?_
      walk_at "rd"
      have e : Sched.step st (.width n) = ({ st with width := n }, Sched.says 0) := if_pos (SM.within_iff.mpr (by omega))
      rw [e] at k
      exact k _ ⟨upd_keep (by simp), I, _, ⟨u, kl, bl, dx, ks, bs, rfl, L.setW n⟩, fun _ _ q => q, fun _ q _ _ => q, fun b hb => .inl hb⟩
    · rw [if_pos (decide_eq_false hc)]
      have e : Sched.step st (.width n) = (st, Sched.says (-1)) := if_neg (by rw [SM.within_iff]; omega)
      rw [e] at k
      exact k H (Out.same ⟨u, kl, bl, dx, ks, bs, rfl, L⟩)
end

theorem ixN_nat {n c : Nat} (h : c < n) : ixN n (c : Int) = some c := by
  unfold ixN
  rw [if_pos (by omega), if_pos (by omega)]
  rfl
theorem natV_set (l : List Nat) (c n : Nat) : (natV l).set c (nI n) = natV (l.set c n) := by
  unfold natV
  rw [List.map_set]
theorem natV_length (l : List Nat) : (natV l).length = l.length := by
  unfold natV
  rw [List.length_map]
theorem natV_get {l : List Nat} {i n : Nat} (h : l[i]? = some n) : (natV l)[i]? = some (nI n) := by
  unfold natV
  rw [List.getElem?_map, h]
  rfl
theorem Same.both {I H : Hp} {a : Addr} {o : HO} (s : Same I H) : Same (L2.upd I a o) (L2.upd H a o) := fun b u e => by
  by_cases h : b = a
  · subst h
    rw [upd_same] at e ⊢
    exact e
  · rw [upd_ne h] at e ⊢
    exact s b u e
theorem mem4 {p u kl bl b : Addr} {Pr : Addr → Prop} (h : b ∈ [p, u, kl, bl]) (h1 : Pr p) (h2 : Pr u) (h3 : Pr kl) (h4 : Pr bl) : Pr b := by
  simp only [List.mem_cons, List.not_mem_nil, or_false] at h
  rcases h with rfl | rfl | rfl | rfl <;> assumption
section
variable {P : Program} {w : World} {K : PySem.W.Frag} {mg : Str → Option Value} {base : Heap} {A : Adr}
def sp_Line_set_units (A : Adr) : Sp := fun vs H Q _ => ∃ (p : Addr) (c n : Nat), vs = [.ref p, nI c, nI n] ∧ LineSp A p [] (.units c n) H Q
theorem ok_Line_set_units (T : Txt K mg A) : FnOk P w K mg base CX0 2 A.f_Line_set_units A.d_Line_set_units ["self", "c", "n"] (sp_Line_set_units A) := by
  have G_is_within := ok_is_within (P := P) (w := w) (base := base) T
  refine T.F_Line_set_units.ok sc_Line_set_units (fun vs H Q E h => ?_) (fun cdv B outer s H vs Q E hr h => ?_)
  · obtain ⟨p, c, n, rfl, _⟩ := h
    rfl
  · obtain ⟨p, c, n, rfl, I, F, st, ⟨u, kl, bl, dx, ks, bs, rfl, L⟩, wf, hR, k⟩ := h
    have cl_Line := T.cl_Line
    have a_Line_width := T.a_Line_width
    have a_Line_units := T.a_Line_units
    have a_Line_kinds := T.a_Line_kinds
    have a_Line_block := T.a_Line_block
    have hp := L.obj
    have hu := L.lu
    refine ⟨_, (pss_cons (ps_if (PW.pt (pw_or (pt_cmpR op_ge (pv 1) (pe_gint (by rfl) T.c_CLASSES) (nomark _)) (pw_or1 (pt_not (pt_val (pe_call G_is_within (hr.mono (by decide)) (by rfl) T.g_is_within T.k_is_within T.b_is_within .nil pass0 (pa_cons (pv 2) (pa_cons (pe_gint (by rfl) T.c_MOST_UNITS) pa_nil)))))))) (pss_one (ps_ret (pe_gint (by rfl) T.c_REFUSED))) pss_nil) (pss_cons (ps_asg (pv 2) (pg_sub (pe_fld (pv 0) rfl) (pv 1) set_list)) (pss_one (ps_ret (pe_gint (by rfl) T.c_DONE))))), ?_⟩
    refine seq_step fun N hN => ?_
    unfold sp_is_within
    walk_at "rdh"
    by_cases hc : (8 : Int) ≤ (c : Int)
    · rw [if_pos hc]
      have e : Sched.step st (.units c n) = (st, Sched.says (-1)) := if_neg (by rintro ⟨q, _⟩; have : c < 8 := q; omega)
      rw [e] at k
      exact k H (Out.same ⟨u, kl, bl, dx, ks, bs, rfl, L⟩)
    · rw [if_neg hc]
      by_cases hn : 1 ≤ (n : Int) ∧ (n : Int) ≤ 4
      · rw [if_neg (by rw [decide_eq_true hn]; exact Bool.noConfusion)]
        refine hN.go (seq_step fun N hN => ?_)
        walk_at "rdh"
        refine ⟨u, _, _, c, rfl, rfl, hu, ixN_nat (by rw [natV_length, wf.ulen]; omega), ?_⟩
        refine hN.go ?_
        walk_at "rd"
        have e : Sched.step st (.units c n) = ({ st with units := st.units.set c n }, Sched.says 0) := if_pos ⟨(by show c < 8; omega), SM.within_iff.mpr (by omega)⟩
        rw [e] at k
        rw [natV_set]
        exact k _ ⟨upd_keep (by simp), I, _, ⟨u, kl, bl, dx, ks, bs, rfl, L.setU _⟩, fun _ _ q => q, fun _ q _ _ => q, fun b hb => .inl hb⟩
      · rw [if_pos (decide_eq_false hn)]
        have e : Sched.step st (.units c n) = (st, Sched.says (-1)) := if_neg (by rw [SM.within_iff]; rintro ⟨_, q⟩; omega)
        rw [e] at k
        exact k H (Out.same ⟨u, kl, bl, dx, ks, bs, rfl, L⟩)
def sp_Line_add_kind (A : Adr) : Sp := fun vs H Q _ => ∃ (p : Addr) (c b l : Nat), vs = [.ref p, nI c, nI b, nI l] ∧ LineSp A p [] (.kind c b l) H Q
theorem ok_Line_add_kind (T : Txt K mg A) : FnOk P w K mg base CX0 3 A.f_Line_add_kind A.d_Line_add_kind ["self", "c", "busy", "latency"] (sp_Line_add_kind A) := by
  have G_Kind_init := ok_Kind_init (P := P) (w := w) (base := base) T
  have G_is_within := ok_is_within (P := P) (w := w) (base := base) T
  refine T.F_Line_add_kind.ok sc_Line_add_kind (fun vs H Q E h => ?_) (fun cdv B outer s H vs Q E hr h => ?_)
  · obtain ⟨p, c, b, l, rfl, _⟩ := h
    rfl
  · obtain ⟨p, c, b, l, rfl, I, F, st, ⟨u, kl, bl, dx, ks, bs, rfl, L⟩, wf, hR, k⟩ := h
    have cl_Line := T.cl_Line
    have a_Line_width := T.a_Line_width
    have a_Line_units := T.a_Line_units
    have a_Line_kinds := T.a_Line_kinds
    have a_Line_block := T.a_Line_block
    have hp := L.obj
    have hu := L.lk
    refine ⟨_, (pss_cons (ps_if (PW.pt (pw_or (pt_cmpR op_ge (pe_callB len_lst (by rfl) T.n_len PySem.boot_len (pa_cons (pe_fld (pv 0) rfl) pa_nil)) (pe_gint (by rfl) T.c_MOST_KINDS) (nomark _)) (pw_or1 (pt_cmpR op_ge (pv 1) (pe_gint (by rfl) T.c_CLASSES) (nomark _))))) (pss_one (ps_ret (pe_gint (by rfl) T.c_REFUSED))) pss_nil) (pss_cons (ps_if (PW.pt (pw_or (pt_not (pt_val (pe_call G_is_within (hr.mono (by decide)) (by rfl) T.g_is_within T.k_is_within T.b_is_within .nil pass0 (pa_cons (pv 2) (pa_cons (pe_gint (by rfl) T.c_MOST_BUSY) pa_nil))))) (pw_or1 (pt_not (pt_val (pe_call G_is_within (hr.mono (by decide)) (by rfl) T.g_is_within T.k_is_within T.b_is_within .nil pass0 (pa_cons (pv 3) (pa_cons (pe_gint (by rfl) T.c_MOST_LATENCY) pa_nil)))))))) (pss_one (ps_ret (pe_gint (by rfl) T.c_REFUSED))) pss_nil) (pss_cons (ps_expr (pe_bm PySem.F.plainAttrs_list PySem.F.slot_list_append PySem.F.type_list_append mt_append (pe_fld (pv 0) rfl) (pa_cons (pe_make T.mk_Kind G_Kind_init (hr.mono (by decide)) (by rfl) T.g_Kind T.b_Kind_init .nil pass0 (pa_cons (pv 1) (pa_cons (pv 2) (pa_cons (pv 3) pa_nil)))) pa_nil))) (pss_one (ps_ret (pe_op op_sub (pe_callB len_lst (by rfl) T.n_len PySem.boot_len (pa_cons (pe_fld (pv 0) rfl) pa_nil)) pe_int)))))), ?_⟩
    refine seq_step fun N hN => ?_
    walk_at "rdh"
    have hkl := L.ks.length
    have no : ∀ (q : ¬ (st.kinds.length < 16 ∧ c < 8 ∧ (1 ≤ b ∧ b ≤ 16) ∧ (1 ≤ l ∧ l ≤ 32))), Sched.step st (.kind c b l) = (st, Sched.says (-1)) := fun q => if_neg (by rintro ⟨q1, q2, q3, q4⟩; exact q ⟨q1, q2, SM.within_iff.mp q3, SM.within_iff.mp q4⟩)
    by_cases c1 : (16 : Int) ≤ (ks.length : Int)
    · rw [if_pos c1]
      rw [no (by omega)] at k
      exact k H (Out.same ⟨u, kl, bl, dx, ks, bs, rfl, L⟩)
    rw [if_neg c1]
    by_cases c2 : (8 : Int) ≤ (c : Int)
    · rw [if_pos c2]
      rw [no (by omega)] at k
      exact k H (Out.same ⟨u, kl, bl, dx, ks, bs, rfl, L⟩)
    rw [if_neg c2]
    refine hN.go (seq_step fun N hN => ?_)
    unfold sp_is_within
    walk_at "rdh"
    by_cases c3 : ¬ (1 ≤ (b : Int) ∧ (b : Int) ≤ 16)
    · rw [if_pos (decide_eq_false c3)]
      rw [no (by omega)] at k
      exact k H (Out.same ⟨u, kl, bl, dx, ks, bs, rfl, L⟩)
    have c3 := Decidable.not_not.mp c3
    rw [if_neg (by rw [decide_eq_true c3]; exact Bool.noConfusion)]
    by_cases c4 : ¬ (1 ≤ (l : Int) ∧ (l : Int) ≤ 32)
    · rw [if_pos (decide_eq_false c4)]
      rw [no (by omega)] at k
      exact k H (Out.same ⟨u, kl, bl, dx, ks, bs, rfl, L⟩)
    have c4 := Decidable.not_not.mp c4
    rw [if_neg (by rw [decide_eq_true c4]; exact Bool.noConfusion)]
    refine hN.go (seq_step fun N hN => ?_)
    unfold sp_Kind_init
    walk_at "rdh"
    intro x dx' hx hd hxd
    have ix : I x = none := Same.free L.sub hx
    have s1 : Same H (upd H dx' (.own x)) := Same.new hd
    have hx1 : upd H dx' (.own x) x = none := by rw [upd_ne (fun q => hxd q.symm)]; exact hx
    have s2 : Same H (upd (upd H dx' (.own x)) x (.ins A.C_Kind dx' (fs_Kind (nI c) (nI b) (nI l)))) := Same.trans s1 (Same.new hx1)
    have n4 : ∀ y, y ∈ [p, u, kl, bl] → upd I x (.ins A.C_Kind dx' (fs_Kind (nI c) (nI b) (nI l))) y = none := fun y hy =>
      mem4 (Pr := fun y => upd I x (.ins A.C_Kind dx' (fs_Kind (nI c) (nI b) (nI l))) y = none) hy (by rw [upd_ne (ne_of_none L.obj hx)]; exact L.ip) (by rw [upd_ne (ne_of_none L.lu hx)]; exact L.iu) (by rw [upd_ne (ne_of_none L.lk hx)]; exact L.ik) (by rw [upd_ne (ne_of_none L.lb hx)]; exact L.ib)
    have L2 := (L.grow (I' := upd I x (.ins A.C_Kind dx' (fs_Kind (nI c) (nI b) (nI l)))) (Same.new ix) s2 (Same.both (Same.trans L.sub s1)) n4).addK (k := ⟨c, b, l⟩) ⟨dx', upd_same⟩
    refine ⟨_, s2 _ _ hu, by rw [List.length_map]; omega, hN.go ?_⟩
    have kp : Keep [p, u, kl, bl] H (upd (upd (upd H dx' (.own x)) x (.ins A.C_Kind dx' (fs_Kind (nI c) (nI b) (nI l)))) kl (.lst (ks.map V.ref ++ [.ref x]))) := Keep.trans (Same.keep s2) (upd_keep (by simp))
    generalize upd (upd (upd H dx' (.own x)) x (.ins A.C_Kind dx' (fs_Kind (nI c) (nI b) (nI l)))) kl (.lst (ks.map V.ref ++ [.ref x])) = H3 at L2 kp ⊢
    have hp3 := L2.obj
    have hk3 := L2.lk
    walk_at "rdh"
    have e : Sched.step st (.kind c b l) = ({ st with kinds := st.kinds ++ [⟨c, b, l⟩] }, Sched.says (st.kinds.length : Nat)) := if_pos ⟨(by show st.kinds.length < 16; omega), (by show c < 8; omega), SM.within_iff.mpr (by omega), SM.within_iff.mpr (by omega)⟩
    rw [e] at k
    have k := k H3 ⟨kp, _, _, ⟨u, kl, bl, dx, _, bs, rfl, L2⟩, Same.new ix, fun y hy hs _ => ?_, fun b hb => .inl hb⟩
    · have e2 : (((ks ++ [x]).length : Nat) : Int) - 1 = (st.kinds.length : Int) := by rw [List.length_append, List.length_singleton]; omega
      rw [e2]
      exact k
    · rw [upd_ne (fun q => by rw [q, hx] at hs; cases hs)]
      exact hy
/-! ### add -/
theorem atI_map {l : List Addr} {i : Nat} {a : Addr} (h : l[i]? = some a) : atI (l.map V.ref) (i : Int) = some (.ref a) := atI_nat (by rw [List.getElem?_map, h]; rfl)
def sp_are_registers : Sp := fun vs H Q _ => ∃ (p : Addr) (l : List Nat) (m : Nat), vs = [.ref p, nI m] ∧ H p = some (.lst (natV l)) ∧ l.length ≤ 1000000 ∧ ∀ H', Same H H' → Q (.bl (decide (l.length ≤ m ∧ ∀ r ∈ l, r < 32))) H'
theorem ok_are_registers (T : Txt K mg A) : FnOk P w K mg base CX0 1 A.f_are_registers A.d_are_registers ["row", "most"] sp_are_registers := by
  refine T.F_are_registers.ok sc_are_registers (fun vs H Q E h => ?_) (fun cdv B outer s H vs Q E hr h => ?_)
  · obtain ⟨p, l, m, rfl, _⟩ := h
    rfl
  · obtain ⟨p, l, m, rfl, hp, hl, k⟩ := h
    refine ⟨_, (pss_one (ps_ret (pe_and (pe_cmpR op_le (pe_callB len_lst (by rfl) T.n_len PySem.boot_len (pa_cons (pv 0) pa_nil)) (pv 1) (nomark _)) (pe_one (pe_callB (all_lst rfl) (by rfl) T.n_all PyProof.Rows.boot_all (pa_cons (pe_lc rfl sc_are_registers.nd (pi_list (pv 0)) (blk_of (own := [("r", 2)]) rfl (by rfl)) (fun _ _ _ _ _ => (pg_name (i := 2) sc_are_registers.nd rfl (Or.inl rfl))) (fun _ _ _ _ _ => pts_nil) (fun _ _ _ _ _ => (pe_cmpR op_lt (pv 2) (pe_gint (by rfl) T.c_REGISTERS) (nomark _)))) pa_nil)))))), ?_⟩
    walk_at "rdh"
    rw [natV_length]
    by_cases hm : ¬ (l.length : Int) ≤ (m : Int)
    · rw [if_neg hm]
      have e : decide (l.length ≤ m ∧ ∀ r ∈ l, r < 32) = false := decide_eq_false (by omega)
      rw [e] at k
      exact k H fun _ _ q => q
    · have hm := Decidable.not_not.mp hm
      rw [if_pos hm]
      have h4 : l.length ≤ 1000000 := hl
      refine lc_list (fun _ => true) (fun v => match v with | .int i => .bl (decide (i < 32)) | _ => .bl false) (a := p) (xs := natV l) (fun R q => ⟨_, rfl, q⟩) hp (by rw [natV_length]; exact h4) (fun x => rfl) (fun x hx H1 R s1 q => q H1 fun _ _ z => z) (fun x hx _ H1 R s1 q => ?_) fun D H' hD hD' s1 => ?_
      · obtain ⟨n, hn, rfl⟩ := List.mem_map.mp hx
        walk_at "rd"
        exact q H1 fun _ _ z => z
      · refine ⟨D, rfl, l.map fun (n : Nat) => decide ((n : Int) < 32), ?_, ?_⟩
        · rw [hD', List.filter_eq_self.mpr (fun _ _ => rfl)]
          unfold natV
          rw [List.map_map, List.map_map]
          rfl
        · have e : decide (l.length ≤ m ∧ ∀ r ∈ l, r < 32) = (l.map fun (n : Nat) => decide ((n : Int) < 32)).all id := by
            rw [Bool.eq_iff_iff, decide_eq_true_iff, List.all_map, List.all_eq_true]
            constructor
            · rintro ⟨_, q⟩ r hr
              have := q r hr
              exact decide_eq_true (by omega)
            · intro q
              refine ⟨by omega, fun r hr => ?_⟩
              have := of_decide_eq_true (q r hr)
              omega
          rw [e] at k
          exact k H' s1
end

/-- what is given away never changes any more -/
def addI (I H : Hp) (R : List Addr) : Hp := fun b => if b ∈ R then H b else I b
theorem addI_in {I H : Hp} {R : List Addr} {b : Addr} (h : b ∈ R) : addI I H R b = H b := if_pos h
theorem addI_out {I H : Hp} {R : List Addr} {b : Addr} (h : b ∉ R) : addI I H R b = I b := if_neg h
theorem addI_sub {I H : Hp} {R : List Addr} (s : Same I H) : Same I (addI I H R) := fun b o e => by
  by_cases h : b ∈ R
  · rw [addI_in h]
    exact s b o e
  · rw [addI_out h]
    exact e
theorem addI_same {I H : Hp} {R : List Addr} (s : Same I H) : Same (addI I H R) H := fun b o e => by
  by_cases h : b ∈ R
  · rw [addI_in h] at e
    exact e
  · rw [addI_out h] at e
    exact s b o e
section
variable {P : Program} {w : World} {K : PySem.W.Frag} {mg : Str → Option Value} {base : Heap} {A : Adr}
def sp_Line_add (A : Adr) : Sp := fun vs H Q _ => ∃ (p r w : Addr) (kn m pl : Nat) (rs ws : List Nat), vs = [.ref p, nI kn, .ref r, .ref w, nI m, nI pl] ∧ H r = some (.lst (natV rs)) ∧ H w = some (.lst (natV ws)) ∧ rs.length ≤ 1000000 ∧ ws.length ≤ 1000000 ∧ LineSp A p [r, w] (.add kn rs ws m pl) H Q
theorem ok_Line_add (T : Txt K mg A) : FnOk P w K mg base CX0 3 A.f_Line_add A.d_Line_add ["self", "kind", "reads", "writes", "mem", "place"] (sp_Line_add A) := by
  have G_Instruction_init := ok_Instruction_init (P := P) (w := w) (base := base) T
  have G_are_registers := ok_are_registers (P := P) (w := w) (base := base) T
  have G_is_memory_use := ok_is_memory_use (P := P) (w := w) (base := base) T
  refine T.F_Line_add.ok sc_Line_add (fun vs H Q E h => ?_) (fun cdv B outer s H vs Q E hr h => ?_)
  · obtain ⟨p, r, w, kn, m, pl, rs, ws, rfl, _⟩ := h
    rfl
  · obtain ⟨p, r, w, kn, m, pl, rs, ws, rfl, hr0, hw0, hrl, hwl, I, F, st, ⟨u, kl, bl, dx, ks, bs, rfl, L⟩, wf, hR, k⟩ := h
    have cl_Line := T.cl_Line
    have a_Line_width := T.a_Line_width
    have a_Line_units := T.a_Line_units
    have a_Line_kinds := T.a_Line_kinds
    have a_Line_block := T.a_Line_block
    have hp := L.obj
    have hk := L.lk
    have hb := L.lb
    have hkl := L.ks.length
    have hbl := L.bs.length
    refine ⟨_, (pss_cons (ps_if (PW.pt (pw_or (pt_cmpR op_ge (pe_callB len_lst (by rfl) T.n_len PySem.boot_len (pa_cons (pe_fld (pv 0) rfl) pa_nil)) (pe_gint (by rfl) T.c_MOST_INSTRUCTIONS) (nomark _)) (pw_or1 (pt_cmpR op_ge (pv 1) (pe_callB len_lst (by rfl) T.n_len PySem.boot_len (pa_cons (pe_fld (pv 0) rfl) pa_nil)) (nomark _))))) (pss_one (ps_ret (pe_gint (by rfl) T.c_REFUSED))) pss_nil) (pss_cons (ps_if (PW.pt (pw_or (pt_not (pt_val (pe_call G_are_registers (hr.mono (by decide)) (by rfl) T.g_are_registers T.k_are_registers T.b_are_registers .nil pass0 (pa_cons (pv 2) (pa_cons (pe_gint (by rfl) T.c_MOST_READS) pa_nil))))) (pw_or1 (pt_not (pt_val (pe_call G_are_registers (hr.mono (by decide)) (by rfl) T.g_are_registers T.k_are_registers T.b_are_registers .nil pass0 (pa_cons (pv 3) (pa_cons (pe_gint (by rfl) T.c_MOST_WRITES) pa_nil)))))))) (pss_one (ps_ret (pe_gint (by rfl) T.c_REFUSED))) pss_nil) (pss_cons (ps_if (pt_not (pt_val (pe_call G_is_memory_use (hr.mono (by decide)) (by rfl) T.g_is_memory_use T.k_is_memory_use T.b_is_memory_use .nil pass0 (pa_cons (pv 4) (pa_cons (pv 5) pa_nil))))) (pss_one (ps_ret (pe_gint (by rfl) T.c_REFUSED))) pss_nil) (pss_cons (ps_expr (pe_bm PySem.F.plainAttrs_list PySem.F.slot_list_append PySem.F.type_list_append mt_append (pe_fld (pv 0) rfl) (pa_cons (pe_make T.mk_Instruction G_Instruction_init (hr.mono (by decide)) (by rfl) T.g_Instruction T.b_Instruction_init .nil pass0 (pa_cons (pe_ix ix_lst (pe_fld (pv 0) rfl) (pv 1) (fun _ _ => rfl)) (pa_cons (pv 2) (pa_cons (pv 3) (pa_cons (pv 4) (pa_cons (pv 5) pa_nil)))))) pa_nil))) (pss_one (ps_ret (pe_op op_sub (pe_callB len_lst (by rfl) T.n_len PySem.boot_len (pa_cons (pe_fld (pv 0) rfl) pa_nil)) pe_int))))))), ?_⟩
    have no : ∀ (q : ¬ (st.block.length < 6 ∧ kn < st.kinds.length ∧ rs.length ≤ 4 ∧ ws.length ≤ 2 ∧ (∀ z ∈ rs, z < 32) ∧ (∀ z ∈ ws, z < 32) ∧ m ≤ 2 ∧ (m = 0 ∨ pl < 16 ∨ pl = 255))), Sched.step st (.add kn rs ws m pl) = (st, Sched.says (-1)) := fun q => by
      unfold Sched.step
      dsimp only
      split
      · rfl
      · rename_i x hx
        obtain ⟨y, hy, rfl, h1, h2, h3, h4, h5, h6⟩ := SM.insOf_some hx
        refine if_neg fun hlt => q ⟨hlt, (List.getElem?_eq_some_iff.mp hy).1, h1, h2, h3, h4, h5, h6⟩
    refine seq_step fun N hN => ?_
    walk_at "rdh"
    by_cases c1 : (6 : Int) ≤ (st.block.length : Int)
    · rw [if_pos c1]
      rw [no (by omega)] at k
      exact k H (Out.same ⟨u, kl, bl, dx, ks, bs, rfl, L⟩)
    rw [if_neg c1]
    by_cases c2 : (st.kinds.length : Int) ≤ (kn : Int)
    · rw [if_pos c2]
      rw [no (by omega)] at k
      exact k H (Out.same ⟨u, kl, bl, dx, ks, bs, rfl, L⟩)
    rw [if_neg c2]
    refine hN.go (seq_step fun N hN => ?_)
    walk_at "rd"
    refine ⟨r, rs, 4, rfl, hr0, hrl, fun H1 s1 => ?_⟩
    walk_at "rd"
    have fin : ∀ {H1 : Hp}, Same H H1 → ¬ (st.block.length < 6 ∧ kn < st.kinds.length ∧ rs.length ≤ 4 ∧ ws.length ≤ 2 ∧ (∀ z ∈ rs, z < 32) ∧ (∀ z ∈ ws, z < 32) ∧ m ≤ 2 ∧ (m = 0 ∨ pl < 16 ∨ pl = 255)) → Q (V.int (-1)) H1 := fun {H1} s1 q => by
      rw [no q] at k
      exact k H1 ⟨Same.keep s1, I, _, LineAt.same ⟨u, kl, bl, dx, ks, bs, rfl, L⟩ s1, fun _ _ z => z, fun _ z _ _ => z, fun b hb => .inl hb⟩
    by_cases c3 : ¬ (rs.length ≤ 4 ∧ ∀ z ∈ rs, z < 32)
    · rw [if_pos (decide_eq_false c3)]
      exact fin s1 fun q => c3 ⟨q.2.2.1, q.2.2.2.2.1⟩
    have c3 := Decidable.not_not.mp c3
    rw [if_neg (by rw [decide_eq_true c3]; exact Bool.noConfusion)]
    refine ⟨w, ws, 2, rfl, s1 _ _ hw0, hwl, fun H2 s2 => ?_⟩
    have s2 := Same.trans s1 s2
    walk_at "rd"
    by_cases c4 : ¬ (ws.length ≤ 2 ∧ ∀ z ∈ ws, z < 32)
    · rw [if_pos (decide_eq_false c4)]
      exact fin s2 fun q => c4 ⟨q.2.2.2.1, q.2.2.2.2.2.1⟩
    have c4 := Decidable.not_not.mp c4
    rw [if_neg (by rw [decide_eq_true c4]; exact Bool.noConfusion)]
    refine hN.go (seq_step fun N hN => ?_)
    walk_at "rd"
    refine ⟨m, pl, rfl, ?_⟩
    walk_at "rd"
    by_cases c5 : ¬ (m = 0 ∨ (m ≤ 2 ∧ (pl < 16 ∨ pl = 255)))
    · rw [if_pos (decide_eq_false c5)]
      exact fin s2 fun q => c5 (by omega)
    have c5 := Decidable.not_not.mp c5
    rw [if_neg (by rw [decide_eq_true c5]; exact Bool.noConfusion)]
    refine hN.go (seq_step fun N hN => ?_)
    have hp2 := s2 _ _ hp
    have hk2 := s2 _ _ hk
    have hb2 := s2 _ _ hb
    unfold sp_Instruction_init
    walk_at "rdh"
    obtain ⟨kd, hkd⟩ : ∃ kd, st.kinds[kn]? = some kd := ⟨_, List.getElem?_eq_getElem (by omega)⟩
    obtain ⟨kp, hkp, hKA⟩ := L.ks.get hkd
    refine ⟨.ref kp, atI_map hkp, fun x dx' hx hd hxd => ?_⟩
    have outR : ∀ y, y ∈ [p, u, kl, bl] → y ∉ [r, w] := fun y hy q => hR y q hy
    have L0 := L.grow (I' := addI I H2 [r, w]) (addI_sub (Same.trans L.sub s2)) s2 (addI_same (Same.trans L.sub s2)) fun y hy => by
      rw [addI_out (outR y hy)]
      exact mem4 (Pr := fun y => I y = none) hy L.ip L.iu L.ik L.ib
    have ix : addI I H2 [r, w] x = none := Same.free L0.sub hx
    have s3 : Same H2 (upd H2 dx' (.own x)) := Same.new hd
    have hx1 : upd H2 dx' (.own x) x = none := by rw [upd_ne (fun q => hxd q.symm)]; exact hx
    have s4 : Same H2 (upd (upd H2 dx' (.own x)) x (.ins A.C_Instruction dx' (fs_Instruction (.ref kp) (.ref r) (.ref w) (nI m) (nI pl)))) := Same.trans s3 (Same.new hx1)
    have n4 : ∀ y, y ∈ [p, u, kl, bl] → upd (addI I H2 [r, w]) x (.ins A.C_Instruction dx' (fs_Instruction (.ref kp) (.ref r) (.ref w) (nI m) (nI pl))) y = none := fun y hy =>
      mem4 (Pr := fun y => upd (addI I H2 [r, w]) x (.ins A.C_Instruction dx' (fs_Instruction (.ref kp) (.ref r) (.ref w) (nI m) (nI pl))) y = none) hy (by rw [upd_ne (ne_of_none L0.obj hx)]; exact L0.ip) (by rw [upd_ne (ne_of_none L0.lu hx)]; exact L0.iu) (by rw [upd_ne (ne_of_none L0.lk hx)]; exact L0.ik) (by rw [upd_ne (ne_of_none L0.lb hx)]; exact L0.ib)
    have sI : Same (addI I H2 [r, w]) (upd (addI I H2 [r, w]) x (.ins A.C_Instruction dx' (fs_Instruction (.ref kp) (.ref r) (.ref w) (nI m) (nI pl)))) := Same.new ix
    have hr2 : addI I H2 [r, w] r = some (.lst (natV rs)) := by rw [addI_in (by simp)]; exact s2 _ _ hr0
    have hw2 : addI I H2 [r, w] w = some (.lst (natV ws)) := by rw [addI_in (by simp)]; exact s2 _ _ hw0
    have hKA : KindAt A (addI I H2 [r, w]) kp kd := hKA.mono (addI_sub (Same.trans L.sub s2))
    have L2 := (L0.grow sI s4 (Same.both (Same.trans L0.sub s3)) n4).addB (k := ⟨kd, rs, ws, m, pl⟩) ⟨dx', kp, r, w, upd_same, hKA.mono sI, sI _ _ hr2, sI _ _ hw2⟩
    refine ⟨_, s4 _ _ hb2, by rw [List.length_map]; omega, hN.go ?_⟩
    have kp4 : Keep [p, u, kl, bl] H (upd (upd (upd H2 dx' (.own x)) x (.ins A.C_Instruction dx' (fs_Instruction (.ref kp) (.ref r) (.ref w) (nI m) (nI pl)))) bl (.lst (bs.map V.ref ++ [.ref x]))) := Keep.trans (Same.keep (Same.trans s2 s4)) (upd_keep (by simp))
    generalize upd (upd (upd H2 dx' (.own x)) x (.ins A.C_Instruction dx' (fs_Instruction (.ref kp) (.ref r) (.ref w) (nI m) (nI pl)))) bl (.lst (bs.map V.ref ++ [.ref x])) = H3 at L2 kp4 ⊢
    have hp3 := L2.obj
    have hk3 := L2.lb
    walk_at "rdh"
    have e : Sched.step st (.add kn rs ws m pl) = ({ st with block := st.block ++ [⟨kd, rs, ws, m, pl⟩] }, Sched.says (st.block.length : Nat)) := by
      have e0 : Sched.insOf st kn rs ws m pl = some ⟨kd, rs, ws, m, pl⟩ := by
        unfold Sched.insOf
        rw [hkd]
        refine if_pos ⟨c3.1, c4.1, ?_, ?_, (by omega), (by show m = 0 ∨ pl < 16 ∨ pl = 255; omega)⟩
        · exact List.all_eq_true.mpr fun z hz => decide_eq_true (c3.2 z hz)
        · exact List.all_eq_true.mpr fun z hz => decide_eq_true (c4.2 z hz)
      show (match Sched.insOf st kn rs ws m pl with
        | none => (st, Sched.says (-1))
        | some x => if st.block.length < Sched.BLOCK then ({ st with block := st.block ++ [x] }, Sched.says (st.block.length : Nat)) else (st, Sched.says (-1))) = _
      rw [e0]
      exact if_pos (by show st.block.length < 6; omega)
    rw [e] at k
    have k := k H3 ⟨kp4, _, _, ⟨u, kl, bl, dx, ks, _, rfl, L2⟩, Same.trans (addI_sub (Same.trans L.sub s2)) sI, fun y hy hs hn => ?_, fun b hb => .inl hb⟩
    · have e2 : (((bs ++ [x]).length : Nat) : Int) - 1 = (st.block.length : Int) := by rw [List.length_append, List.length_singleton]; omega
      rw [e2]
      exact k
    · have hyx : y ≠ x := fun q => by
        rw [q] at hs
        cases z : H x with
        | none => rw [z] at hs; cases hs
        | some o => rw [s2 _ _ z] at hx; cases hx
      rw [upd_ne hyx, addI_out hn]
      exact hy
end

theorem sql_upd {K : PySem.W.Frag} {H : Hp} {a r C dx : Addr} {fs : List (Str × V)} {xs : List V} {o : HO} (h : SqL K H a xs) (hr : H r = some (.ins C dx fs)) : SqL K (upd H r o) a xs := by
  rcases h with (h | ⟨ob, h⟩) | h
  · exact .inl (.inl (by rw [upd_ne (ne_of h hr (by intro z; cases z))]; exact h))
  · exact .inl (.inr ⟨ob, by rw [upd_ne (ne_of h hr (by intro z; cases z))]; exact h⟩)
  · exact .inr h
theorem drop_get {l t : List Int} {k : Nat} {z : Int} (h : l.drop k = z :: t) : l[k]? = some z ∧ l.drop (k + 1) = t ∧ k < l.length := by
  have h1 : (l.drop k)[0]? = some z := by rw [h]; rfl
  rw [List.getElem?_drop] at h1
  have h2 : l[k]? = some z := h1
  refine ⟨h2, ?_, (List.getElem?_eq_some_iff.mp h2).1⟩
  have h3 : (l.drop k).drop 1 = t := by rw [h]; rfl
  rw [List.drop_drop] at h3
  exact h3
theorem drop_app {l x t : List Int} {k : Nat} (h : l.drop k = x ++ t) : l.drop (k + x.length) = t := by
  have h3 : (l.drop k).drop x.length = t := by rw [h]; exact List.drop_left
  rw [List.drop_drop] at h3
  exact h3
theorem cut_row {l t : List Int} {k : Nat} {ns : List Nat} (h : l.drop (k + 1) = Sched.ints ns ++ t) : cutV (l.map V.int) (some ((k + 1 : Nat) : Int)) (some ((k + 1 + ns.length : Nat) : Int)) = natV ns := by
  have hl : l.length - (k + 1) = ns.length + t.length := by
    rw [← List.length_drop, h, List.length_append]
    unfold Sched.ints
    rw [List.length_map]
  unfold cutV
  rw [HT.sIx_nat, HT.sIx_nat, List.length_map]
  by_cases hk : k + 1 ≤ l.length
  · rw [Nat.min_eq_left hk, Nat.min_eq_left (by omega), ← List.map_drop, h, ← List.map_take, show k + 1 + ns.length - (k + 1) = ns.length by omega, List.take_left' (by unfold Sched.ints; rw [List.length_map])]
    unfold natV Sched.ints
    rw [List.map_map]
    rfl
  · have e : ns = [] := List.length_eq_zero_iff.mp (by omega)
    subst e
    rw [show min (k + 1 + ([] : List Nat).length) l.length - min (k + 1) l.length = 0 by simp, List.take_zero]
    rfl
section
variable {P : Program} {w : World} {K : PySem.W.Frag} {mg : Str → Option Value} {base : Heap} {A : Adr}
abbrev rObj (A : Adr) (dx a : Addr) (k : Nat) : HO := .ins A.C_Reader dx (fs_Reader (.ref a) (nI k))
def sp_Reader_init (A : Adr) : Sp := fun vs H Q _ => ∃ r dx a, vs = [.ref r, .ref a] ∧ H r = some (.ins A.C_Reader dx []) ∧ Q .non (upd H r (rObj A dx a 0))
theorem ok_Reader_init (T : Txt K mg A) : FnOk P w K mg base CX0 1 A.f_Reader_init A.d_Reader_init ["self", "numbers"] (sp_Reader_init A) := by
  refine T.F_Reader_init.ok sc_Reader_init (fun vs H Q E h => ?_) (fun cdv B outer s H vs Q E hr h => ?_)
  · obtain ⟨r, dx, a, rfl, _⟩ := h
    rfl
  · obtain ⟨r, dx, a, rfl, hp, k⟩ := h
    have cl_Reader := T.cl_Reader
    have a_Reader_numbers := T.a_Reader_numbers
    have a_Reader_at := T.a_Reader_at
    refine ⟨_, (pss_cons (ps_fld (pv 0) (pv 1) rfl) (pss_one (ps_fld (pv 0) pe_int rfl))), ?_⟩
    walk_at "rdh"
    exact k
def sp_Reader_has_more (K : PySem.W.Frag) (A : Adr) : Sp := fun vs H Q _ => ∃ (r dx a : Addr) (k : Nat) (l : List Int), vs = [.ref r] ∧ H r = some (rObj A dx a k) ∧ SqL K H a (l.map V.int) ∧ Q (.bl (decide (k < l.length))) H
theorem ok_Reader_has_more (T : Txt K mg A) : FnOk P w K mg base CX0 1 A.f_Reader_has_more A.d_Reader_has_more ["self"] (sp_Reader_has_more K A) := by
  refine T.F_Reader_has_more.ok sc_Reader_has_more (fun vs H Q E h => ?_) (fun cdv B outer s H vs Q E hr h => ?_)
  · obtain ⟨r, dx, a, k, l, rfl, _⟩ := h
    rfl
  · obtain ⟨r, dx, a, k, l, rfl, hp, ha, q⟩ := h
    have cl_Reader := T.cl_Reader
    have a_Reader_numbers := T.a_Reader_numbers
    have a_Reader_at := T.a_Reader_at
    refine ⟨_, (pss_one (ps_ret (pe_cmpR op_lt (pe_fld (pv 0) rfl) (pe_callB call_len_seq (by rfl) T.n_len PySem.boot_len (pa_cons (pe_fld (pv 0) rfl) pa_nil)) (nomark _)))), ?_⟩
    walk_at "rdh"
    refine ⟨_, .inl ha, ?_⟩
    have e : decide ((k : Int) < ((l.map V.int).length : Nat)) = decide (k < l.length) := by rw [List.length_map]; exact decide_eq_decide.mpr (by omega)
    rw [e]
    exact q
def sp_Reader_number (K : PySem.W.Frag) (A : Adr) : Sp := fun vs H Q _ => ∃ (r dx a : Addr) (k : Nat) (l : List Int) (z : Int), vs = [.ref r] ∧ H r = some (rObj A dx a k) ∧ SqL K H a (l.map V.int) ∧ l[k]? = some z ∧ Q (.int z) (upd H r (rObj A dx a (k + 1)))
theorem ok_Reader_number (T : Txt K mg A) : FnOk P w K mg base CX0 1 A.f_Reader_number A.d_Reader_number ["self"] (sp_Reader_number K A) := by
  refine T.F_Reader_number.ok sc_Reader_number (fun vs H Q E h => ?_) (fun cdv B outer s H vs Q E hr h => ?_)
  · obtain ⟨r, dx, a, k, l, z, rfl, _⟩ := h
    rfl
  · obtain ⟨r, dx, a, k, l, z, rfl, hp, ha, hz, q⟩ := h
    have cl_Reader := T.cl_Reader
    have a_Reader_numbers := T.a_Reader_numbers
    have a_Reader_at := T.a_Reader_at
    refine ⟨_, (pss_cons (ps_set (i := 1) sc_Reader_number.nd rfl (Or.inl rfl) (pe_ix ix_list (pe_fld (pv 0) rfl) (pe_fld (pv 0) rfl) (fun _ _ => rfl))) (pss_cons (ps_fld (pv 0) (pe_op op_add (pe_fld (pv 0) rfl) pe_int) rfl) (pss_one (ps_ret (pv 1))))), ?_⟩
    refine seq_step fun N hN => ?_
    walk_at "rdh"
    refine ⟨a, _, _, _, rfl, rfl, ha, atI_nat (by rw [List.getElem?_map, hz]; rfl), ?_⟩
    walk_at "rd"
    refine hN.go ?_
    walk_at "rdh"
    have e : fs_Reader (V.ref a) (V.int ((k : Int) + 1)) = fs_Reader (.ref a) (nI (k + 1)) := rfl
    rw [e]
    exact q
def sp_Reader_row (K : PySem.W.Frag) (A : Adr) : Sp := fun vs H Q _ => ∃ (r dx a : Addr) (k : Nat) (l : List Int) (ns : List Nat) (t : List Int), vs = [.ref r] ∧ H r = some (rObj A dx a k) ∧ SqL K H a (l.map V.int) ∧ l.drop k = (ns.length : Int) :: (Sched.ints ns ++ t) ∧
  ∀ x, H x = none → Q (.ref x) (upd (upd H r (rObj A dx a (k + 1 + ns.length))) x (.lst (natV ns)))
theorem ok_Reader_row (T : Txt K mg A) : FnOk P w K mg base CX0 2 A.f_Reader_row A.d_Reader_row ["self"] (sp_Reader_row K A) := by
  have G_Reader_number := ok_Reader_number (P := P) (w := w) (base := base) T
  refine T.F_Reader_row.ok sc_Reader_row (fun vs H Q E h => ?_) (fun cdv B outer s H vs Q E hr h => ?_)
  · obtain ⟨r, dx, a, k, l, ns, t, rfl, _⟩ := h
    rfl
  · obtain ⟨r, dx, a, k, l, ns, t, rfl, hp, ha, hd, q⟩ := h
    have cl_Reader := T.cl_Reader
    have a_Reader_numbers := T.a_Reader_numbers
    have a_Reader_at := T.a_Reader_at
    obtain ⟨hz, hd1, hlt⟩ := drop_get hd
    refine ⟨_, (pss_cons (ps_set (i := 1) sc_Reader_row.nd rfl (Or.inl rfl) (pe_meth0 (pv 0) T.cl_Reader T.m_Reader_number G_Reader_number (hr.mono (by decide)) T.b_Reader_number .nil pass0)) (pss_cons (ps_set (i := 2) sc_Reader_row.nd rfl (Or.inl rfl) (pe_fld (pv 0) rfl)) (pss_cons (ps_fld (pv 0) (pe_op op_add (pv 2) (pv 1)) rfl) (pss_one (ps_ret (pe_slice sl_list (pe_fld (pv 0) rfl) (po_some (pv 2)) (po_some (pe_fld (pv 0) rfl)))))))), ?_⟩
    refine seq_step fun N hN => ?_
    walk_at "rdh"
    refine ⟨r, dx, a, k, l, _, rfl, hp, ha, hz, ?_⟩
    walk_at "rd"
    refine hN.go (seq_step fun N hN => ?_)
    walk_at "rdh"
    refine hN.go (seq_step fun N hN => ?_)
    walk_at "rdh"
    refine hN.go ?_
    walk_at "rdh"
    have e1 : ((k + 1 : Nat) : Int) + (ns.length : Int) = ((k + 1 + ns.length : Nat) : Int) := by omega
    rw [e1]
    refine ⟨a, _, rfl, sql_upd ha hp, fun x hx => ?_⟩
    rw [cut_row hd1]
    exact q x (upd_none.mp hx).2.2
end

theorem InsAt.get {A : Adr} {H : Hp} {p : Addr} {x : Sched.Ins} (h : InsAt A H p x) : ∃ dx kp dk r w, H p = some (.ins A.C_Instruction dx (fs_Instruction (.ref kp) (.ref r) (.ref w) (nI x.mem) (nI x.place))) ∧ H kp = some (.ins A.C_Kind dk (fs_Kind (nI x.kind.unit) (nI x.kind.busy) (nI x.kind.latency))) ∧ H r = some (.lst (natV x.reads)) ∧ H w = some (.lst (natV x.writes)) := by
  obtain ⟨dx, kp, r, w, h1, ⟨dk, h2⟩, h3, h4⟩ := h
  exact ⟨dx, kp, dk, r, w, h1, h2, h3, h4⟩
theorem meet_comm (a b : List Nat) : Sched.meet a b = Sched.meet b a := by
  unfold Sched.meet
  rw [Bool.eq_iff_iff, List.any_eq_true, List.any_eq_true]
  constructor <;> rintro ⟨x, h1, h2⟩ <;> exact ⟨x, List.contains_iff_mem.mp h2, List.contains_iff_mem.mpr h1⟩
theorem flat_nat (l : List Nat) : (natV l).all flatV = true := by
  unfold natV
  rw [List.all_map, List.all_eq_true]
  intro x _
  rfl
theorem inV_nat (n : Nat) (l : List Nat) : inV (nI n) (natV l) = l.contains n := by
  unfold inV natV
  rw [List.any_map, Bool.eq_iff_iff, List.any_eq_true, List.contains_iff_mem]
  constructor
  · rintro ⟨x, h1, h2⟩
    have h2 : decide ((x : Int) = (n : Int)) = true := h2
    have h2 := of_decide_eq_true h2
    have e : x = n := by omega
    rw [← e]
    exact h1
  · intro h
    exact ⟨n, h, decide_eq_true rfl⟩
section
variable {P : Program} {w : World} {K : PySem.W.Frag} {mg : Str → Option Value} {base : Heap} {A : Adr}
def sp_name_one_in_common : Sp := fun vs H Q _ => ∃ (p q : Addr) (l m : List Nat), vs = [.ref p, .ref q] ∧ H p = some (.lst (natV l)) ∧ H q = some (.lst (natV m)) ∧ l.length ≤ 1000000 ∧ ∀ H', Same H H' → Q (.bl (Sched.meet l m)) H'
theorem ok_name_one_in_common (T : Txt K mg A) : FnOk P w K mg base CX0 1 A.f_name_one_in_common A.d_name_one_in_common ["row", "other"] sp_name_one_in_common := by
  refine T.F_name_one_in_common.ok sc_name_one_in_common (fun vs H Q E h => ?_) (fun cdv B outer s H vs Q E hr h => ?_)
  · obtain ⟨p, q, l, m, rfl, _⟩ := h
    rfl
  · obtain ⟨p, q, l, m, rfl, hp, hq, hl, k⟩ := h
    refine ⟨_, (pss_one (ps_ret (pe_callB (any_lst rfl) (by rfl) T.n_any PyProof.Rows.boot_any (pa_cons (pe_lc rfl sc_name_one_in_common.nd (pi_list (pv 0)) (blk_of (own := [("r", 2)]) rfl (by rfl)) (fun _ _ _ _ _ => (pg_name (i := 2) sc_name_one_in_common.nd rfl (Or.inl rfl))) (fun _ _ _ _ _ => pts_nil) (fun _ _ _ _ _ => (pe_cmpR in_lst (pv 2) (pv 1) (by with_unfolding_all rfl)))) pa_nil)))), ?_⟩
    walk_at "rdh"
    refine lc_list (fun _ => true) (fun v => .bl (inV v (natV m))) (a := p) (xs := natV l) (fun R q => ⟨_, rfl, q⟩) hp (by rw [natV_length]; exact hl) (fun x => rfl) (fun x hx H1 R s1 q => q H1 fun _ _ z => z) (fun x hx _ H1 R s1 q => ?_) fun D H' hD hD' s1 => ?_
    · obtain ⟨n, hn, rfl⟩ := List.mem_map.mp hx
      walk_at "rd"
      exact ⟨_, s1 _ _ hq, rfl, flat_nat m, q H1 fun _ _ z => z⟩
    · refine ⟨D, rfl, l.map fun (n : Nat) => inV (nI n) (natV m), ?_, ?_⟩
      · rw [hD', List.filter_eq_self.mpr (fun _ _ => rfl)]
        unfold natV
        rw [List.map_map, List.map_map]
        rfl
      · have e : (l.map fun (n : Nat) => inV (nI n) (natV m)).any id = Sched.meet l m := by
          unfold Sched.meet
          rw [List.any_map]
          congr 1
          funext n
          exact inV_nat n m
        rw [e]
        exact k H' s1
end

theorem ite_nx {N : L2.St → Hp → Prop} {c : Prop} [Decidable c] {H : Hp} {a b : Int} (f : Int → L2.St) (h : N (f (if c then a else b)) H) : if c then N (f a) H else N (f b) H := by
  by_cases e : c
  · rw [if_pos e] at h ⊢; exact h
  · rw [if_neg e] at h ⊢; exact h
theorem natV_inj {l m : List Nat} (h : natV l = natV m) : l = m := by
  induction l generalizing m with
  | nil =>
    cases m with
    | nil => rfl
    | cons a m => cases h
  | cons a l ih =>
    cases m with
    | nil => cases h
    | cons b m =>
      unfold natV at h
      rw [List.map_cons, List.map_cons, List.cons.injEq] at h
      have e : a = b := by
        have := V.int.inj h.1
        omega
      rw [e, ih h.2]
theorem bit_cases (x y : Sched.Ins) : ∃ c1 c2 c3 c4 : Bool, Sched.meet x.writes y.reads = c1 ∧ Sched.meet x.reads y.writes = c2 ∧ Sched.meet x.writes y.writes = c3 ∧ decide (Sched.alias x y = true ∧ (x.mem = 2 ∨ y.mem = 2)) = c4 ∧
    Sched.bits x y = (if c1 = true then 1 else 0) + ((if c2 = true then 2 else 0) + ((if c3 = true then 4 else 0) + (if c4 = true then 8 else 0))) := by
  refine ⟨_, _, _, _, rfl, rfl, rfl, rfl, ?_⟩
  unfold Sched.bits
  simp only [decide_eq_true_eq]
theorem bit_1 (x y : Sched.Ins) : (decide (Builtin.bitAnd (Sched.bits x y : Nat) 1 = 0) = false) ↔ Sched.meet x.writes y.reads = true := by
  obtain ⟨c1, c2, c3, c4, h1, h2, h3, h4, e⟩ := bit_cases x y
  rw [e, h1]
  cases c1 <;> cases c2 <;> cases c3 <;> cases c4 <;> decide
theorem bit_4 (x y : Sched.Ins) : (decide (Builtin.bitAnd (Sched.bits x y : Nat) 4 = 0) = false) ↔ Sched.meet x.writes y.writes = true := by
  obtain ⟨c1, c2, c3, c4, h1, h2, h3, h4, e⟩ := bit_cases x y
  rw [e, h3]
  cases c1 <;> cases c2 <;> cases c3 <;> cases c4 <;> decide
theorem bit_8 (x y : Sched.Ins) : (decide (Builtin.bitAnd (Sched.bits x y : Nat) 8 = 0) = false) ↔ (Sched.alias x y = true ∧ (x.mem = 2 ∨ y.mem = 2)) := by
  obtain ⟨c1, c2, c3, c4, h1, h2, h3, h4, e⟩ := bit_cases x y
  rw [e, ← decide_eq_true_iff (p := Sched.alias x y = true ∧ (x.mem = 2 ∨ y.mem = 2)), h4]
  cases c1 <;> cases c2 <;> cases c3 <;> cases c4 <;> decide
theorem bits_or {x y : Sched.Ins} {g1 g2 g3 g4 : Int} {c4 : Bool} (h1 : (if Sched.meet y.reads x.writes = true then Builtin.bitOr 0 1 else (0 : Int)) = g1) (h2 : (if Sched.meet y.writes x.reads = true then Builtin.bitOr g1 2 else g1) = g2) (h3 : (if Sched.meet y.writes x.writes = true then Builtin.bitOr g2 4 else g2) = g3)
    (hc : c4 = true ↔ (Sched.alias x y = true ∧ (x.mem = 2 ∨ y.mem = 2))) (h4 : (if c4 = true then Builtin.bitOr g3 8 else g3) = g4) : g4 = (Sched.bits x y : Nat) := by
  obtain ⟨c1, c2, c3, c5, e1, e2, e3, e4, e⟩ := bit_cases x y
  rw [meet_comm, e1] at h1
  rw [meet_comm, e2] at h2
  rw [meet_comm, e3] at h3
  have e5 : c4 = c5 := by rw [← e4, Bool.eq_iff_iff, decide_eq_true_iff]; exact hc
  subst e5
  rw [e]
  subst h1 h2 h3 h4
  cases c1 <;> cases c2 <;> cases c3 <;> cases c4 <;> decide
theorem wait_int {x y : Sched.Ins} {g1 g2 g3 : Int} (h1 : (if decide (Builtin.bitAnd (Sched.bits x y : Nat) 1 = 0) = false then (x.kind.latency : Int) else 0) = g1)
    (h2 : (if decide (Builtin.bitAnd (Sched.bits x y : Nat) 4 = 0) = false then (if (x.kind.latency : Int) + 1 - (y.kind.latency : Int) > g1 then (x.kind.latency : Int) + 1 - (y.kind.latency : Int) else g1) else g1) = g2)
    (h3 : (if Sched.alias x y = true ∧ x.mem = 2 then (if (x.kind.latency : Int) > g2 then (x.kind.latency : Int) else g2) else g2) = g3) : g3 = (Sched.wait x y : Nat) := by
  simp only [bit_1] at h1
  simp only [bit_4] at h2
  unfold Sched.wait
  generalize x.kind.latency = a at *
  generalize y.kind.latency = b at *
  by_cases a1 : Sched.meet x.writes y.reads = true
  · rw [if_pos a1] at h1 ⊢
    by_cases a4 : Sched.meet x.writes y.writes = true
    · rw [if_pos a4] at h2 ⊢
      by_cases a8 : Sched.alias x y = true ∧ x.mem = 2
      · rw [if_pos a8] at h3 ⊢
        split at h2 <;> split at h3 <;> omega
      · rw [if_neg a8] at h3 ⊢
        split at h2 <;> omega
    · rw [if_neg a4] at h2 ⊢
      by_cases a8 : Sched.alias x y = true ∧ x.mem = 2
      · rw [if_pos a8] at h3 ⊢
        split at h3 <;> omega
      · rw [if_neg a8] at h3 ⊢
        omega
  · rw [if_neg a1] at h1 ⊢
    by_cases a4 : Sched.meet x.writes y.writes = true
    · rw [if_pos a4] at h2 ⊢
      by_cases a8 : Sched.alias x y = true ∧ x.mem = 2
      · rw [if_pos a8] at h3 ⊢
        split at h2 <;> split at h3 <;> omega
      · rw [if_neg a8] at h3 ⊢
        split at h2 <;> omega
    · rw [if_neg a4] at h2 ⊢
      by_cases a8 : Sched.alias x y = true ∧ x.mem = 2
      · rw [if_pos a8] at h3 ⊢
        split at h3 <;> omega
      · rw [if_neg a8] at h3 ⊢
        omega
theorem short_reads {x : Sched.Ins} (h : SM.InsOk x) : x.reads.length ≤ 1000000 := by have := h.reads; omega
theorem short_writes {x : Sched.Ins} (h : SM.InsOk x) : x.writes.length ≤ 1000000 := by have := h.writes; omega
section
variable {P : Program} {w : World} {K : PySem.W.Frag} {mg : Str → Option Value} {base : Heap} {A : Adr}
def sp_may_meet_in_memory (A : Adr) : Sp := fun vs H Q _ => ∃ (p q : Addr) (x y : Sched.Ins), vs = [.ref p, .ref q] ∧ InsAt A H p x ∧ InsAt A H q y ∧ Q (.bl (Sched.alias x y)) H
theorem ok_may_meet_in_memory (T : Txt K mg A) : FnOk P w K mg base CX0 1 A.f_may_meet_in_memory A.d_may_meet_in_memory ["one", "other"] (sp_may_meet_in_memory A) := by
  refine T.F_may_meet_in_memory.ok sc_may_meet_in_memory (fun vs H Q E h => ?_) (fun cdv B outer s H vs Q E hr h => ?_)
  · obtain ⟨p, q, x, y, rfl, _⟩ := h
    rfl
  · obtain ⟨p, q, x, y, rfl, hx, hy, k⟩ := h
    obtain ⟨dx, kp, dk, r, ww, x1, x2, x3, x4⟩ := hx.get
    obtain ⟨dy, kq, dl, r', w', y1, y2, y3, y4⟩ := hy.get
    have cl_Instruction := T.cl_Instruction
    have a_Instruction_kind := T.a_Instruction_kind
    have a_Instruction_reads := T.a_Instruction_reads
    have a_Instruction_writes := T.a_Instruction_writes
    have a_Instruction_mem := T.a_Instruction_mem
    have a_Instruction_place := T.a_Instruction_place
    refine ⟨_, (pss_cons (ps_if (PW.pt (pw_or (pt_cmpR op_eq (pe_fld (pv 0) rfl) (pe_gint (by rfl) T.c_MEM_NONE) (nomark _)) (pw_or1 (pt_cmpR op_eq (pe_fld (pv 1) rfl) (pe_gint (by rfl) T.c_MEM_NONE) (nomark _))))) (pss_one (ps_ret pe_bl)) pss_nil) (pss_one (ps_ret (pe_or (pe_cmpR op_eq (pe_fld (pv 0) rfl) (pe_fld (pv 1) rfl) (nomark _)) (pe_or (pe_cmpR op_eq (pe_fld (pv 0) rfl) (pe_gint (by rfl) T.c_ANY_PLACE) (nomark _)) (pe_one (pe_cmpR op_eq (pe_fld (pv 1) rfl) (pe_gint (by rfl) T.c_ANY_PLACE) (nomark _)))))))), ?_⟩
    refine seq_step fun N hN => ?_
    walk_at "rdh"
    by_cases c1 : (x.mem : Int) = 0
    · rw [if_pos c1]
      have e : Sched.alias x y = false := by simp [Sched.alias, show x.mem = 0 by omega]
      rw [e] at k
      exact k
    rw [if_neg c1]
    by_cases c2 : (y.mem : Int) = 0
    · rw [if_pos c2]
      have e : Sched.alias x y = false := by simp [Sched.alias, show y.mem = 0 by omega]
      rw [e] at k
      exact k
    rw [if_neg c2]
    refine hN.go ?_
    walk_at "rdh"
    have e : Sched.alias x y = (x.place == 255 || (y.place == 255 || x.place == y.place)) := by
      unfold Sched.alias
      rw [bne_iff_ne.mpr (by omega), bne_iff_ne.mpr (by omega)]
      rfl
    rw [e] at k
    by_cases d1 : (x.place : Int) = (y.place : Int)
    · rw [if_pos d1]
      rw [show (x.place == 255 || (y.place == 255 || x.place == y.place)) = true by rw [show (x.place == y.place) = true from beq_iff_eq.mpr (by omega)]; simp] at k
      exact k
    rw [if_neg d1]
    have d1' : (x.place == y.place) = false := beq_eq_false_iff_ne.mpr (by omega)
    by_cases d2 : (x.place : Int) = 255
    · rw [if_pos d2]
      rw [show (x.place == 255) = true from beq_iff_eq.mpr (by omega)] at k
      exact k
    rw [if_neg d2]
    rw [show (x.place == 255) = false from beq_eq_false_iff_ne.mpr (by omega), d1', Bool.or_false, Bool.false_or] at k
    rw [show decide ((y.place : Int) = 255) = (y.place == 255) by rw [Bool.eq_iff_iff, decide_eq_true_iff, beq_iff_eq]; omega]
    exact k
def sp_bits_between (A : Adr) : Sp := fun vs H Q _ => ∃ (p q : Addr) (x y : Sched.Ins), vs = [.ref p, .ref q] ∧ InsAt A H p x ∧ InsAt A H q y ∧ SM.InsOk x ∧ SM.InsOk y ∧ ∀ H', Same H H' → Q (nI (Sched.bits x y)) H'
theorem ok_bits_between (T : Txt K mg A) : FnOk P w K mg base CX0 2 A.f_bits_between A.d_bits_between ["earlier", "later"] (sp_bits_between A) := by
  have G_may_meet_in_memory := ok_may_meet_in_memory (P := P) (w := w) (base := base) T
  have G_name_one_in_common := ok_name_one_in_common (P := P) (w := w) (base := base) T
  refine T.F_bits_between.ok sc_bits_between (fun vs H Q E h => ?_) (fun cdv B outer s H vs Q E hr h => ?_)
  · obtain ⟨p, q, x, y, rfl, _⟩ := h
    rfl
  · obtain ⟨p, q, x, y, rfl, hx, hy, ox, oy, k⟩ := h
    obtain ⟨dx, kp, dk, r, ww, x1, x2, x3, x4⟩ := hx.get
    obtain ⟨dy, kq, dl, r', w', y1, y2, y3, y4⟩ := hy.get
    have cl_Instruction := T.cl_Instruction
    have a_Instruction_kind := T.a_Instruction_kind
    have a_Instruction_reads := T.a_Instruction_reads
    have a_Instruction_writes := T.a_Instruction_writes
    have a_Instruction_mem := T.a_Instruction_mem
    have a_Instruction_place := T.a_Instruction_place
    refine ⟨_, (pss_cons (ps_set (i := 2) sc_bits_between.nd rfl (Or.inl rfl) pe_int) (pss_cons (ps_if (pt_val (pe_call G_name_one_in_common (hr.mono (by decide)) (by rfl) T.g_name_one_in_common T.k_name_one_in_common T.b_name_one_in_common .nil pass0 (pa_cons (pe_fld (pv 1) rfl) (pa_cons (pe_fld (pv 0) rfl) pa_nil)))) (pss_one (ps_set (i := 2) sc_bits_between.nd rfl (Or.inl rfl) (pe_op op_or (pv 2) (pe_gint (by rfl) T.c_BIT_READS_RESULT)))) pss_nil) (pss_cons (ps_if (pt_val (pe_call G_name_one_in_common (hr.mono (by decide)) (by rfl) T.g_name_one_in_common T.k_name_one_in_common T.b_name_one_in_common .nil pass0 (pa_cons (pe_fld (pv 1) rfl) (pa_cons (pe_fld (pv 0) rfl) pa_nil)))) (pss_one (ps_set (i := 2) sc_bits_between.nd rfl (Or.inl rfl) (pe_op op_or (pv 2) (pe_gint (by rfl) T.c_BIT_WRITES_WHAT_IS_READ)))) pss_nil) (pss_cons (ps_if (pt_val (pe_call G_name_one_in_common (hr.mono (by decide)) (by rfl) T.g_name_one_in_common T.k_name_one_in_common T.b_name_one_in_common .nil pass0 (pa_cons (pe_fld (pv 1) rfl) (pa_cons (pe_fld (pv 0) rfl) pa_nil)))) (pss_one (ps_set (i := 2) sc_bits_between.nd rfl (Or.inl rfl) (pe_op op_or (pv 2) (pe_gint (by rfl) T.c_BIT_BOTH_WRITE)))) pss_nil) (pss_cons (ps_set (i := 3) sc_bits_between.nd rfl (Or.inl rfl) (pe_or (pe_cmpR op_eq (pe_fld (pv 0) rfl) (pe_gint (by rfl) T.c_MEM_WRITES) (nomark _)) (pe_one (pe_cmpR op_eq (pe_fld (pv 1) rfl) (pe_gint (by rfl) T.c_MEM_WRITES) (nomark _))))) (pss_cons (ps_if (PW.pt (pw_and (pt_val (pv 3)) (pw_and1 (pt_val (pe_call G_may_meet_in_memory (hr.mono (by decide)) (by rfl) T.g_may_meet_in_memory T.k_may_meet_in_memory T.b_may_meet_in_memory .nil pass0 (pa_cons (pv 0) (pa_cons (pv 1) pa_nil))))))) (pss_one (ps_set (i := 2) sc_bits_between.nd rfl (Or.inl rfl) (pe_op op_or (pv 2) (pe_gint (by rfl) T.c_BIT_MEMORY)))) pss_nil) (pss_one (ps_ret (pv 2))))))))), ?_⟩
    refine seq_step fun N hN => ?_
    walk_at "rdh"
    refine hN.go (seq_step fun N hN => ?_)
    unfold sp_name_one_in_common
    walk_at "rdh"
    refine ⟨_, rfl, _, rfl, short_reads oy, fun H1 s1 => ite_nx (fun z => [some (V.ref p), some (V.ref q), some (V.int z), none]) ?_⟩
    generalize hg1 : (if Sched.meet y.reads x.writes = true then Builtin.bitOr 0 1 else (0 : Int)) = g1
    have x1' := s1 _ _ x1
    have x3' := s1 _ _ x3
    have x4' := s1 _ _ x4
    have y1' := s1 _ _ y1
    have y4' := s1 _ _ y4
    refine hN.go (seq_step fun N hN => ?_)
    clear x1 x2 x3 x4 y1 y2 y3 y4
    walk_at "rdh"
    unfold sp_name_one_in_common
    walk_at "rdh"
    refine ⟨_, rfl, _, rfl, short_writes oy, fun H2 s2 => ite_nx (fun z => [some (V.ref p), some (V.ref q), some (V.int z), none]) ?_⟩
    generalize hg2 : (if Sched.meet y.writes x.reads = true then Builtin.bitOr g1 2 else g1) = g2
    have x1 := s2 _ _ x1'
    have x4 := s2 _ _ x4'
    have y1 := s2 _ _ y1'
    have y4 := s2 _ _ y4'
    refine hN.go (seq_step fun N hN => ?_)
    clear x1' x3' x4' y1' y4'
    walk_at "rdh"
    unfold sp_name_one_in_common
    walk_at "rdh"
    refine ⟨_, rfl, _, rfl, short_writes oy, fun H3 s3 => ite_nx (fun z => [some (V.ref p), some (V.ref q), some (V.int z), none]) ?_⟩
    generalize hg3 : (if Sched.meet y.writes x.writes = true then Builtin.bitOr g2 4 else g2) = g3
    have x1' := s3 _ _ x1
    have y1' := s3 _ _ y1
    have s03 : Same H H3 := Same.trans s1 (Same.trans s2 s3)
    refine hN.go (seq_step fun N hN => ?_)
    clear x1 x4 y1 y4
    walk_at "rdh"
    have hone : ∀ b : Bool, (b = true ↔ (x.mem = 2 ∨ y.mem = 2)) → N [some (V.ref p), some (V.ref q), some (V.int g3), some (V.bl b)] H3 := fun b hb => by
      refine hN.go (seq_step fun N hN => ?_)
      unfold sp_may_meet_in_memory
      walk_at "rdh"
      have end_ : ∀ c4 : Bool, (c4 = true ↔ (Sched.alias x y = true ∧ (x.mem = 2 ∨ y.mem = 2))) → N [some (V.ref p), some (V.ref q), some (V.int (if c4 = true then Builtin.bitOr g3 8 else g3)), some (V.bl b)] H3 := fun c4 hc => by
        refine hN.go ?_
        walk_at "rd"
        rw [bits_or hg1 hg2 hg3 hc rfl]
        exact k H3 s03
      by_cases m1 : x.mem = 2 ∨ y.mem = 2
      · rw [if_pos m1]
        refine ⟨x, hx.mono s03, y, hy.mono s03, ?_⟩
        cases al : Sched.alias x y with
        | true => exact end_ true ⟨fun _ => ⟨al, m1⟩, fun _ => rfl⟩
        | false => exact end_ false ⟨(fun z => nomatch z), fun z => by rw [al] at z; cases z.1⟩
      · rw [if_neg m1]
        exact end_ false ⟨(fun z => nomatch z), fun z => absurd z.2 m1⟩
    by_cases b1 : (x.mem : Int) = 2
    · rw [if_pos b1]
      exact hone true ⟨fun _ => .inl (by omega), fun _ => rfl⟩
    · rw [if_neg b1]
      exact hone _ ⟨fun z => .inr (by have := of_decide_eq_true z; omega), fun z => decide_eq_true (by omega)⟩
def sp_needed_cycles (A : Adr) : Sp := fun vs H Q _ => ∃ (p q : Addr) (x y : Sched.Ins), vs = [.ref p, .ref q, nI (Sched.bits x y)] ∧ InsAt A H p x ∧ InsAt A H q y ∧ Q (nI (Sched.wait x y)) H
theorem ok_needed_cycles (T : Txt K mg A) : FnOk P w K mg base CX0 1 A.f_needed_cycles A.d_needed_cycles ["earlier", "later", "bits"] (sp_needed_cycles A) := by
  refine T.F_needed_cycles.ok sc_needed_cycles (fun vs H Q E h => ?_) (fun cdv B outer s H vs Q E hr h => ?_)
  · obtain ⟨p, q, x, y, rfl, _⟩ := h
    rfl
  · obtain ⟨p, q, x, y, rfl, hx, hy, k⟩ := h
    obtain ⟨dx, kp, dk, r, ww, x1, x2, x3, x4⟩ := hx.get
    obtain ⟨dy, kq, dl, r', w', y1, y2, y3, y4⟩ := hy.get
    have cl_Instruction := T.cl_Instruction
    have a_Instruction_kind := T.a_Instruction_kind
    have a_Instruction_reads := T.a_Instruction_reads
    have a_Instruction_writes := T.a_Instruction_writes
    have a_Instruction_mem := T.a_Instruction_mem
    have a_Instruction_place := T.a_Instruction_place
    have cl_Kind := T.cl_Kind
    have a_Kind_unit_class := T.a_Kind_unit_class
    have a_Kind_busy := T.a_Kind_busy
    have a_Kind_latency := T.a_Kind_latency
    refine ⟨_, (pss_cons (ps_set (i := 3) sc_needed_cycles.nd rfl (Or.inl rfl) pe_int) (pss_cons (ps_if (pt_cmpR op_ne (pe_op op_and (pv 2) (pe_gint (by rfl) T.c_BIT_READS_RESULT)) pe_int (nomark _)) (pss_one (ps_set (i := 3) sc_needed_cycles.nd rfl (Or.inl rfl) (pe_fld (pe_fld (pv 0) rfl) rfl))) pss_nil) (pss_cons (ps_if (pt_cmpR op_ne (pe_op op_and (pv 2) (pe_gint (by rfl) T.c_BIT_BOTH_WRITE)) pe_int (nomark _)) (pss_one (ps_set (i := 3) sc_needed_cycles.nd rfl (Or.inl rfl) (pe_callB (call_max2 rfl) (by rfl) T.n_max PyProof.Rows.boot_max (pa_cons (pv 3) (pa_cons (pe_op op_sub (pe_op op_add (pe_fld (pe_fld (pv 0) rfl) rfl) pe_int) (pe_fld (pe_fld (pv 1) rfl) rfl)) pa_nil))))) pss_nil) (pss_cons (ps_if (PW.pt (pw_and (pt_cmpR op_ne (pe_op op_and (pv 2) (pe_gint (by rfl) T.c_BIT_MEMORY)) pe_int (nomark _)) (pw_and1 (pt_cmpR op_eq (pe_fld (pv 0) rfl) (pe_gint (by rfl) T.c_MEM_WRITES) (nomark _))))) (pss_one (ps_set (i := 3) sc_needed_cycles.nd rfl (Or.inl rfl) (pe_callB (call_max2 rfl) (by rfl) T.n_max PyProof.Rows.boot_max (pa_cons (pv 3) (pa_cons (pe_fld (pe_fld (pv 0) rfl) rfl) pa_nil))))) pss_nil) (pss_one (ps_ret (pv 3))))))), ?_⟩
    refine seq_step fun N hN => ?_
    walk_at "rdh"
    refine hN.go (seq_step fun N hN => ?_)
    walk_at "rdh"
    refine ite_nx (fun z => [some (V.ref p), some (V.ref q), some (V.int (Sched.bits x y)), some (V.int z)]) ?_
    generalize hg1 : (if decide (Builtin.bitAnd (↑(Sched.bits x y)) 1 = 0) = false then (x.kind.latency : Int) else (0 : Int)) = g1
    refine hN.go (seq_step fun N hN => ?_)
    walk_at "rdh"
    refine ite_nx (fun z => [some (V.ref p), some (V.ref q), some (V.int (Sched.bits x y)), some (V.int z)]) ?_
    refine hN.go (seq_step fun N hN => ?_)
    walk_at "rdh"
    generalize hg2 : (if decide (Builtin.bitAnd (↑(Sched.bits x y)) 4 = 0) = false then (if (x.kind.latency : Int) + 1 - (y.kind.latency : Int) > g1 then (x.kind.latency : Int) + 1 - (y.kind.latency : Int) else g1) else g1) = g2
    have fin : ∀ g3 : Int, (if Sched.alias x y = true ∧ x.mem = 2 then (if (x.kind.latency : Int) > g2 then (x.kind.latency : Int) else g2) else g2) = g3 → g3 = (Sched.wait x y : Nat) := fun g3 e => wait_int hg1 hg2 e
    by_cases b1 : decide (Builtin.bitAnd (↑(Sched.bits x y)) 8 = 0) = false
    · rw [if_pos b1]
      have b1' := (bit_8 x y).mp b1
      by_cases b2 : (x.mem : Int) = 2
      · rw [if_pos b2]
        refine hN.go ?_
        walk_at "rd"
        rw [fin _ (if_pos ⟨b1'.1, by omega⟩)]
        exact k
      · rw [if_neg b2]
        refine hN.go ?_
        walk_at "rd"
        rw [fin _ (if_neg (by rintro ⟨_, z⟩; omega))]
        exact k
    · rw [if_neg b1]
      refine hN.go ?_
      walk_at "rd"
      rw [fin _ (if_neg (by rintro ⟨z1, z2⟩; exact b1 ((bit_8 x y).mpr ⟨z1, .inl z2⟩)))]
      exact k
end

/-! ### dicts of numbers -/
def kN (n : Nat) : Key := Sum.inl (n : Int)
def dN (b : Sched.Begun) : List (Key × V) := b.map fun x => (kN x.1, nI x.2)
theorem kN_inj {a b : Nat} : kN a = kN b ↔ a = b := by
  unfold kN
  constructor
  · intro h
    have := Sum.inl.inj h
    omega
  · intro h
    rw [h]
theorem dN_app (a b : Sched.Begun) : dN (a ++ b) = dN a ++ dN b := by
  unfold dN
  rw [List.map_append]
theorem dN_length (b : Sched.Begun) : (dN b).length = b.length := by
  unfold dN
  rw [List.length_map]
theorem dN_val (b : Sched.Begun) (i : Nat) : valV (dN b) (kN i) = (b.lookup i).map nI := by
  induction b with
  | nil => rfl
  | cons x b ih =>
    have e : dN (x :: b) = (kN x.1, nI x.2) :: dN b := rfl
    rw [e, show x = (x.1, x.2) from rfl, List.lookup_cons]
    by_cases h : i = x.1
    · subst h
      rw [valV_pos rfl, beq_self_eq_true]
      rfl
    · rw [valV_neg (fun z => h (kN_inj.mp z).symm), beq_false_of_ne h]
      exact ih
theorem lookup_none {b : Sched.Begun} {i : Nat} (h : i ∉ b.map (·.1)) : b.lookup i = none := by
  induction b with
  | nil => rfl
  | cons x b ih =>
    rw [show x = (x.1, x.2) from rfl, List.lookup_cons]
    have h1 : i ≠ x.1 := fun e => h (by rw [e]; exact List.mem_cons_self)
    rw [beq_false_of_ne h1]
    exact ih fun m => h (List.mem_cons_of_mem _ m)
theorem lookup_some {b : Sched.Begun} {i : Nat} (h : i ∈ b.map (·.1)) : ∃ t, b.lookup i = some t := by
  induction b with
  | nil => cases h
  | cons x b ih =>
    rw [show x = (x.1, x.2) from rfl, List.lookup_cons]
    by_cases e : i = x.1
    · rw [e, beq_self_eq_true]
      exact ⟨_, rfl⟩
    · rw [beq_false_of_ne e]
      refine ih ?_
      rcases List.mem_cons.mp h with q | q
      · exact absurd q e
      · exact q
theorem dN_put {b : Sched.Begun} {k t : Nat} (h : k ∉ b.map (·.1)) : putK (dN b) (kN k) (nI t) = dN (b ++ [(k, t)]) := by
  rw [putK_new _ (by rw [dN_val, lookup_none h]; rfl), dN_app]
  rfl
theorem dget {H : Hp} {a : Addr} {b : Sched.Begun} {i t : Nat} (h : Rd H a (.dK (dN b))) (e : b.lookup i = some t) : DGet H a (nI i) (some (nI t)) := .inl ⟨_, kN i, h, rfl, by rw [dN_val, e]; rfl⟩
theorem dhas {H : Hp} {a : Addr} {kvs : List (Key × V)} {i : Nat} (h : Rd H a (.dK kvs)) : DGet H a (nI i) (valV kvs (kN i)) := .inl ⟨_, kN i, h, rfl, rfl⟩
theorem dput {H : Hp} {a : Addr} {b : Sched.Begun} {k t : Nat} (h : H a = some (.dK (dN b))) (hk : k ∉ b.map (·.1)) (hl : b.length ≤ 1000) : DPut H a (nI k) (nI t) (upd H a (.dK (dN (b ++ [(k, t)])))) :=
  .inl ⟨_, kN k, h, rfl, small1000 (by rw [dN_length]; exact hl), by rw [dN_put hk]⟩
/-- the keys of a dict are these -/
def Keys (kvs : List (Key × V)) (o : List Nat) : Prop := kvs.map (·.1) = o.map kN
theorem keys_has {kvs : List (Key × V)} {o : List Nat} (h : Keys kvs o) (i : Nat) : (valV kvs (kN i)).isSome = o.contains i := by
  rw [← valV_any, Bool.eq_iff_iff, List.any_eq_true, List.contains_iff_mem]
  constructor
  · rintro ⟨x, hx, e⟩
    have e := of_decide_eq_true e
    have m : kN i ∈ o.map kN := by rw [← h, ← e]; exact List.mem_map.mpr ⟨x, hx, rfl⟩
    obtain ⟨j, hj, e2⟩ := List.mem_map.mp m
    rw [← kN_inj.mp e2]
    exact hj
  · intro m
    have m2 : kN i ∈ kvs.map (·.1) := by rw [h]; exact List.mem_map.mpr ⟨i, m, rfl⟩
    obtain ⟨x, hx, e⟩ := List.mem_map.mp m2
    exact ⟨x, hx, decide_eq_true e⟩
theorem keys_dN (b : Sched.Begun) : Keys (dN b) (b.map (·.1)) := by
  unfold Keys dN
  rw [List.map_map, List.map_map]
  rfl
/-- a locked dict beside another -/
theorem rd_lock {H : Hp} {a b : Addr} {o : Obj} {u v : List (Key × V)} (ha : H a = some (.dK u)) (hb : H b = some (.dK v)) : Rd (upd H a (.frz o (.dK u))) b (.dK v) := by
  by_cases e : b = a
  · subst e
    rw [ha] at hb
    cases hb
    exact .inr ⟨o, upd_same⟩
  · exact .inl (by rw [upd_ne e]; exact hb)
theorem rd_same {H H' : Hp} {b : Addr} {u : HO} (s : Same H H') (h : Rd H b u) : Rd H' b u := by
  rcases h with h | ⟨o, h⟩
  · exact .inl (s _ _ h)
  · exact .inr ⟨o, s _ _ h⟩
/-- behind a lock: what was there is there -/
theorem same_unlock {H H' : Hp} {a : Addr} {o : Obj} {u : HO} (ha : H a = some u) (s : Same (upd H a (.frz o u)) H') : Same H (upd H' a u) := fun b v e => by
  by_cases h : b = a
  · subst h
    rw [ha] at e
    cases e
    exact upd_same
  · rw [upd_ne h]
    exact s b v (by rw [upd_ne h]; exact e)
theorem lock_at {H H' : Hp} {a : Addr} {o : Obj} {u : HO} (s : Same (upd H a (.frz o u)) H') : H' a = some (.frz o u) := s _ _ upd_same
/-! ### the block and the machine, as they are read -/
def BlkAt (A : Adr) (H : Hp) (p : Addr) (B : List Sched.Ins) : Prop := ∃ bs, H p = some (.lst (bs.map V.ref)) ∧ All2 (InsAt A H) bs B
def LnAt (A : Adr) (H : Hp) (p : Addr) (s : Sched.State) : Prop := ∃ u kl bl dx, H p = some (.ins A.C_Line dx (fs_Line (nI s.width) (.ref u) (.ref kl) (.ref bl))) ∧ H u = some (.lst (natV s.units)) ∧ BlkAt A H bl s.block
def WtsAt (H : Hp) (p : Addr) (s : Sched.State) : Prop := ∃ ds : List Addr, H p = some (.lst (ds.map V.ref)) ∧ ds.length = s.block.length ∧ ∀ (j : Nat) (d : Addr), ds[j]? = some d → H d = some (.dK (dN (SM.wt s j)))
theorem BlkAt.mono {A : Adr} {H H' : Hp} {p : Addr} {B : List Sched.Ins} (s : Same H H') (h : BlkAt A H p B) : BlkAt A H' p B := by
  obtain ⟨bs, h1, h2⟩ := h
  exact ⟨bs, s _ _ h1, h2.imp fun _ _ q => q.mono s⟩
theorem LnAt.mono {A : Adr} {H H' : Hp} {p : Addr} {t : Sched.State} (s : Same H H') (h : LnAt A H p t) : LnAt A H' p t := by
  obtain ⟨u, kl, bl, dx, h1, h2, h3⟩ := h
  exact ⟨u, kl, bl, dx, s _ _ h1, s _ _ h2, h3.mono s⟩
theorem WtsAt.mono {H H' : Hp} {p : Addr} {t : Sched.State} (s : Same H H') (h : WtsAt H p t) : WtsAt H' p t := by
  obtain ⟨ds, h1, h2, h3⟩ := h
  exact ⟨ds, s _ _ h1, h2, fun j d e => s _ _ (h3 j d e)⟩
theorem BlkAt.get {A : Adr} {H : Hp} {p : Addr} {B : List Sched.Ins} (h : BlkAt A H p B) : ∃ vs : List V, H p = some (.lst vs) ∧ vs.length = B.length ∧ ∀ (j : Nat) (x : Sched.Ins), B[j]? = some x → ∃ a, atI vs (j : Int) = some (.ref a) ∧ InsAt A H a x := by
  obtain ⟨bs, h1, h2⟩ := h
  refine ⟨_, h1, by rw [List.length_map, h2.length], fun j x e => ?_⟩
  obtain ⟨a, e1, e2⟩ := h2.get e
  exact ⟨a, atI_map e1, e2⟩
theorem WtsAt.get {H : Hp} {p : Addr} {s : Sched.State} (h : WtsAt H p s) : ∃ vs : List V, H p = some (.lst vs) ∧ vs.length = s.block.length ∧ ∀ j, j < s.block.length → ∃ a, atI vs (j : Int) = some (.ref a) ∧ H a = some (.dK (dN (SM.wt s j))) := by
  obtain ⟨ds, h1, h2, h3⟩ := h
  refine ⟨_, h1, by rw [List.length_map, h2], fun j hj => ?_⟩
  have e : ds[j]? = some (ds[j]'(by omega)) := List.getElem?_eq_getElem (by omega)
  exact ⟨_, atI_map e, h3 _ _ e⟩
def wtp (t : Sched.State) (j n : Nat) : Sched.Begun := (List.range n).filterMap fun i => (Sched.need t i j).map fun d => (i, d)
theorem wtp_succ (t : Sched.State) (j n : Nat) : wtp t j (n + 1) = wtp t j n ++ (match Sched.need t n j with | some d => [(n, d)] | none => []) := by
  unfold wtp
  rw [List.range_succ, List.filterMap_append]
  congr 1
  rw [List.filterMap_cons]
  cases Sched.need t n j <;> rfl
theorem wtp_lt {t : Sched.State} {j n : Nat} {x : Nat × Nat} (h : x ∈ wtp t j n) : x.1 < n := by
  unfold wtp at h
  obtain ⟨i, hi, e⟩ := List.mem_filterMap.mp h
  obtain ⟨d, _, e⟩ := Option.map_eq_some_iff.mp e
  subst e
  exact List.mem_range.mp hi
theorem wtp_new (t : Sched.State) (j n : Nat) : n ∉ (wtp t j n).map (·.1) := fun m => by
  obtain ⟨x, hx, e⟩ := List.mem_map.mp m
  have := wtp_lt hx
  omega
theorem wtp_len (t : Sched.State) (j n : Nat) : (wtp t j n).length ≤ n := by
  unfold wtp
  exact Nat.le_trans (List.length_filterMap_le _ _) (by rw [List.length_range]; exact Nat.le_refl _)
theorem need_is {t : Sched.State} {i j : Nat} {x y : Sched.Ins} (hx : t.block[i]? = some x) (hy : t.block[j]? = some y) (h : i < j) : Sched.need t i j = if Sched.bits x y = 0 then none else some (Sched.wait x y) := by
  unfold Sched.need
  rw [hx, hy]
  dsimp only
  by_cases e : Sched.bits x y = 0
  · rw [if_neg (fun z => z.2 e), if_pos e]
  · rw [if_pos ⟨h, e⟩, if_neg e]
section
variable {P : Program} {w : World} {K : PySem.W.Frag} {mg : Str → Option Value} {base : Heap} {A : Adr}
def sp_waits_of (A : Adr) : Sp := fun vs H Q _ => ∃ (p : Addr) (t : Sched.State) (j : Nat), vs = [.ref p, nI j] ∧ BlkAt A H p t.block ∧ SM.Wf t ∧ j < t.block.length ∧ ∀ H' d, Same H H' → H d = none → H' d = some (.dK (dN (SM.wt t j))) → Q (.ref d) H'
theorem ok_waits_of (T : Txt K mg A) : FnOk P w K mg base CX0 3 A.f_waits_of A.d_waits_of ["block", "j"] (sp_waits_of A) := by
  have G_bits_between := ok_bits_between (P := P) (w := w) (base := base) T
  have G_needed_cycles := ok_needed_cycles (P := P) (w := w) (base := base) T
  refine T.F_waits_of.ok sc_waits_of (fun vs H Q E h => ?_) (fun cdv B outer s H vs Q E hr h => ?_)
  · obtain ⟨p, t, j, rfl, _⟩ := h
    rfl
  · obtain ⟨p, t, j, rfl, hb, wf, hj, k⟩ := h
    obtain ⟨vs, h1, h2, h3⟩ := hb.get
    refine ⟨_, (pss_cons (ps_set (i := 2) sc_waits_of.nd rfl (Or.inl rfl) pe_dnewK) (pss_cons (ps_for PassesOwn.never rfl (pi_range1 (by rfl) T.n_range (pa_cons (pv 1) pa_nil)) (pg_name (i := 3) sc_waits_of.nd rfl (Or.inl rfl)) (pss_cons (ps_set (i := 4) sc_waits_of.nd rfl (Or.inl rfl) (pe_call G_bits_between (hr.mono (by decide)) (by rfl) T.g_bits_between T.k_bits_between T.b_bits_between .nil pass0 (pa_cons (pe_ix ix_lst (pv 0) (pv 3) (fun _ _ => rfl)) (pa_cons (pe_ix ix_lst (pv 0) (pv 1) (fun _ _ => rfl)) pa_nil)))) (pss_one (ps_if (pt_cmpR op_ne (pv 4) pe_int (nomark _)) (pss_one (ps_dput (hu_of hr) (pv 2) (pv 3) (pe_call G_needed_cycles (hr.mono (by decide)) (by rfl) T.g_needed_cycles T.k_needed_cycles T.b_needed_cycles .nil pass0 (pa_cons (pe_ix ix_lst (pv 0) (pv 3) (fun _ _ => rfl)) (pa_cons (pe_ix ix_lst (pv 0) (pv 1) (fun _ _ => rfl)) (pa_cons (pv 4) pa_nil)))) rfl)) pss_nil)))) (pss_one (ps_ret (pv 2))))), ?_⟩
    refine seq_step fun N hN => ?_
    walk_at "rdh"
    intro d hd
    refine hN.go (seq_step fun N hN => ?_)
    refine ⟨_, rfl, (j : Int), rfl, by omega, by have := wf.blen; omega, ?_⟩
    refine for_range (fun i σ H' => (∃ x3 x4, σ = [some (V.ref p), some (nI j), some (V.ref d), x3, x4]) ∧ Same H H' ∧ H' d = some (.dK (dN (wtp t j i)))) ⟨⟨_, _, rfl⟩, Same.new hd, upd_same⟩ ?_ ?_
    · rintro i σ H1 hi ⟨⟨x3, x4, rfl⟩, s1, hd1⟩
      rw [Int.toNat_natCast] at hi
      rw [show ((0 : Int) + (i : Int)) = (i : Int) from by omega]
      have hbi : t.block[i]? = some (t.block[i]'(by omega)) := List.getElem?_eq_getElem (by omega)
      have hbj : t.block[j]? = some (t.block[j]'(by omega)) := List.getElem?_eq_getElem (by omega)
      generalize t.block[i]'(by omega) = x at hbi
      generalize t.block[j]'(by omega) = y at hbj
      obtain ⟨a, a1, a2⟩ := h3 i x hbi
      obtain ⟨b, b1, b2⟩ := h3 j y hbj
      have ox := wf.b x (List.mem_of_getElem? hbi)
      have oy := wf.b y (List.mem_of_getElem? hbj)
      have hp1 := s1 _ _ h1
      refine seq_step fun N2 hN2 => ?_
      unfold sp_bits_between
      walk_at "rdh"
      refine ⟨x, a2.mono s1, y, b2.mono s1, ox, oy, fun H2 s2 => hN2.go ?_⟩
      have hp2 := s2 _ _ hp1
      have hd2 := s2 _ _ hd1
      have s02 := Same.trans s1 s2
      unfold sp_needed_cycles
      walk_at "rdh"
      have en := need_is hbi hbj hi
      have ew := wtp_succ t j i
      by_cases z : Sched.bits x y = 0
      · rw [if_pos z] at en
        rw [en, List.append_nil] at ew
        rw [if_neg (by rw [z]; decide), ew]
      · rw [if_neg z] at en
        rw [en] at ew
        rw [if_pos (by rw [decide_eq_false_iff_not]; omega)]
        refine ⟨x, y, rfl, a2.mono s02, b2.mono s02, ?_⟩
        refine ⟨_, dput hd2 (wtp_new t j i) (by have := wtp_len t j i; have := wf.blen; omega), ?_⟩
        rw [ew]
        exact ⟨Same.upd s02 hd, upd_same⟩
    · rintro σ H1 ⟨⟨x3, x4, rfl⟩, s1, hd1⟩
      refine hN.go ?_
      walk_at "rd"
      rw [Int.toNat_natCast] at hd1
      exact k H1 d s1 hd hd1
def sp_waits_in (A : Adr) : Sp := fun vs H Q _ => ∃ (p : Addr) (t : Sched.State), vs = [.ref p] ∧ BlkAt A H p t.block ∧ SM.Wf t ∧ ∀ H' q, Same H H' → H q = none → WtsAt H' q t → Q (.ref q) H'
theorem ok_waits_in (T : Txt K mg A) : FnOk P w K mg base CX0 4 A.f_waits_in A.d_waits_in ["block"] (sp_waits_in A) := by
  have G_waits_of := ok_waits_of (P := P) (w := w) (base := base) T
  refine T.F_waits_in.ok sc_waits_in (fun vs H Q E h => ?_) (fun cdv B outer s H vs Q E hr h => ?_)
  · obtain ⟨p, t, rfl, _⟩ := h
    rfl
  · obtain ⟨p, t, rfl, hb, wf, k⟩ := h
    obtain ⟨vs, h1, h2, h3⟩ := hb.get
    refine ⟨_, (pss_one (ps_ret (pe_lc rfl sc_waits_in.nd (pi_range1 (by rfl) T.n_range (pa_cons (pe_callB len_lst (by rfl) T.n_len PySem.boot_len (pa_cons (pv 0) pa_nil)) pa_nil)) (blk_of (own := [("j", 1)]) rfl (by rfl)) (fun _ _ _ _ _ => (pg_name (i := 1) sc_waits_in.nd rfl (Or.inl rfl))) (fun _ _ _ _ _ => pts_nil) (fun _ _ _ _ _ => (pe_call G_waits_of (hr.mono (by decide)) (by rfl) T.g_waits_of T.k_waits_of T.b_waits_of .nil pass0 (pa_cons (pv 0) (pa_cons (pv 1) pa_nil))))))), ?_⟩
    walk_at "rdh"
    refine lc_rng (n := t.block.length) (fun j l H' => ∃ ds : List Addr, l = ds.map V.ref ∧ ∀ (i : Nat) (d : Addr), ds[i]? = some d → H' d = some (.dK (dN (SM.wt t i)))) ⟨[], rfl, fun i d e => by simp at e⟩ (fun j l H H' ⟨ds, e1, e2⟩ s => ⟨ds, e1, fun i d e => s _ _ (e2 i d e)⟩) (fun R q => ?_) (by have := wf.blen; omega) (fun x => rfl) (fun j l hj hl H1 R s1 w q => ?_) (fun D H' l hD hl w hD' s1 => ?_)
    · walk_at "rdh"
      done
    · obtain ⟨ds, rfl, hw⟩ := w
      unfold sp_waits_of
      walk_at "rdh"
      refine ⟨t, j, rfl, hb.mono s1, wf, hj, fun H2 d s2 hd e => q _ _ s2 ⟨ds ++ [d], by rw [List.map_append]; rfl, fun i d' e' => ?_⟩⟩
      rw [List.length_map] at hl
      by_cases z : i < ds.length
      · rw [List.getElem?_append_left z] at e'
        exact s2 _ _ (hw i d' e')
      · have ei : i = ds.length := by
          have := (List.getElem?_eq_some_iff.mp e').1
          rw [List.length_append, List.length_singleton] at this
          omega
        subst ei
        simp at e'
        subst e'
        rw [← hl] at e
        exact e
    · obtain ⟨ds, rfl, hw⟩ := w
      exact k H' D s1 hD ⟨ds, hD', by rw [List.length_map] at hl; exact hl, hw⟩
end

theorem dN_mem {b : Sched.Begun} {kv : Key × V} (h : kv ∈ dN b) : ∃ x ∈ b, kv = (kN x.1, nI x.2) := by
  obtain ⟨x, hx, e⟩ := List.mem_map.mp h
  exact ⟨x, hx, e.symm⟩
theorem atI_back {l : List Nat} {n : Nat} (h1 : 1 ≤ n) (h2 : n ≤ l.length) : atI (natV l) (-(n : Int)) = some (nI (l.getD (l.length - n) 0)) := by
  have e : ixN (natV l).length (-(n : Int)) = some (l.length - n) := by
    unfold ixN
    rw [natV_length, if_neg (by omega), if_pos (by omega)]
    congr 1
    omega
  unfold atI
  rw [e]
  refine natV_get ?_
  rw [List.getD_eq_getElem?_getD, List.getElem?_eq_getElem (by omega)]
  rfl
section
variable {P : Program} {w : World} {K : PySem.W.Frag} {mg : Str → Option Value} {base : Heap} {A : Adr}
def sp_have_all_begun : Sp := fun vs H Q _ => ∃ (p q : Addr) (W : Sched.Begun) (kvs : List (Key × V)) (o : List Nat), vs = [.ref p, .ref q] ∧ H p = some (.dK (dN W)) ∧ W.length ≤ 1000 ∧ H q = some (.dK kvs) ∧ Keys kvs o ∧ ∀ H', Same H H' → Q (.bl (SM.has o W)) H'
theorem ok_have_all_begun (T : Txt K mg A) : FnOk P w K mg base CX0 1 A.f_have_all_begun A.d_have_all_begun ["wait", "begun"] sp_have_all_begun := by
  refine T.F_have_all_begun.ok sc_have_all_begun (fun vs H Q E h => ?_) (fun cdv B outer s H vs Q E hr h => ?_)
  · obtain ⟨p, q, W, kvs, o, rfl, _⟩ := h
    rfl
  · obtain ⟨p, q, W, kvs, o, rfl, hp, hl, hq, ks, k⟩ := h
    refine ⟨_, (pss_one (ps_ret (pe_callB (all_lst rfl) (by rfl) T.n_all PyProof.Rows.boot_all (pa_cons (pe_lock (pe_lc rfl sc_have_all_begun.nd (pi_keys (pv 0)) (blk_of (own := [("i", 2)]) rfl (by rfl)) (fun _ _ _ _ _ => (pg_name (i := 2) sc_have_all_begun.nd rfl (Or.inl rfl))) (fun _ _ _ _ _ => pts_nil) (fun _ _ _ _ _ => (pe_cmp (pc_din (hu_of hr) (pv 2) (pv 1)))))) pa_nil)))), ?_⟩
    walk_at "rdh"
    refine ⟨p, _, hp, True.intro, fun od => ?_⟩
    refine lc_keys (a := p) (o := od) (kvs := dN W) (fun kk _ => .bl (valV kvs kk).isSome) (fun R q => ⟨_, rfl, q⟩) upd_same (by rw [dN_length]; omega) (fun x => rfl) (fun kv hkv H1 R s1 q' => ?_) (fun D H' hD hD' s1 => ?_)
    · obtain ⟨x, hx, rfl⟩ := dN_mem hkv
      walk_at "rd"
      exact ⟨_, dhas (rd_same s1 (rd_lock hp hq)), q' H1 fun _ _ z => z⟩
    · refine ⟨lock_at s1, D, rfl, W.map fun x => (valV kvs (kN x.1)).isSome, ?_, ?_⟩
      · have : D ≠ p := fun e => by rw [e, upd_same] at hD; cases hD
        rw [upd_ne this, hD']
        unfold dN
        rw [List.map_map, List.map_map]
        rfl
      · have e : (W.map fun x => (valV kvs (kN x.1)).isSome).all id = SM.has o W := by
          unfold SM.has
          rw [List.all_map]
          congr 1
          funext x
          exact keys_has ks x.1
        rw [e]
        exact k _ (same_unlock hp s1)
def sp_after_waits : Sp := fun vs H Q _ => ∃ (p q : Addr) (W b : Sched.Begun), vs = [.ref p, .ref q] ∧ H p = some (.dK (dN W)) ∧ W.length ≤ 1000 ∧ (W.map (·.1)).Nodup ∧ H q = some (.dK (dN b)) ∧ SM.has (b.map (·.1)) W = true ∧ ∀ H', Same H H' → Q (nI (SM.aWaits W b)) H'
theorem ok_after_waits (T : Txt K mg A) : FnOk P w K mg base CX0 1 A.f_after_waits A.d_after_waits ["wait", "begins"] sp_after_waits := by
  refine T.F_after_waits.ok sc_after_waits (fun vs H Q E h => ?_) (fun cdv B outer s H vs Q E hr h => ?_)
  · obtain ⟨p, q, W, b, rfl, _⟩ := h
    rfl
  · obtain ⟨p, q, W, b, rfl, hp, hl, nd, hq, ha, k⟩ := h
    refine ⟨_, (pss_one (ps_ret (pe_maxD rfl (by rfl) T.n_max (pa_cons (pe_lock (pe_lc rfl sc_after_waits.nd (pi_keys (pv 0)) (blk_of (own := [("i", 2)]) rfl (by rfl)) (fun _ _ _ _ _ => (pg_name (i := 2) sc_after_waits.nd rfl (Or.inl rfl))) (fun _ _ _ _ _ => pts_nil) (fun _ _ _ _ _ => (pe_op op_add (pe_dget (hu_of hr) (pv 1) (pv 2) (fun _ _ => rfl)) (pe_dget (hu_of hr) (pv 0) (pv 2) (fun _ _ => rfl)))))) pa_nil) pe_int))), ?_⟩
    walk_at "rdh"
    refine ⟨p, _, hp, True.intro, fun od => ?_⟩
    refine lc_keys (a := p) (o := od) (kvs := dN W) (fun kk v => match kk, v with | .inl i, .int d => nI (SM.at2 b i.toNat + d.toNat) | _, _ => .non) (fun R q => ⟨_, rfl, q⟩) upd_same (by rw [dN_length]; omega) (fun x => rfl) (fun kv hkv H1 R s1 q' => ?_) (fun D H' hD hD' s1 => ?_)
    · obtain ⟨x, hx, rfl⟩ := dN_mem hkv
      walk_at "rd"
      have m : x.1 ∈ b.map (·.1) := List.contains_iff_mem.mp (List.all_eq_true.mp ha x hx)
      obtain ⟨tb, e1⟩ := lookup_some m
      refine ⟨_, dget (rd_same s1 (rd_lock hp hq)) e1, _, dget (.inr ⟨od, s1 _ _ upd_same⟩) (SM.lookup_mem nd hx), _, rfl, _, rfl, ?_⟩
      have q' := q' H1 fun _ _ z => z
      have e2 : SM.at2 b x.1 = tb := by unfold SM.at2; rw [e1]; rfl
      have q' : R (nI (SM.at2 b x.1 + x.2)) H1 := q'
      rw [e2] at q'
      rw [show (tb : Int) + (x.2 : Int) = ((tb + x.2 : Nat) : Int) by omega]
      exact q'
    · refine ⟨lock_at s1, D, rfl, W.map fun x => SM.at2 b x.1 + x.2, ?_, ?_⟩
      · have : D ≠ p := fun e => by rw [e, upd_same] at hD; cases hD
        rw [upd_ne this, hD']
        unfold dN natV
        rw [List.map_map, List.map_map]
        rfl
      · exact k _ (same_unlock hp s1)
def sp_after_width : Sp := fun vs H Q _ => ∃ (n : Nat) (p : Addr) (l : List Nat), vs = [nI n, .ref p] ∧ H p = some (.lst (natV l)) ∧ 1 ≤ n ∧ Q (nI (SM.aWidth n l)) H
theorem ok_after_width (T : Txt K mg A) : FnOk P w K mg base CX0 1 A.f_after_width A.d_after_width ["width", "cycles"] sp_after_width := by
  refine T.F_after_width.ok sc_after_width (fun vs H Q E h => ?_) (fun cdv B outer s H vs Q E hr h => ?_)
  · obtain ⟨n, p, l, rfl, _⟩ := h
    rfl
  · obtain ⟨n, p, l, rfl, hp, hn, k⟩ := h
    refine ⟨_, (pss_cons (ps_if (pt_cmpR op_lt (pe_callB len_lst (by rfl) T.n_len PySem.boot_len (pa_cons (pv 1) pa_nil)) (pv 0) (nomark _)) (pss_one (ps_ret pe_int)) pss_nil) (pss_one (ps_ret (pe_op op_add (pe_ix ix_lst (pv 1) (pe_un un_neg (pv 0)) (fun _ _ => rfl)) pe_int)))), ?_⟩
    refine seq_step fun N hN => ?_
    walk_at "rdh"
    rw [natV_length]
    unfold SM.aWidth at k
    by_cases c : (l.length : Int) < (n : Int)
    · rw [if_pos c]
      rw [if_pos (by omega)] at k
      exact k
    · rw [if_neg c]
      rw [if_neg (by omega)] at k
      refine hN.go ?_
      walk_at "rdh"
      exact ⟨_, atI_back hn (by omega), _, rfl, k⟩
end

theorem pe_fldK {X : Cx} {K : PySem.W.Frag} (hK : X.K = K) {o : Expr} {ta : TE} {m : Str} {pos : Pos} (he : PE X o ta) (hn : attributeBase o m X.env (eval o X.env) = eval o X.env) : PE X (.Attribute o m pos) (tFld K ta m) := by
  subst hK
  exact pe_fld he hn
theorem ends_snoc {t : Sched.State} {b : Sched.Begun} {x : Nat × Nat} {y : Sched.Ins} (h : t.block[x.1]? = some y) (u : Nat) : SM.endsOf t (b ++ [x]) u = SM.endsOf t b u ++ (if y.kind.unit = u then [x.2 + y.kind.busy] else []) := by
  unfold SM.endsOf
  rw [List.filterMap_append, List.filterMap_cons, h]
  dsimp only
  by_cases e : y.kind.unit = u
  · rw [if_pos e, if_pos e]
    rfl
  · rw [if_neg e, if_neg e]
    rfl
theorem ends_len (t : Sched.State) (b : Sched.Begun) (u : Nat) : (SM.endsOf t b u).length ≤ b.length := List.length_filterMap_le _ _
theorem take_snoc {b : Sched.Begun} {i : Nat} {x : Nat × Nat} (h : b[i]? = some x) : b.take (i + 1) = b.take i ++ [x] := by rw [List.take_add_one, h]; rfl
theorem natV_app (a b : List Nat) : natV (a ++ b) = natV a ++ natV b := by
  unfold natV
  rw [List.map_append]
theorem ints_nats {ms : List Int} {l : List Nat} (h : ms.Perm (l.map fun (n : Nat) => (n : Int))) : ∃ es : List Nat, ms = es.map (fun (n : Nat) => (n : Int)) ∧ es.Perm l := by
  refine ⟨ms.map Int.toNat, ?_, ?_⟩
  · rw [List.map_map]
    have : ∀ z ∈ ms, ((fun (n : Nat) => (n : Int)) ∘ Int.toNat) z = z := fun z hz => by
      obtain ⟨n, _, e⟩ := List.mem_map.mp (h.mem_iff.mp hz)
      subst e
      rfl
    rw [List.map_congr_left this]
    exact (List.map_id' ms).symm
  · have q := h.map Int.toNat
    rw [List.map_map] at q
    have e : l.map (Int.toNat ∘ fun (n : Nat) => (n : Int)) = l := by
      have z : l.map (Int.toNat ∘ fun (n : Nat) => (n : Int)) = l.map id := List.map_congr_left fun n _ => rfl
      rw [z, List.map_id]
    rw [e] at q
    exact q
theorem latency_is {t : Sched.State} {j : Nat} {x : Sched.Ins} (h : t.block[j]? = some x) : Sched.latencyOf t j = x.kind.latency := by
  unfold Sched.latencyOf
  rw [h]
  rfl
section
variable {P : Program} {w : World} {K : PySem.W.Frag} {mg : Str → Option Value} {base : Heap} {A : Adr}
def sp_cycles_taken (A : Adr) : Sp := fun vs H Q _ => ∃ (p q : Addr) (t : Sched.State) (b : Sched.Begun), vs = [.ref p, .ref q] ∧ BlkAt A H p t.block ∧ H q = some (.dK (dN b)) ∧ b.length ≤ 1000 ∧ (b.map (·.1)).Nodup ∧ (∀ x ∈ b, x.1 < t.block.length) ∧ ∀ H', Same H H' → Q (nI (SM.cyc t b)) H'
theorem ok_cycles_taken (T : Txt K mg A) : FnOk P w K mg base CX0 1 A.f_cycles_taken A.d_cycles_taken ["block", "begins"] (sp_cycles_taken A) := by
  refine T.F_cycles_taken.ok sc_cycles_taken (fun vs H Q E h => ?_) (fun cdv B outer s H vs Q E hr h => ?_)
  · obtain ⟨p, q, t, b, rfl, _⟩ := h
    rfl
  · obtain ⟨p, q, t, b, rfl, hb, hq, hl, nd, lt, k⟩ := h
    obtain ⟨vs, h1, h2, h3⟩ := hb.get
    have cl_Instruction := T.cl_Instruction
    have a_Instruction_kind := T.a_Instruction_kind
    have a_Instruction_reads := T.a_Instruction_reads
    have a_Instruction_writes := T.a_Instruction_writes
    have a_Instruction_mem := T.a_Instruction_mem
    have a_Instruction_place := T.a_Instruction_place
    have cl_Kind := T.cl_Kind
    have a_Kind_unit_class := T.a_Kind_unit_class
    have a_Kind_busy := T.a_Kind_busy
    have a_Kind_latency := T.a_Kind_latency
    refine ⟨_, (pss_one (ps_ret (pe_maxD rfl (by rfl) T.n_max (pa_cons (pe_lock (pe_lc rfl sc_cycles_taken.nd (pi_keys (pv 1)) (blk_of (own := [("k", 2)]) rfl (by rfl)) (fun _ _ _ _ _ => (pg_name (i := 2) sc_cycles_taken.nd rfl (Or.inl rfl))) (fun _ _ _ _ _ => pts_nil) (fun _ _ _ _ _ => (pe_op op_add (pe_dget (hu_of hr) (pv 1) (pv 2) (fun _ _ => rfl)) (pe_fldK (K := K) rfl (pe_fldK (K := K) rfl (pe_ix ix_lst (pv 0) (pv 2) (fun _ _ => rfl)) rfl) rfl))))) pa_nil) pe_int))), ?_⟩
    walk_at "rdh"
    refine ⟨q, _, hq, True.intro, fun od => ?_⟩
    refine lc_keys (a := q) (o := od) (kvs := dN b) (fun kk v => match kk, v with | .inl i, .int d => nI (d.toNat + Sched.latencyOf t i.toNat) | _, _ => .non) (fun R q => ⟨_, rfl, q⟩) upd_same (by rw [dN_length]; omega) (fun x => rfl) (fun kv hkv H1 R s1 q' => ?_) (fun D H' hD hD' s1 => ?_)
    · obtain ⟨x, hx, rfl⟩ := dN_mem hkv
      have hlt := lt x hx
      have hbx : t.block[x.1]? = some (t.block[x.1]'hlt) := List.getElem?_eq_getElem hlt
      generalize t.block[x.1]'hlt = y at hbx
      obtain ⟨a, a1, a2⟩ := h3 _ y hbx
      obtain ⟨dx, kp, dk, r, ww, x1, x2, x3, x4⟩ := a2.get
      have ne : ∀ {c : Addr} {u : HO}, H c = some u → (∀ l, u ≠ .dK l) → H1 c = some u := fun {c u} e hu => s1 _ _ (by rw [upd_ne (ne_of e hq (fun z => hu _ z))]; exact e)
      have hp1 := ne h1 (by intro l z; cases z)
      have x1' := ne x1 (by intro l z; cases z)
      have x2' := ne x2 (by intro l z; cases z)
      have kk : kV (kN x.1) = nI x.1 := rfl
      rw [kk]
      clear h1 x1 x2 x3 x4
      walk_at "rdh"
      refine ⟨_, dget (.inr ⟨od, s1 _ _ upd_same⟩) (SM.lookup_mem nd hx), _, rfl, ?_⟩
      have q' := q' H1 fun _ _ z => z
      have q' : R (nI (x.2 + Sched.latencyOf t x.1)) H1 := q'
      rw [latency_is hbx] at q'
      exact q'
    · refine ⟨lock_at s1, D, rfl, b.map fun x => x.2 + Sched.latencyOf t x.1, ?_, ?_⟩
      · have : D ≠ q := fun e => by rw [e, upd_same] at hD; cases hD
        rw [upd_ne this, hD']
        unfold dN natV
        rw [List.map_map, List.map_map]
        rfl
      · exact k _ (same_unlock hq s1)
def sp_after_units (A : Adr) : Sp := fun vs H Q _ => ∃ (p q : Addr) (t : Sched.State) (b : Sched.Begun) (u : Nat), vs = [.ref p, .ref q, nI u] ∧ LnAt A H p t ∧ SM.Wf t ∧ H q = some (.dK (dN b)) ∧ b.length ≤ 1000 ∧ SM.Good t b ∧ u < 8 ∧
  ∀ H' es, Same H H' → es.Perm (SM.endsOf t b u) → es.Pairwise (· ≤ ·) → Q (nI (SM.aUnits (t.units.getD u 1) es)) H'
theorem ok_after_units (T : Txt K mg A) : FnOk P w K mg base CX0 1 A.f_after_units A.d_after_units ["line", "begins", "unit_class"] (sp_after_units A) := by
  refine T.F_after_units.ok sc_after_units (fun vs H Q E h => ?_) (fun cdv B outer s H vs Q E hr h => ?_)
  · obtain ⟨p, q, t, b, u, rfl, _⟩ := h
    rfl
  · obtain ⟨p, q, t, b, u, rfl, hln, wf, hq, hl, g, hu, k⟩ := h
    obtain ⟨ul, kl, bl, dx0, l1, l2, l3⟩ := hln
    obtain ⟨vs, h1, h2, h3⟩ := l3.get
    have cl_Line := T.cl_Line
    have a_Line_width := T.a_Line_width
    have a_Line_units := T.a_Line_units
    have a_Line_kinds := T.a_Line_kinds
    have a_Line_block := T.a_Line_block
    have cl_Instruction := T.cl_Instruction
    have a_Instruction_kind := T.a_Instruction_kind
    have a_Instruction_reads := T.a_Instruction_reads
    have a_Instruction_writes := T.a_Instruction_writes
    have a_Instruction_mem := T.a_Instruction_mem
    have a_Instruction_place := T.a_Instruction_place
    have cl_Kind := T.cl_Kind
    have a_Kind_unit_class := T.a_Kind_unit_class
    have a_Kind_busy := T.a_Kind_busy
    have a_Kind_latency := T.a_Kind_latency
    refine ⟨_, (pss_cons (ps_set (i := 3) sc_after_units.nd rfl (Or.inl rfl) (pe_lst pa_nil)) (pss_cons (ps_lock (ps_for PassesOwn.never rfl (pi_keys (pv 1)) (pg_name (i := 4) sc_after_units.nd rfl (Or.inl rfl)) (pss_cons (ps_set (i := 6) sc_after_units.nd rfl (Or.inl rfl) (pe_fld (pe_ix ix_lst (pe_fld (pv 0) rfl) (pv 4) (fun _ _ => rfl)) rfl)) (pss_one (ps_if (pt_cmpR op_eq (pe_fld (pv 6) rfl) (pv 2) (nomark _)) (pss_one (ps_expr (pe_bm PySem.F.plainAttrs_list PySem.F.slot_list_append PySem.F.type_list_append mt_append (pv 3) (pa_cons (pe_op op_add (pe_dget (hu_of hr) (pv 1) (pv 4) (fun _ _ => rfl)) (pe_fld (pv 6) rfl)) pa_nil)))) pss_nil))))) (pss_cons (ps_set (i := 5) sc_after_units.nd rfl (Or.inl rfl) (pe_ix ix_lst (pe_fld (pv 0) rfl) (pv 2) (fun _ _ => rfl))) (pss_cons (ps_if (pt_cmpR op_lt (pe_callB len_lst (by rfl) T.n_len PySem.boot_len (pa_cons (pv 3) pa_nil)) (pv 5) (nomark _)) (pss_one (ps_ret pe_int)) pss_nil) (pss_one (ps_ret (pe_ix ix_lst (pe_callB sorted_lst (by rfl) T.n_sorted PyProof.Rows.boot_sorted (pa_cons (pv 3) pa_nil)) (pe_un un_neg (pv 5)) (fun _ _ => rfl)))))))), ?_⟩
    refine seq_step fun N hN => ?_
    walk_at "rdh"
    intro e he
    have l1' := l1
    refine hN.go (seq_step fun N hN => ?_)
    have qe : q ≠ e := ne_of_none hq he
    refine ⟨q, HO.dK (dN b), by rw [upd_ne qe]; exact hq, True.intro, fun od => ?_⟩
    refine ⟨_, rfl, q, od, rfl, .inl ⟨dN b, upd_same, ?_⟩⟩
    refine for_keys (fun i σ H' => (∃ x4 x6, σ = [some (V.ref p), some (V.ref q), some (nI u), some (V.ref e), x4, none, x6]) ∧ Same H (upd H' q (.dK (dN b))) ∧ H' q = some (.frz od (.dK (dN b))) ∧ H' e = some (.lst (natV (SM.endsOf t (b.take i) u)))) ?_ (fun i σ H' hi pv => pv.2.2.1) ?_ ?_
    · refine ⟨⟨_, _, rfl⟩, ?_, upd_same, by rw [upd_ne qe.symm, upd_same]; rfl⟩
      intro c v ec
      by_cases z : c = q
      · subst z
        rw [hq] at ec
        cases ec
        exact upd_same
      · rw [upd_ne z, upd_ne z, upd_ne (ne_of_none ec he)]
        exact ec
    · rintro i kk v σ H1 hkv ⟨⟨x4, x6, rfl⟩, s1, hq1, he1⟩
      have hkv' : (dN b)[i]? = some (kk, v) := hkv
      unfold dN at hkv'
      rw [List.getElem?_map] at hkv'
      obtain ⟨x, hx, e1⟩ := Option.map_eq_some_iff.mp hkv'
      cases e1
      have mx := List.mem_of_getElem? hx
      have hlt := g.lt x mx
      have hbx : t.block[x.1]? = some (t.block[x.1]'hlt) := List.getElem?_eq_getElem hlt
      generalize t.block[x.1]'hlt = y at hbx
      obtain ⟨a, a1, a2⟩ := h3 _ y hbx
      obtain ⟨dx, kp, dk, r, ww, x1, x2, x3, x5⟩ := a2.get
      have ne : ∀ {c : Addr} {u : HO}, H c = some u → (∀ l, u ≠ .dK l) → H1 c = some u := fun {c u} ec hu => by
        have z := s1 _ _ ec
        rw [upd_ne (ne_of ec hq (fun z => hu _ z))] at z
        exact z
      have l11 := ne l1 (by intro l z; cases z)
      have h11 := ne h1 (by intro l z; cases z)
      have x11 := ne x1 (by intro l z; cases z)
      have x21 := ne x2 (by intro l z; cases z)
      have kq : kV (kN x.1) = nI x.1 := rfl
      rw [kq]
      clear h1 x1 x2 x3 x5 l1 l1'
      refine seq_step fun N2 hN2 => ?_
      walk_at "rdh"
      refine hN2.go ?_
      have tk := ends_snoc (b := b.take i) hbx u
      rw [← take_snoc hx] at tk
      walk_at "rdh"
      by_cases c : (y.kind.unit : Int) = (u : Int)
      · rw [if_pos c]
        rw [if_pos (by omega : y.kind.unit = u)]
        refine ⟨_, dget (.inr ⟨od, hq1⟩) (SM.lookup_mem g.nd mx), _, rfl, ?_, ?_, ?_⟩
        · rw [natV_length]
          have := ends_len t (b.take i) u
          have : (b.take i).length ≤ b.length := by rw [List.length_take]; omega
          omega
        · intro c v ec
          by_cases z : c = q
          · have s1' := s1 c v ec
            subst z
            rw [upd_same] at s1' ⊢
            exact s1'
          · have s1' := s1 c v ec
            rw [upd_ne z] at s1' ⊢
            rw [upd_ne (ne_of_none ec he)]
            exact s1'
        · rw [natV_app]
          rfl
      · rw [if_neg c]
        rw [if_neg (by omega : ¬ y.kind.unit = u), List.append_nil]
    · rintro σ H1 ⟨⟨x4, x6, rfl⟩, s1, hq1, he1⟩
      rw [dN_length, List.take_length] at he1
      refine ⟨hq1, hN.go (seq_step fun N hN => ?_)⟩
      have qe : e ≠ q := qe.symm
      have he2 : upd H1 q (HO.dK (dN b)) e = some (HO.lst (natV (SM.endsOf t b u))) := by rw [upd_ne qe]; exact he1
      generalize upd H1 q (HO.dK (dN b)) = H2 at s1 he2 ⊢
      have l12 := s1 _ _ l1
      have l22 := s1 _ _ l2
      have hun : t.units[u]? = some (t.units[u]'(by rw [wf.ulen]; exact hu)) := List.getElem?_eq_getElem (by rw [wf.ulen]; exact hu)
      have hgd : t.units.getD u 1 = t.units[u]'(by rw [wf.ulen]; exact hu) := by rw [List.getD_eq_getElem?_getD, hun]; rfl
      generalize t.units[u]'(by rw [wf.ulen]; exact hu) = n at hun hgd
      have hn := wf.u n (List.mem_of_getElem? hun)
      rw [hgd] at k
      have hat : atI (natV t.units) (u : Int) = some (nI n) := atI_nat (natV_get hun)
      clear l1 l1' l2
      walk_at "rdh"
      refine hN.go (seq_step fun N hN => ?_)
      walk_at "rdh"
      rw [natV_length]
      by_cases c : ((SM.endsOf t b u).length : Int) < (n : Int)
      · rw [if_pos c]
        have k := k H2 ((SM.endsOf t b u).mergeSort fun a b => decide (a ≤ b)) s1 (List.mergeSort_perm _ _) ((List.pairwise_mergeSort (fun a b c h1 h2 => by simp at h1 h2 ⊢; omega) (fun a b => by simp; omega) _).imp fun h => of_decide_eq_true h)
        unfold SM.aUnits at k
        rw [if_pos (by rw [(List.mergeSort_perm _ _).length_eq]; omega)] at k
        exact k
      · rw [if_neg c]
        refine hN.go ?_
        walk_at "rdh"
        refine ⟨_, nI_map _, fun ms a hp hs ha => ?_⟩
        obtain ⟨es, rfl, pe⟩ := ints_nats hp
        rw [← nI_map]
        refine ⟨_, atI_back hn.1 (by rw [pe.length_eq]; omega), ?_⟩
        have k := k (upd H2 a (HO.lst (natV es))) es (Same.trans s1 (Same.new ha)) pe ((List.pairwise_map.mp hs).imp fun h => by omega)
        unfold SM.aUnits at k
        rw [if_neg (by rw [pe.length_eq]; omega)] at k
        exact k
end

theorem dputK {H : Hp} {a : Addr} {kvs : List (Key × V)} {o : List Nat} {k : Nat} {v : V} (h : H a = some (.dK kvs)) (ks : Keys kvs o) (hk : k ∉ o) (hl : o.length ≤ 1000) : DPut H a (nI k) v (upd H a (.dK (kvs ++ [(kN k, v)]))) := by
  have hn : valV kvs (kN k) = none := by
    cases e : valV kvs (kN k) with
    | none => rfl
    | some z =>
      have q := keys_has ks k
      rw [e] at q
      exact absurd (List.contains_iff_mem.mp q.symm) hk
  have hlen : kvs.length = o.length := by
    have := congrArg List.length ks
    rw [List.length_map, List.length_map] at this
    exact this
  refine .inl ⟨_, kN k, h, rfl, small1000 (by omega), ?_⟩
  rw [putK_new _ hn]
theorem keys_snoc {kvs : List (Key × V)} {o : List Nat} {k : Nat} {v : V} (ks : Keys kvs o) : Keys (kvs ++ [(kN k, v)]) (o ++ [k]) := by
  unfold Keys at *
  rw [List.map_append, List.map_append, ks]
  rfl
theorem dN_vals (b : Sched.Begun) : (dN b).map (·.2) = natV (b.map (·.2)) := by
  unfold dN natV
  rw [List.map_map, List.map_map]
  rfl
theorem nodup_short : ∀ (n : Nat) (o : List Nat), o.Nodup → (∀ x ∈ o, x < n) → o.length ≤ n
  | 0, o, _, h => by
    cases o with
    | nil => exact Nat.le_refl _
    | cons a o => exact absurd (h a List.mem_cons_self) (by omega)
  | n + 1, o, nd, h => by
    by_cases m : n ∈ o
    · have e := List.length_erase_of_mem m
      have q := nodup_short n (o.erase n) (nd.erase n) fun x hx => by
        obtain ⟨h1, h2⟩ := (nd.mem_erase_iff).mp hx
        have := h x h2
        omega
      omega
    · have q := nodup_short n o nd fun x hx => by
        have := h x hx
        have : x ≠ n := fun e => m (by rw [← e]; exact hx)
        omega
      omega
theorem acc_len {t : Sched.State} {o : List Nat} (ac : SM.Acc t o) : o.length ≤ t.block.length := nodup_short _ _ ac.nodup ac.lt
theorem take_snocN {l : List Nat} {i x : Nat} (h : l[i]? = some x) : l.take (i + 1) = l.take i ++ [x] := by rw [List.take_add_one, h]; rfl
theorem wt_len (t : Sched.State) (j : Nat) : (SM.wt t j).length ≤ j := wtp_len t j j
theorem wt_nodup (t : Sched.State) (j : Nat) : ((SM.wt t j).map (·.1)).Nodup := by
  have key : ∀ n, ((wtp t j n).map (·.1)).Nodup := by
    intro n
    induction n with
    | zero => exact List.nodup_nil
    | succ n ih =>
      rw [wtp_succ]
      cases e : Sched.need t n j with
      | none => rw [List.append_nil]; exact ih
      | some d =>
        rw [List.map_append]
        exact nd_snoc ih (wtp_new t j n)
  exact key j
section
variable {P : Program} {w : World} {K : PySem.W.Frag} {mg : Str → Option Value} {base : Heap} {A : Adr}
def sp_is_accepted : Sp := fun vs H Q _ => ∃ (p q : Addr) (t : Sched.State) (O : List Nat), vs = [.ref p, .ref q] ∧ WtsAt H p t ∧ H q = some (.lst (natV O)) ∧ SM.Wf t ∧ O.Perm (List.range t.block.length) ∧ ∀ H', Same H H' → Q (.bl (Sched.keeps t O)) H'
theorem ok_is_accepted (T : Txt K mg A) : FnOk P w K mg base CX0 2 A.f_is_accepted A.d_is_accepted ["waits", "order"] sp_is_accepted := by
  have G_have_all_begun := ok_have_all_begun (P := P) (w := w) (base := base) T
  refine T.F_is_accepted.ok sc_is_accepted (fun vs H Q E h => ?_) (fun cdv B outer s H vs Q E hr h => ?_)
  · obtain ⟨p, q, t, O, rfl, _⟩ := h
    rfl
  · obtain ⟨p, q, t, O, rfl, hw, hq, wf, pm, k⟩ := h
    obtain ⟨vs, h1, h2, h3⟩ := hw.get
    have hlen : O.length = t.block.length := by rw [pm.length_eq, List.length_range]
    have nd : O.Nodup := pm.nodup_iff.mpr List.nodup_range
    have hb := wf.blen
    refine ⟨_, (pss_cons (ps_set (i := 2) sc_is_accepted.nd rfl (Or.inl rfl) pe_dnewK) (pss_cons (ps_for PassesOwn.never rfl (pi_list (pv 1)) (pg_name (i := 3) sc_is_accepted.nd rfl (Or.inl rfl)) (pss_cons (ps_if (pt_not (pt_val (pe_call G_have_all_begun (hr.mono (by decide)) (by rfl) T.g_have_all_begun T.k_have_all_begun T.b_have_all_begun .nil pass0 (pa_cons (pe_ix ix_lst (pv 0) (pv 3) (fun _ _ => rfl)) (pa_cons (pv 2) pa_nil))))) (pss_one (ps_ret pe_bl)) pss_nil) (pss_one (ps_dput (hu_of hr) (pv 2) (pv 3) pe_bl rfl)))) (pss_one (ps_ret pe_bl)))), ?_⟩
    refine seq_step fun N hN => ?_
    walk_at "rdh"
    intro d hd
    refine hN.go (seq_step fun N hN => ?_)
    refine ⟨_, rfl, q, rfl, ⟨_, SqL.of (Same.new hd _ _ hq)⟩, ?_⟩
    refine for_list (xs := natV O) (fun i σ H' => (∃ x3, σ = [some (V.ref p), some (V.ref q), some (V.ref d), x3]) ∧ Same H H' ∧ SM.Acc t (O.take i) ∧ ∃ kvs, H' d = some (.dK kvs) ∧ Keys kvs (O.take i)) ⟨⟨_, rfl⟩, Same.new hd, .nil, [], upd_same, rfl⟩ (fun i σ H' hi pv => SqL.of (pv.2.1 _ _ hq)) ?_ ?_
    · rintro i x σ H1 hx ⟨⟨x3, rfl⟩, s1, ac, kvs, hd1, ks⟩
      unfold natV at hx
      rw [List.getElem?_map] at hx
      obtain ⟨n, hn, rfl⟩ := Option.map_eq_some_iff.mp hx
      have hnl : n < t.block.length := List.mem_range.mp (pm.mem_iff.mp (List.mem_of_getElem? hn))
      obtain ⟨a, a1, a2⟩ := h3 n hnl
      have h11 := s1 _ _ h1
      have a21 := s1 _ _ a2
      have tk := take_snocN hn
      have hnot : n ∉ O.take i := fun m => by
        have nd2 : (O.take (i + 1)).Nodup := nd.sublist (List.take_sublist _ _)
        rw [tk] at nd2
        exact (List.nodup_append.mp nd2).2.2 n m n (List.mem_singleton.mpr rfl) rfl
      refine seq_step fun N2 hN2 => ?_
      unfold sp_have_all_begun
      clear h1
      walk_at "rdh"
      refine ⟨_, rfl, (by have := wt_len t n; omega), _, rfl, _, ks, fun H2 s2 => ?_⟩
      have s02 := Same.trans s1 s2
      have hd2 := s2 _ _ hd1
      cases hh : SM.has (O.take i) (SM.wt t n) with
      | false =>
        rw [if_pos rfl]
        have e : Sched.keeps t O = false := by
          cases z : Sched.keeps t O with
          | false => rfl
          | true =>
            have ac2 := ((SM.full_of_acc pm).mpr z).pre (List.take_prefix (i + 1) O)
            rw [tk] at ac2
            rw [ac2.inv.2.2.2] at hh
            cases hh
        rw [e] at k
        exact k H2 s02
      | true =>
        rw [if_neg Bool.noConfusion]
        refine hN2.go ?_
        walk_at "rd"
        refine ⟨_, dputK hd2 ks hnot (by rw [List.length_take]; omega), Same.upd s02 hd, ?_, _, upd_same, ?_⟩
        · rw [tk]
          exact .snoc ac hnl hnot hh
        · rw [tk]
          exact keys_snoc ks
    · rintro σ H1 ⟨⟨x3, rfl⟩, s1, ac, kvs, hd1, ks⟩
      rw [natV_length, List.take_length] at ac
      refine hN.go ?_
      walk_at "rd"
      have e := (SM.full_of_acc pm).mp ac
      rw [e] at k
      exact k H1 s1
def sp_earliest_begin (A : Adr) : Sp := fun vs H Q _ => ∃ (p q r : Addr) (t : Sched.State) (b : Sched.Begun) (j : Nat), vs = [.ref p, .ref q, .ref r, nI j] ∧ LnAt A H p t ∧ SM.Wf t ∧ WtsAt H q t ∧ H r = some (.dK (dN b)) ∧ b.length ≤ 1000 ∧ SM.Good t b ∧ j < t.block.length ∧ SM.has (b.map (·.1)) (SM.wt t j) = true ∧
  ∀ H', Same H H' → Q (nI (Sched.beginAt t b j)) H'
theorem ok_earliest_begin (T : Txt K mg A) : FnOk P w K mg base CX0 2 A.f_earliest_begin A.d_earliest_begin ["line", "waits", "begins", "k"] (sp_earliest_begin A) := by
  have G_after_units := ok_after_units (P := P) (w := w) (base := base) T
  have G_after_waits := ok_after_waits (P := P) (w := w) (base := base) T
  have G_after_width := ok_after_width (P := P) (w := w) (base := base) T
  refine T.F_earliest_begin.ok sc_earliest_begin (fun vs H Q E h => ?_) (fun cdv B outer s H vs Q E hr h => ?_)
  · obtain ⟨p, q, r, t, b, j, rfl, _⟩ := h
    rfl
  · obtain ⟨p, q, r, t, b, j, rfl, hln, wf, hw, hr', hl, g, hj, ha, k⟩ := h
    obtain ⟨vs, w1, w2, w3⟩ := hw.get
    obtain ⟨ul, kl, bl, dx0, l1, l2, l3⟩ := id hln
    obtain ⟨us, b1, b2, b3⟩ := l3.get
    have hbj : t.block[j]? = some (t.block[j]'hj) := List.getElem?_eq_getElem hj
    generalize t.block[j]'hj = y at hbj
    obtain ⟨a, a1, a2⟩ := b3 j y hbj
    obtain ⟨dx, kp, dk, rr, ww, x1, x2, x3, x5⟩ := a2.get
    obtain ⟨c, c1, c2⟩ := w3 j hj
    have cl_Line := T.cl_Line
    have a_Line_width := T.a_Line_width
    have a_Line_units := T.a_Line_units
    have a_Line_kinds := T.a_Line_kinds
    have a_Line_block := T.a_Line_block
    have cl_Instruction := T.cl_Instruction
    have a_Instruction_kind := T.a_Instruction_kind
    have a_Instruction_reads := T.a_Instruction_reads
    have a_Instruction_writes := T.a_Instruction_writes
    have a_Instruction_mem := T.a_Instruction_mem
    have a_Instruction_place := T.a_Instruction_place
    have cl_Kind := T.cl_Kind
    have a_Kind_unit_class := T.a_Kind_unit_class
    have a_Kind_busy := T.a_Kind_busy
    have a_Kind_latency := T.a_Kind_latency
    have oy := wf.b y (List.mem_of_getElem? hbj)
    refine ⟨_, (pss_cons (ps_set (i := 4) sc_earliest_begin.nd rfl (Or.inl rfl) (pe_listV rfl (by rfl) T.n_list (pv 2))) (pss_cons (ps_set (i := 5) sc_earliest_begin.nd rfl (Or.inl rfl) (pe_maxD rfl (by rfl) T.n_max (pa_cons (pv 4) pa_nil) pe_int)) (pss_one (ps_ret (pe_callB (call_max4 rfl) (by rfl) T.n_max PyProof.Rows.boot_max (pa_cons (pv 5) (pa_cons (pe_call G_after_width (hr.mono (by decide)) (by rfl) T.g_after_width T.k_after_width T.b_after_width .nil pass0 (pa_cons (pe_fld (pv 0) rfl) (pa_cons (pv 4) pa_nil))) (pa_cons (pe_call G_after_waits (hr.mono (by decide)) (by rfl) T.g_after_waits T.k_after_waits T.b_after_waits .nil pass0 (pa_cons (pe_ix ix_lst (pv 1) (pv 3) (fun _ _ => rfl)) (pa_cons (pv 2) pa_nil))) (pa_cons (pe_call G_after_units (hr.mono (by decide)) (by rfl) T.g_after_units T.k_after_units T.b_after_units .nil pass0 (pa_cons (pv 0) (pa_cons (pv 2) (pa_cons (pe_fld (pe_fld (pe_ix ix_lst (pe_fld (pv 0) rfl) (pv 3) (fun _ _ => rfl)) rfl) rfl) pa_nil)))) pa_nil))))))))), ?_⟩
    refine seq_step fun N hN => ?_
    walk_at "rdh"
    refine ⟨_, rfl, fun cy hcy => ?_⟩
    rw [dN_vals]
    have s1 : Same H (upd H cy (.lst (natV (b.map (·.2))))) := Same.new hcy
    have hc1 : upd H cy (.lst (natV (b.map (·.2)))) cy = some (.lst (natV (b.map (·.2)))) := upd_same
    generalize upd H cy (.lst (natV (b.map (·.2)))) = H1 at s1 hc1 ⊢
    refine hN.go (seq_step fun N hN => ?_)
    have l11 := s1 _ _ l1
    have w11 := s1 _ _ w1
    have b11 := s1 _ _ b1
    have x11 := s1 _ _ x1
    have x21 := s1 _ _ x2
    clear l1 w1 b1 x1 x2 x3 x5 l2
    walk_at "rdh"
    refine ⟨_, rfl, hN.go ?_⟩
    unfold sp_after_width sp_after_waits
    walk_at "rdh"
    refine ⟨t.width, rfl, _, rfl, wf.w1, _, s1 _ _ c2, (by have := wt_len t j; have := wf.blen; omega), wt_nodup t j, _, s1 _ _ hr', ha, fun H2 s2 => ?_⟩
    have l12 := s2 _ _ l11
    have b12 := s2 _ _ b11
    have x12 := s2 _ _ x11
    have x22 := s2 _ _ x21
    have s02 := Same.trans s1 s2
    clear l11 w11 b11 x11 x21 hc1
    unfold sp_after_units
    walk_at "rdh"
    refine ⟨t, b, y.kind.unit, rfl, hln.mono s02, wf, s02 _ _ hr', hl, g, oy.kind.unit, fun H3 es s3 pe se => ⟨_, rfl, _, rfl, _, rfl, _, rfl, ?_⟩⟩
    have e := SM.eb_is wf g hbj ha pe se
    have k := k H3 (Same.trans s02 s3)
    rw [e] at k
    exact k
def sp_begins_in_order (A : Adr) : Sp := fun vs H Q _ => ∃ (p q r : Addr) (t : Sched.State) (O : List Nat), vs = [.ref p, .ref q, .ref r] ∧ LnAt A H p t ∧ SM.Wf t ∧ WtsAt H q t ∧ H r = some (.lst (natV O)) ∧ SM.Acc t O ∧ O.length ≤ 1000 ∧
  ∀ H' d, Same H H' → H d = none → H' d = some (.dK (dN (SM.tb t O))) → Q (.ref d) H'
theorem ok_begins_in_order (T : Txt K mg A) : FnOk P w K mg base CX0 3 A.f_begins_in_order A.d_begins_in_order ["line", "waits", "order"] (sp_begins_in_order A) := by
  have G_earliest_begin := ok_earliest_begin (P := P) (w := w) (base := base) T
  refine T.F_begins_in_order.ok sc_begins_in_order (fun vs H Q E h => ?_) (fun cdv B outer s H vs Q E hr h => ?_)
  · obtain ⟨p, q, r, t, O, rfl, _⟩ := h
    rfl
  · obtain ⟨p, q, r, t, O, rfl, hln, wf, hw, hr', ac, hl, k⟩ := h
    refine ⟨_, (pss_cons (ps_set (i := 3) sc_begins_in_order.nd rfl (Or.inl rfl) pe_dnewK) (pss_cons (ps_for PassesOwn.never rfl (pi_list (pv 2)) (pg_name (i := 4) sc_begins_in_order.nd rfl (Or.inl rfl)) (pss_one (ps_dput (hu_of hr) (pv 3) (pv 4) (pe_call G_earliest_begin (hr.mono (by decide)) (by rfl) T.g_earliest_begin T.k_earliest_begin T.b_earliest_begin .nil pass0 (pa_cons (pv 0) (pa_cons (pv 1) (pa_cons (pv 3) (pa_cons (pv 4) pa_nil))))) rfl))) (pss_one (ps_ret (pv 3))))), ?_⟩
    refine seq_step fun N hN => ?_
    walk_at "rdh"
    intro d hd
    refine hN.go (seq_step fun N hN => ?_)
    refine ⟨_, rfl, r, rfl, ⟨_, SqL.of (Same.new hd _ _ hr')⟩, ?_⟩
    refine for_list (xs := natV O) (fun i σ H' => (∃ x4, σ = [some (V.ref p), some (V.ref q), some (V.ref r), some (V.ref d), x4]) ∧ Same H H' ∧ H' d = some (.dK (dN (SM.tb t (O.take i))))) ⟨⟨_, rfl⟩, Same.new hd, upd_same⟩ (fun i σ H' hi pv => SqL.of (pv.2.1 _ _ hr')) ?_ ?_
    · rintro i x σ H1 hx ⟨⟨x4, rfl⟩, s1, hd1⟩
      unfold natV at hx
      rw [List.getElem?_map] at hx
      obtain ⟨n, hn, rfl⟩ := Option.map_eq_some_iff.mp hx
      have tk := take_snocN hn
      have ac2 := ac.pre (List.take_prefix (i + 1) O)
      rw [tk] at ac2
      obtain ⟨a1, a2, a3, a4⟩ := ac2.inv
      have ln : (SM.tb t (O.take i)).length ≤ 1000 := by rw [SM.tb_length, List.length_take]; omega
      unfold sp_earliest_begin
      walk_at "rdh"
      refine ⟨t, _, n, rfl, hln.mono s1, wf, hw.mono s1, rfl, ln, a1.good wf, a2, (by rw [SM.tb_keys]; exact a4), fun H2 s2 => ?_⟩
      refine ⟨_, dput (s2 _ _ hd1) (by rw [SM.tb_keys]; exact a3) ln, Same.upd (Same.trans s1 s2) hd, ?_⟩
      rw [upd_same, SM.tb_snoc]
    · rintro σ H1 ⟨⟨x4, rfl⟩, s1, hd1⟩
      rw [natV_length, List.take_length] at hd1
      refine hN.go ?_
      walk_at "rd"
      exact k H1 d s1 hd hd1
def chN (t : Sched.State) (p : List Nat) (n : Nat) : List (List Nat) := ((List.range n).filter fun k => SM.next t p k).map fun k => p ++ [k]
theorem chN_succ (t : Sched.State) (p : List Nat) (n : Nat) : chN t p (n + 1) = chN t p n ++ (if SM.next t p n = true then [p ++ [n]] else []) := by
  unfold chN
  rw [List.range_succ, List.filter_append, List.map_append]
  congr 1
  rw [List.filter_cons]
  by_cases e : SM.next t p n = true
  · rw [if_pos e, if_pos e]
    rfl
  · rw [if_neg e, if_neg e]
    rfl
abbrev TbAt (t : Sched.State) (H : Hp) (d : Addr) (q : List Nat) : Prop := H d = some (.dK (dN (SM.tb t q)))
def sp_with_one_more (A : Adr) : Sp := fun vs H Q _ => ∃ (p q r : Addr) (t : Sched.State) (o : List Nat), vs = [.ref p, .ref q, .ref r] ∧ LnAt A H p t ∧ SM.Wf t ∧ WtsAt H q t ∧ TbAt t H r o ∧ SM.Acc t o ∧
  ∀ H' l ds, Same H H' → H l = none → H' l = some (.lst (ds.map V.ref)) → All2 (TbAt t H') ds (SM.childs t o) → Q (.ref l) H'
theorem ok_with_one_more (T : Txt K mg A) : FnOk P w K mg base CX0 3 A.f_with_one_more A.d_with_one_more ["line", "waits", "begins"] (sp_with_one_more A) := by
  have G_earliest_begin := ok_earliest_begin (P := P) (w := w) (base := base) T
  have G_have_all_begun := ok_have_all_begun (P := P) (w := w) (base := base) T
  refine T.F_with_one_more.ok sc_with_one_more (fun vs H Q E h => ?_) (fun cdv B outer s H vs Q E hr h => ?_)
  · obtain ⟨p, q, r, t, o, rfl, _⟩ := h
    rfl
  · obtain ⟨p, q, r, t, o, rfl, hln, wf, hw, hr', ac, k⟩ := h
    obtain ⟨vs, w1, w2, w3⟩ := hw.get
    obtain ⟨ul, kl, bl, dx0, l1, l2, l3⟩ := id hln
    obtain ⟨us, b1, b2, b3⟩ := l3.get
    have lo := acc_len ac
    have hb := wf.blen
    have ln : (SM.tb t o).length ≤ 1000 := by
      rw [SM.tb_length]
      omega
    have cl_Line := T.cl_Line
    have a_Line_width := T.a_Line_width
    have a_Line_units := T.a_Line_units
    have a_Line_kinds := T.a_Line_kinds
    have a_Line_block := T.a_Line_block
    refine ⟨_, (pss_cons (ps_set (i := 3) sc_with_one_more.nd rfl (Or.inl rfl) (pe_lst pa_nil)) (pss_cons (ps_for PassesOwn.never rfl (pi_range1 (by rfl) T.n_range (pa_cons (pe_callB len_lst (by rfl) T.n_len PySem.boot_len (pa_cons (pe_fld (pv 0) rfl) pa_nil)) pa_nil)) (pg_name (i := 4) sc_with_one_more.nd rfl (Or.inl rfl)) (pss_one (ps_if (PW.pt (pw_and (pt_cmp (pc_dnotin (hu_of hr) (pv 4) (pv 2))) (pw_and1 (pt_val (pe_call G_have_all_begun (hr.mono (by decide)) (by rfl) T.g_have_all_begun T.k_have_all_begun T.b_have_all_begun .nil pass0 (pa_cons (pe_ix ix_lst (pv 1) (pv 4) (fun _ _ => rfl)) (pa_cons (pv 2) pa_nil))))))) (pss_cons (ps_set (i := 5) sc_with_one_more.nd rfl (Or.inl rfl) (pe_callTy dict_of (by rfl) T.n_dict PyProof.Rows.boot_dict (pa_cons (pv 2) pa_nil))) (pss_cons (ps_dput (hu_of hr) (pv 5) (pv 4) (pe_call G_earliest_begin (hr.mono (by decide)) (by rfl) T.g_earliest_begin T.k_earliest_begin T.b_earliest_begin .nil pass0 (pa_cons (pv 0) (pa_cons (pv 1) (pa_cons (pv 2) (pa_cons (pv 4) pa_nil))))) rfl) (pss_one (ps_expr (pe_bm PySem.F.plainAttrs_list PySem.F.slot_list_append PySem.F.type_list_append mt_append (pv 3) (pa_cons (pv 5) pa_nil)))))) pss_nil))) (pss_one (ps_ret (pv 3))))), ?_⟩
    refine seq_step fun N hN => ?_
    walk_at "rdh"
    intro l hl
    refine hN.go (seq_step fun N hN => ?_)
    have s0 : Same H (upd H l (.lst [])) := Same.new hl
    have l10 := s0 _ _ l1
    have b10 := s0 _ _ b1
    have hrng : ∀ R : List V → Hp → Prop, R [.int (t.block.length : Int)] (upd H l (.lst [])) → (tCons (tCB mLen (tCons (tFld K (tVar 0) "block") tNil)) tNil) [some (V.ref p), some (V.ref q), some (V.ref r), some (V.ref l), none, none] (upd H l (.lst [])) R := fun R h => by
      clear l1 b1 w1 l2
      walk_at "rdh"
      done
    unfold tFor iRng1
    refine hrng _ ?_
    refine ⟨_, rfl, by omega, by omega, ?_⟩
    refine for_range (fun i σ H' => (∃ x4 x5, σ = [some (V.ref p), some (V.ref q), some (V.ref r), some (V.ref l), x4, x5]) ∧ Same H H' ∧ ∃ ds, H' l = some (.lst (ds.map V.ref)) ∧ All2 (TbAt t H') ds (chN t o i)) ⟨⟨_, _, rfl⟩, s0, [], upd_same, .nil⟩ ?_ ?_
    · rintro i σ H1 hi ⟨⟨x4, x5, rfl⟩, s1, ds, hl1, al⟩
      rw [Int.toNat_natCast] at hi
      rw [show ((0 : Int) + (i : Int)) = (i : Int) from by omega]
      obtain ⟨c, c1, c2⟩ := w3 i hi
      have w11 := s1 _ _ w1
      have hr1 := s1 _ _ hr'
      have cs := chN_succ t o i
      clear l1 b1 w1 l2 l10 b10 s0
      unfold sp_have_all_begun
      walk_at "rdh"
      refine ⟨_, dhas (.inl hr1), ?_⟩
      rw [keys_has (keys_dN _), SM.tb_keys]
      cases hc : o.contains i with
      | true =>
        rw [if_neg Bool.noConfusion]
        have nx : ¬ SM.next t o i = true := by unfold SM.next; rw [hc]; exact Bool.noConfusion
        rw [if_neg nx, List.append_nil]
        exact ⟨ds, rfl, al⟩
      | false =>
        rw [if_pos rfl]
        refine ⟨_, s1 _ _ c2, (by have := wt_len t i; omega), _, rfl, _, keys_dN _, fun H2 s2 => ?_⟩
        rw [SM.tb_keys]
        have s02 := Same.trans s1 s2
        cases hh : SM.has o (SM.wt t i) with
        | false =>
          rw [if_neg Bool.noConfusion]
          have nx : ¬ SM.next t o i = true := by unfold SM.next; rw [hh, Bool.and_false]; exact Bool.noConfusion
          rw [if_neg nx, List.append_nil]
          exact ⟨s02, ds, s2 _ _ hl1, al.imp fun _ _ q => s2 _ _ q⟩
        | true =>
          rw [if_pos rfl]
          have nx : SM.next t o i = true := by unfold SM.next; rw [hc, hh]; rfl
          rw [if_pos nx]
          refine ⟨_, s2 _ _ hr1, fun d hd => ?_⟩
          have s3 : Same H2 (upd H2 d (.dK (dN (SM.tb t o)))) := Same.new hd
          have hd3 : upd H2 d (.dK (dN (SM.tb t o))) d = some (.dK (dN (SM.tb t o))) := upd_same
          generalize upd H2 d (.dK (dN (SM.tb t o))) = H3 at s3 hd3 ⊢
          have s03 := Same.trans s02 s3
          have hni : i ∉ (SM.tb t o).map (·.1) := by
            rw [SM.tb_keys]
            intro m
            rw [List.contains_iff_mem.mpr m] at hc
            cases hc
          refine ⟨p, q, r, t, _, i, rfl, hln.mono s03, wf, hw.mono s03, s03 _ _ hr', ln, ac.good wf, hi, (by rw [SM.tb_keys]; exact hh), fun H4 s4 => ?_⟩
          have s04 := Same.trans s03 s4
          have hd0 : H d = none := Same.free s02 hd
          have hl2 := s2 _ _ hl1
          have hld : l ≠ d := ne_of_none hl2 hd
          have hl4 : upd H4 d (.dK (dN (SM.tb t o ++ [(i, Sched.beginAt t (SM.tb t o) i)]))) l = some (.lst (ds.map V.ref)) := by rw [upd_ne hld]; exact s4 _ _ (s3 _ _ hl2)
          have dl : ds.length ≤ 6 := by
            rw [al.length]
            unfold chN
            rw [List.length_map]
            have := List.length_filter_le (fun k => SM.next t o k) (List.range i)
            rw [List.length_range] at this
            omega
          refine ⟨_, dput (s4 _ _ hd3) hni ln, .inl ⟨rfl, _, SqL.of hl4⟩, _, hl4, (by rw [List.length_map]; omega), Same.upd (Same.upd s04 hd0) hl, ds ++ [d], (by rw [List.map_append]; rfl), ?_⟩
          refine All2.snoc ?_ (al.imp fun a x ha => ?_)
          · show upd _ l _ d = _
            rw [upd_ne hld.symm, upd_same, SM.tb_snoc]
          · have ha2 := s2 _ _ ha
            show upd _ l _ a = _
            rw [upd_ne (ne_of ha2 hl2 (by intro z; cases z)), upd_ne (ne_of_none ha2 hd)]
            exact s4 _ _ (s3 _ _ ha2)
    · rintro σ H1 ⟨⟨x4, x5, rfl⟩, s1, ds, hl1, al⟩
      rw [Int.toNat_natCast] at al
      refine hN.go ?_
      walk_at "rd"
      exact k H1 l ds s1 hl hl1 al
end

theorem All2.unsnoc {α β : Type} {R : α → β → Prop} : ∀ {l : List α} {m : List β}, All2 R l m → 0 < l.length → ∃ l' a m' b, l = l' ++ [a] ∧ m = m' ++ [b] ∧ All2 R l' m' ∧ R a b
  | _, _, .nil, h => by simp at h
  | _, _, .cons (a := a) (b := b) (l := l) (m := m) r t, _ => by
    cases t with
    | nil => exact ⟨[], a, [], b, rfl, rfl, .nil, r⟩
    | cons r2 t2 =>
      obtain ⟨l', a', m', b', e1, e2, q1, q2⟩ := All2.unsnoc (.cons r2 t2) (by simp)
      exact ⟨a :: l', a', b :: m', b', by rw [e1]; rfl, by rw [e2]; rfl, .cons r q1, q2⟩
theorem mu_len : ∀ st : List (List Nat), st.length ≤ SM.mu st
  | [] => Nat.zero_le _
  | p :: st => by
    have e : SM.mu (p :: st) = SM.mu [p] + SM.mu st := by rw [← SM.mu_app]; rfl
    have := mu_len st
    have := SM.mu_pos p
    rw [List.length_cons, e]
    omega
theorem childs_len (t : Sched.State) (o : List Nat) : (SM.childs t o).length ≤ t.block.length := by
  unfold SM.childs
  rw [List.length_map]
  have := List.length_filter_le (fun k => SM.next t o k) (List.range t.block.length)
  rw [List.length_range] at this
  exact this
theorem All2.app {α β : Type} {R : α → β → Prop} : ∀ {l l' : List α} {m m' : List β}, All2 R l m → All2 R l' m' → All2 R (l ++ l') (m ++ m')
  | _, _, _, _, .nil, h => h
  | _, _, _, _, .cons r t, h => .cons r (t.app h)
theorem All2.rev {α β : Type} {R : α → β → Prop} : ∀ {l : List α} {m : List β}, All2 R l m → All2 R l.reverse m.reverse
  | _, _, .nil => .nil
  | _, _, .cons (a := a) (b := b) r t => by
    rw [List.reverse_cons, List.reverse_cons]
    exact t.rev.app (.cons r .nil)
section
variable {P : Program} {w : World} {K : PySem.W.Frag} {mg : Str → Option Value} {base : Heap} {A : Adr}
def sp_best_begins (A : Adr) : Sp := fun vs H Q _ => ∃ (p : Addr) (t : Sched.State), vs = [.ref p] ∧ LnAt A H p t ∧ SM.Wf t ∧ ∀ H' d, Same H H' → TbAt t H' d (Sched.bestOf t) → Q (.ref d) H'
theorem ok_best_begins (T : Txt K mg A) : FnOk P w K mg base CX0 5 A.f_best_begins A.d_best_begins ["line"] (sp_best_begins A) := by
  have G_begins_in_order := ok_begins_in_order (P := P) (w := w) (base := base) T
  have G_cycles_taken := ok_cycles_taken (P := P) (w := w) (base := base) T
  have G_waits_in := ok_waits_in (P := P) (w := w) (base := base) T
  have G_with_one_more := ok_with_one_more (P := P) (w := w) (base := base) T
  refine T.F_best_begins.ok sc_best_begins (fun vs H Q E h => ?_) (fun cdv B outer s H vs Q E hr h => ?_)
  · obtain ⟨p, t, rfl, _⟩ := h
    rfl
  · obtain ⟨p, t, rfl, hln, wf, k⟩ := h
    obtain ⟨ul, kl, bl, dx0, l1, l2, l3⟩ := id hln
    obtain ⟨us, b1, b2, b3⟩ := l3.get
    have hb := wf.blen
    have cl_Line := T.cl_Line
    have a_Line_width := T.a_Line_width
    have a_Line_units := T.a_Line_units
    have a_Line_kinds := T.a_Line_kinds
    have a_Line_block := T.a_Line_block
    refine ⟨_, (pss_cons (ps_set (i := 1) sc_best_begins.nd rfl (Or.inl rfl) (pe_call G_waits_in (hr.mono (by decide)) (by rfl) T.g_waits_in T.k_waits_in T.b_waits_in .nil pass0 (pa_cons (pe_fld (pv 0) rfl) pa_nil))) (pss_cons (ps_set (i := 2) sc_best_begins.nd rfl (Or.inl rfl) (pe_call G_begins_in_order (hr.mono (by decide)) (by rfl) T.g_begins_in_order T.k_begins_in_order T.b_begins_in_order .nil pass0 (pa_cons (pv 0) (pa_cons (pv 1) (pa_cons (pe_listR rfl (by rfl) T.n_list (by rfl) T.n_range (pa_cons (pe_callB len_lst (by rfl) T.n_len PySem.boot_len (pa_cons (pe_fld (pv 0) rfl) pa_nil)) pa_nil)) pa_nil))))) (pss_cons (ps_set (i := 3) sc_best_begins.nd rfl (Or.inl rfl) (pe_call G_cycles_taken (hr.mono (by decide)) (by rfl) T.g_cycles_taken T.k_cycles_taken T.b_cycles_taken .nil pass0 (pa_cons (pe_fld (pv 0) rfl) (pa_cons (pv 2) pa_nil)))) (pss_cons (ps_set (i := 4) sc_best_begins.nd rfl (Or.inl rfl) (pe_lst (pa_cons pe_dnewK pa_nil))) (pss_cons (ps_while PassesOwn.never (pt_cmpR op_gt (pe_callB len_lst (by rfl) T.n_len PySem.boot_len (pa_cons (pv 4) pa_nil)) pe_int (nomark _)) (pss_cons (ps_set (i := 5) sc_best_begins.nd rfl (Or.inl rfl) (pe_bm0 PySem.F.plainAttrs_list PySem.F.slot_list_pop PySem.F.type_list_pop mt_pop (pv 4))) (pss_cons (ps_set (i := 6) sc_best_begins.nd rfl (Or.inl rfl) (pe_call G_cycles_taken (hr.mono (by decide)) (by rfl) T.g_cycles_taken T.k_cycles_taken T.b_cycles_taken .nil pass0 (pa_cons (pe_fld (pv 0) rfl) (pa_cons (pv 5) pa_nil)))) (pss_cons (ps_if (pt_cmpR op_ge (pv 6) (pv 3) (nomark _)) (pss_one ps_continue) pss_nil) (pss_one (ps_if (pt_cmpR op_eq (pe_callB call_lenD (by rfl) T.n_len PySem.boot_len (pa_cons (pv 5) pa_nil)) (pe_callB len_lst (by rfl) T.n_len PySem.boot_len (pa_cons (pe_fld (pv 0) rfl) pa_nil)) (nomark _)) (pss_cons (ps_set (i := 2) sc_best_begins.nd rfl (Or.inl rfl) (pv 5)) (pss_one (ps_set (i := 3) sc_best_begins.nd rfl (Or.inl rfl) (pv 6)))) (pss_one (ps_expr (pe_bm PySem.F.plainAttrs_list PySem.F.slot_list_extend PySem.F.type_list_extend mt_extend (pv 4) (pa_cons (pe_listB rfl (by rfl) T.n_list (by rfl) T.n_reversed (pa_cons (pe_call G_with_one_more (hr.mono (by decide)) (by rfl) T.g_with_one_more T.k_with_one_more T.b_with_one_more .nil pass0 (pa_cons (pv 0) (pa_cons (pv 1) (pa_cons (pv 5) pa_nil)))) pa_nil)) pa_nil)))))))))) (pss_one (ps_ret (pv 2)))))))), ?_⟩
    refine seq_step fun N hN => ?_
    unfold sp_waits_in
    walk_at "rdh"
    refine ⟨t, l3, wf, fun H1 q s1 hq hw => hN.go (seq_step fun N hN => ?_)⟩
    have l11 := s1 _ _ l1
    have b11 := s1 _ _ b1
    clear l1 b1 l2
    unfold sp_begins_in_order
    walk_at "rdh"
    refine ⟨_, rfl, (by omega), fun o ho => ⟨t, hln.mono (Same.trans s1 (Same.new ho)), wf, hw.mono (Same.new ho), List.range t.block.length, rfl, SM.Full.acc (SM.given_kept t), (by rw [List.length_range]; omega), fun H2 db s2 _ _ hd hdb => hN.go (seq_step fun N hN => ?_)⟩⟩
    have s12 : Same H1 H2 := Same.trans (Same.new ho) s2
    have l12 := s12 _ _ l11
    have b12 := s12 _ _ b11
    have hw2 := hw.mono s12
    have hln2 := hln.mono (Same.trans s1 s12)
    have s02 := Same.trans s1 s12
    clear l11 b11
    have gv : SM.Full t (List.range t.block.length) := SM.given_kept t
    have gg := (SM.Full.acc gv).good wf
    unfold sp_cycles_taken
    walk_at "rdh"
    refine ⟨t, (l3.mono s02), _, rfl, (by rw [SM.tb_length, List.length_range]; omega), gg.nd, gg.lt, fun H3 s3 => hN.go (seq_step fun N hN => ?_)⟩
    rw [← SM.taken_cyc]
    have s03 := Same.trans s02 s3
    have hw3 := hw2.mono s3
    have hln3 := hln2.mono s3
    have hdb3 : TbAt t H3 db (List.range t.block.length) := s3 _ _ hdb
    clear l12 b12 hdb
    walk_at "rd"
    intro e0 he0 du hne1 hne2 hdu
    refine hN.go (seq_step fun N hN => ?_)
    have s4 : Same H3 (upd (upd H3 e0 (HO.dK [])) du (HO.lst [V.ref e0])) := Same.upd (Same.new he0) hdu
    have he4 : upd (upd H3 e0 (HO.dK [])) du (HO.lst [V.ref e0]) e0 = some (HO.dK []) := by rw [upd_ne hne2, upd_same]
    have hu4 : upd (upd H3 e0 (HO.dK [])) du (HO.lst [V.ref e0]) du = some (HO.lst [V.ref e0]) := upd_same
    generalize upd (upd H3 e0 (HO.dK [])) du (HO.lst [V.ref e0]) = H4 at s4 he4 hu4 ⊢
    refine ⟨fun m σ H' => ∃ db x5 x6 ob st ds, σ = [some (V.ref p), some (V.ref q), some (V.ref db), some (nI (SM.taken t ob)), some (V.ref du), x5, x6] ∧ m = SM.mu st ∧ SM.mu st ≤ 823543 ∧ Same H3 H' ∧ TbAt t H' db ob ∧ H' du = some (.lst (ds.map V.ref)) ∧ All2 (TbAt t H') ds st ∧ SM.Dfs t ob st, ⟨_, db, _, _, List.range t.block.length, [[]], [e0], rfl, rfl, by decide, s4, s4 _ _ hdb3, hu4, .cons he4 .nil, SM.dfs_start t⟩, ?_⟩
    rintro m σ H5 ⟨db, x5, x6, ob, st, ds, rfl, rfl, hm5, s5, hdb5, hdu5, al, df⟩
    clear hdb3 he4 hu4 s4
    walk_at "rdh"
    by_cases c : (0 : Int) < (ds.length : Int)
    · rw [if_pos c]
      refine ⟨_, fun σ' H' h => h, ?_⟩
      obtain ⟨ds', a, st', o, rfl, rfl, al', ha⟩ := al.unsnoc (by omega)
      have ne5 : ∀ {x : Addr} {l : List (Key × V)}, H5 x = some (.dK l) → x ≠ du := fun hx => ne_of hx hdu5 (by intro z; cases z)
      have e1 : ((ds' ++ [a]).map V.ref)[(ds' ++ [a]).length - 1]? = some (V.ref a) := by
        rw [List.map_append, List.length_append, List.length_singleton, Nat.add_sub_cancel]
        simp
      have e2 : ((ds' ++ [a]).map V.ref).dropLast = ds'.map V.ref := by rw [List.map_append]; simp
      refine ⟨_, e1, ?_⟩
      rw [e2]
      have s6 : Same H3 (upd H5 du (.lst (ds'.map V.ref))) := Same.upd s5 hdu
      have hdu6 : upd H5 du (.lst (ds'.map V.ref)) du = some (.lst (ds'.map V.ref)) := upd_same
      have hdb6 : TbAt t (upd H5 du (.lst (ds'.map V.ref))) db ob := by show upd _ _ _ _ = _; rw [upd_ne (ne5 hdb5)]; exact hdb5
      have ha6 : TbAt t (upd H5 du (.lst (ds'.map V.ref))) a o := by show upd _ _ _ _ = _; rw [upd_ne (ne5 ha)]; exact ha
      have al6 : All2 (TbAt t (upd H5 du (.lst (ds'.map V.ref)))) ds' st' := al'.imp fun x y hx => by show upd _ _ _ _ = _; rw [upd_ne (ne5 hx)]; exact hx
      generalize upd H5 du (.lst (ds'.map V.ref)) = H6 at s6 hdu6 hdb6 ha6 al6 ⊢
      clear hdb5 hdu5 al al' ha s5 ne5 e1 e2
      have hln6 := hln3.mono s6
      have hw6 := hw3.mono s6
      obtain ⟨ul, kl, bl, dx0, l1, l2, l36⟩ := id hln6
      have ao := df.acc o (List.mem_append_right _ (List.mem_singleton.mpr rfl))
      have lo := acc_len ao
      have go := ao.good wf
      have hmu : SM.mu st' < SM.mu (st' ++ [o]) := by rw [SM.mu_app]; have := SM.mu_pos o; omega
      unfold sp_cycles_taken
      walk_at "rdh"
      refine ⟨t, l36, _, rfl, (by rw [SM.tb_length]; omega), go.nd, go.lt, fun H7 s7 => ?_⟩
      rw [← SM.taken_cyc]
      have s37 := Same.trans s6 s7
      have hdu7 := s7 _ _ hdu6
      have ha7 : TbAt t H7 a o := s7 _ _ ha6
      have hdb7 : TbAt t H7 db ob := s7 _ _ hdb6
      have al7 : All2 (TbAt t H7) ds' st' := al6.imp fun _ _ q => s7 _ _ q
      by_cases c2 : (SM.taken t ob : Int) ≤ (SM.taken t o : Int)
      · rw [if_pos c2]
        exact ⟨_, hmu, _, _, ob, rfl, rfl, rfl, st', rfl, (by omega), s37, hdb7, ds', hdu7, al7, SM.dfs_drop df (by omega)⟩
      · rw [if_neg c2]
        have hln7 := hln6.mono s7
        have hw7 := hw6.mono s7
        obtain ⟨ul', kl', bl', dx0', l17, l27, l37⟩ := id hln7
        obtain ⟨us7, b17, b27, b37⟩ := l37.get
        clear l1 l2 hln6 hw6 l36 hdu6 hdb6 ha6 al6
        walk_at "rdh"
        refine ⟨_, rfl, ?_⟩
        rw [dN_length, SM.tb_length]
        by_cases c3 : (o.length : Int) = (t.block.length : Int)
        · rw [if_pos c3]
          exact ⟨_, hmu, _, _, o, rfl, rfl, rfl, st', rfl, (by omega), ha7, ds', rfl, al7, SM.dfs_full df (by omega) (by omega)⟩
        · rw [if_neg c3]
          have ds1 := mu_len st'
          have ds2 := al7.length
          refine ⟨p, q, a, t, o, rfl, hln7, wf, hw7, ha7, ao, fun H8 l cs s8 hl hl8 al8 => ⟨l, rfl, _, hl8, fun pp hpp => ?_⟩⟩
          have hcs : cs.length ≤ 6 := by rw [al8.length]; have := childs_len t o; omega
          have hdu8 := s8 _ _ hdu7
          have npp : ∀ {x : Addr} {u : HO}, H8 x = some u → x ≠ pp := fun hx => ne_of_none hx hpp
          have ndu : ∀ {x : Addr} {l : List (Key × V)}, H8 x = some (.dK l) → x ≠ du := fun hx => ne_of hx hdu8 (by intro z; cases z)
          have up : ∀ {u v : HO} {x : Addr} {l : List (Key × V)}, H8 x = some (.dK l) → upd (upd H8 pp u) du v x = some (.dK l) := fun {u v x l} hx => by rw [upd_ne (ndu hx), upd_ne (npp hx)]; exact hx
          have hc := SM.mu_childs wf (p := o) (by omega)
          have hmu2 : SM.mu (st' ++ (SM.childs t o).reverse) < SM.mu (st' ++ [o]) := by rw [SM.mu_app, SM.mu_app]; omega
          have pp0 : H3 pp = none := Same.free (Same.trans s37 s8) hpp
          refine ⟨ds'.map V.ref, (by rw [upd_ne (npp hdu8)]; exact hdu8), (by rw [List.length_map, List.length_reverse, List.length_map]; omega), _, hmu2, _, _, ob, rfl, rfl, rfl, _, rfl, (by omega), Same.upd (Same.upd (Same.trans s37 s8) pp0) hdu, up (s8 _ _ hdb7), ds' ++ cs.reverse, (by rw [List.map_append, List.map_reverse]), ?_, SM.dfs_more df (by omega)⟩
          exact (al7.imp fun _ _ h => up (s8 _ _ h)).app ((al8.imp fun _ _ h => up h).rev)
    · rw [if_neg c]
      have e0 : ds = [] := List.length_eq_zero_iff.mp (by omega)
      subst e0
      cases al
      refine hN.go ?_
      walk_at "rd"
      rw [← SM.dfs_end df] at hdb5
      exact k H5 db (Same.trans s03 s5) hdb5
end

/-! ### two lists of ints, compared -/
theorem canLay_ints : ∀ l : List Int, PyData.canLayAll0 (l.map PyData.int) = true
  | [] => by simp [PyData.canLayAll0]
  | a :: l => by simp [PyData.canLayAll0, PyData.canLay0, canLay_ints l]
theorem depth_ints : ∀ l : List Int, PyData.depthAll (l.map PyData.int) = 0
  | [] => by simp [PyData.depthAll]
  | a :: l => by simp [PyData.depthAll, PyData.depth, depth_ints l]
theorem shaped_ints (l : List Int) : SeqAt.shaped (.list (l.map PyData.int)) = true := by
  unfold SeqAt.shaped
  rw [Bool.and_eq_true]
  refine ⟨by simp [PyData.canLay0, canLay_ints l], decide_eq_true ?_⟩
  simp [PyData.depth, depth_ints l]
theorem eqv_ints : ∀ a b : List Int, PyData.eqvAll (a.map PyData.int) (b.map PyData.int) = decide (a = b)
  | [], [] => by simp [PyData.eqvAll]
  | [], _ :: _ => by simp [PyData.eqvAll]
  | _ :: _, [] => by simp [PyData.eqvAll]
  | x :: a, y :: b => by
    rw [List.map_cons, List.map_cons, PyData.eqvAll, eqv_ints a b]
    by_cases e : x = y
    · subst e
      simp [PyData.eqv]
    · simp [PyData.eqv, e]
theorem dp_ints {K : PySem.W.Frag} {H : Hp} : ∀ l : List Int, DpAll K H (l.map V.int) (l.map PyData.int)
  | [] => .nil
  | a :: l => .cons (.int a) (dp_ints l)
theorem dp_list {K : PySem.W.Frag} {H : Hp} {a : Addr} {l : List Int} (h : H a = some (.lst (l.map V.int))) : Dp K H (.ref a) (.list (l.map PyData.int)) := .lst (SqL.of h) (dp_ints l)
def castL (l : List Nat) : List Int := l.map fun (n : Nat) => (n : Int)
theorem castL_inj {a b : List Nat} (h : castL a = castL b) : a = b := by
  unfold castL at h
  induction a generalizing b with
  | nil =>
    cases b with
    | nil => rfl
    | cons y b => cases h
  | cons x a ih =>
    cases b with
    | nil => cases h
    | cons y b =>
      rw [List.map_cons, List.map_cons, List.cons.injEq] at h
      rw [ih h.2, show x = y by have := h.1; omega]
/-- the sorted order against 0, 1, 2 .. -/
theorem order_sorted {ms : List Int} {O : List Nat} {n : Nat} (pm : ms.Perm (castL O)) (sr : ms.Pairwise (· ≤ ·)) : ms = castL (List.range n) ↔ O.Perm (List.range n) := by
  obtain ⟨es, rfl, pe⟩ := ints_nats pm
  constructor
  · intro h
    have e : es = List.range n := castL_inj h
    subst e
    exact pe.symm
  · intro h
    have e : es = List.range n := List.Perm.eq_of_pairwise (le := (· ≤ ·)) (fun a b _ _ h1 h2 => Nat.le_antisymm h1 h2) ((List.pairwise_map.mp sr).imp fun h => by omega) (List.pairwise_lt_range.imp fun h => Nat.le_of_lt h) (pe.trans h)
    rw [e]
    rfl
theorem LineX.ln {A : Adr} {I H : Hp} {p u kl bl dx : Addr} {ks bs : List Addr} {s : Sched.State} (L : LineX A I H p u kl bl dx ks bs s) : LnAt A H p s := ⟨u, kl, bl, dx, L.obj, L.lu, bs, L.lb, L.bs.imp fun _ _ q => q.mono L.sub⟩
theorem LineX.blk {A : Adr} {I H : Hp} {p u kl bl dx : Addr} {ks bs : List Addr} {s : Sched.State} (L : LineX A I H p u kl bl dx ks bs s) : BlkAt A H bl s.block := ⟨bs, L.lb, L.bs.imp fun _ _ q => q.mono L.sub⟩
theorem Out.on {A : Adr} {I H H' : Hp} {p : Addr} {F R : List Addr} {s : Sched.State} (L : LineAt A I H p F s) (k : Same H H') : Out A I H p F R s H' := ⟨Same.keep k, I, F, L.same k, fun _ _ e => e, fun _ e _ _ => e, fun b hb => .inl hb⟩
/-- a call that answers with a list -/
def LineTp (A : Adr) (p : Addr) (R : List Addr) (c : Sched.Call) (H : Hp) (Q : VK) : Prop := ∃ I F s, LineAt A I H p F s ∧ SM.Wf s ∧ (∀ r ∈ R, r ∉ F) ∧ ∀ H' T L, Out A I H p F R (Sched.step s c).1 H' → H' T = some (.tup [.int (Sched.step s c).2.ret, .ref L]) → H' L = some (.lst ((Sched.step s c).2.nums.map V.int)) → Q (.ref T) H'
section
variable {P : Program} {w : World} {K : PySem.W.Frag} {mg : Str → Option Value} {base : Heap} {A : Adr}
def sp_Line_clear (A : Adr) : Sp := fun vs H Q _ => ∃ (p : Addr), vs = [.ref p] ∧ LineSp A p [] .clear H Q
theorem ok_Line_clear (T : Txt K mg A) : FnOk P w K mg base CX0 1 A.f_Line_clear A.d_Line_clear ["self"] (sp_Line_clear A) := by
  refine T.F_Line_clear.ok sc_Line_clear (fun vs H Q E h => ?_) (fun cdv B outer s H vs Q E hr h => ?_)
  · obtain ⟨p, rfl, _⟩ := h
    rfl
  · obtain ⟨p, rfl, I, F, st, ⟨u, kl, bl, dx, ks, bs, rfl, L⟩, wf, hR, k⟩ := h
    have cl_Line := T.cl_Line
    have a_Line_width := T.a_Line_width
    have a_Line_units := T.a_Line_units
    have a_Line_kinds := T.a_Line_kinds
    have a_Line_block := T.a_Line_block
    have hp := L.obj
    refine ⟨_, (pss_cons (ps_fld (pv 0) (pe_lst pa_nil) rfl) (pss_one (ps_ret (pe_gint (by rfl) T.c_DONE)))), ?_⟩
    refine seq_step fun N hN => ?_
    walk_at "rdh"
    intro b hb
    have pb : p ≠ b := ne_of_none hp hb
    refine ⟨_, _, _, (by rw [upd_ne pb]; exact hp), cl_Line, a_Line_block, (by rw [ln_Line]; decide), ?_⟩
    rw [pt_Line_block]
    refine hN.go ?_
    walk_at "rd"
    have ub : u ≠ b := ne_of_none L.lu hb
    have kb : kl ≠ b := ne_of_none L.lk hb
    have ib : I b = none := Same.free L.sub hb
    refine k _ ⟨fun c o e hc => ?_, I, [p, u, kl, b], ⟨u, kl, b, dx, ks, [], rfl, ⟨upd_same, ?_, ?_, ?_, L.uk, ub, kb, Same.upd (Same.upd L.sub ib) L.ip, L.ip, L.iu, L.ik, ib, L.ks, .nil⟩⟩, fun _ _ e => e, fun _ e _ _ => e, fun c hc => ?_⟩
    · rw [upd_ne (fun z => hc (by rw [z]; simp)), upd_ne (ne_of_none e hb)]
      exact e
    · rw [upd_ne L.pu.symm, upd_ne ub]
      exact L.lu
    · rw [upd_ne L.pk.symm, upd_ne kb]
      exact L.lk
    · rw [upd_ne pb.symm, upd_same]
      rfl
    · simp only [List.mem_cons, List.not_mem_nil, or_false] at hc ⊢
      rcases hc with rfl | rfl | rfl | rfl
      · exact .inl (.inl rfl)
      · exact .inl (.inr (.inl rfl))
      · exact .inl (.inr (.inr (.inl rfl)))
      · exact .inr hb
def sp_Line_dep (A : Adr) : Sp := fun vs H Q _ => ∃ (p : Addr) (i j : Nat), vs = [.ref p, nI i, nI j] ∧ LineSp A p [] (.dep i j) H Q
theorem ok_Line_dep (T : Txt K mg A) : FnOk P w K mg base CX0 3 A.f_Line_dep A.d_Line_dep ["self", "i", "j"] (sp_Line_dep A) := by
  have G_bits_between := ok_bits_between (P := P) (w := w) (base := base) T
  refine T.F_Line_dep.ok sc_Line_dep (fun vs H Q E h => ?_) (fun cdv B outer s H vs Q E hr h => ?_)
  · obtain ⟨p, i, j, rfl, _⟩ := h
    rfl
  · obtain ⟨p, i, j, rfl, I, F, st, ⟨u, kl, bl, dx, ks, bs, rfl, L⟩, wf, hR, k⟩ := h
    have cl_Line := T.cl_Line
    have a_Line_width := T.a_Line_width
    have a_Line_units := T.a_Line_units
    have a_Line_kinds := T.a_Line_kinds
    have a_Line_block := T.a_Line_block
    have hp := L.obj
    obtain ⟨vs, h1, h2, h3⟩ := L.blk.get
    refine ⟨_, (pss_cons (ps_if (PW.pt (pw_or (pt_cmpR op_ge (pv 1) (pe_callB len_lst (by rfl) T.n_len PySem.boot_len (pa_cons (pe_fld (pv 0) rfl) pa_nil)) (nomark _)) (pw_or1 (pt_cmpR op_ge (pv 2) (pe_callB len_lst (by rfl) T.n_len PySem.boot_len (pa_cons (pe_fld (pv 0) rfl) pa_nil)) (nomark _))))) (pss_one (ps_ret (pe_gint (by rfl) T.c_REFUSED))) pss_nil) (pss_cons (ps_if (pt_cmpR op_ge (pv 1) (pv 2) (nomark _)) (pss_one (ps_ret pe_int)) pss_nil) (pss_one (ps_ret (pe_call G_bits_between (hr.mono (by decide)) (by rfl) T.g_bits_between T.k_bits_between T.b_bits_between .nil pass0 (pa_cons (pe_ix ix_lst (pe_fld (pv 0) rfl) (pv 1) (fun _ _ => rfl)) (pa_cons (pe_ix ix_lst (pe_fld (pv 0) rfl) (pv 2) (fun _ _ => rfl)) pa_nil))))))), ?_⟩
    refine seq_step fun N hN => ?_
    walk_at "rdh"
    have LA : LineAt A I H p [p, u, kl, bl] st := ⟨u, kl, bl, dx, ks, bs, rfl, L⟩
    by_cases c1 : (st.block.length : Int) ≤ (i : Int)
    · rw [if_pos c1]
      have e : Sched.step st (.dep i j) = (st, Sched.says (-1)) := by
        show (st, _) = _
        rw [List.getElem?_eq_none (by omega)]
      rw [e] at k
      exact k H (Out.same LA)
    rw [if_neg c1]
    by_cases c2 : (st.block.length : Int) ≤ (j : Int)
    · rw [if_pos c2]
      have e : Sched.step st (.dep i j) = (st, Sched.says (-1)) := by
        show (st, _) = _
        rw [List.getElem?_eq_none (l := st.block) (i := j) (by omega)]
        cases st.block[i]? <;> rfl
      rw [e] at k
      exact k H (Out.same LA)
    rw [if_neg c2]
    have hbi : st.block[i]? = some (st.block[i]'(by omega)) := List.getElem?_eq_getElem (by omega)
    have hbj : st.block[j]? = some (st.block[j]'(by omega)) := List.getElem?_eq_getElem (by omega)
    generalize st.block[i]'(by omega) = x at hbi
    generalize st.block[j]'(by omega) = y at hbj
    have e : Sched.step st (.dep i j) = (st, Sched.says ((if i < j then Sched.bits x y else 0 : Nat) : Int)) := by
      show (st, _) = _
      rw [hbi, hbj]
    rw [e] at k
    refine hN.go (seq_step fun N hN => ?_)
    walk_at "rdh"
    by_cases c3 : (j : Int) ≤ (i : Int)
    · rw [if_pos c3]
      rw [if_neg (by omega)] at k
      exact k H (Out.same LA)
    · rw [if_neg c3]
      rw [if_pos (by omega)] at k
      refine hN.go ?_
      obtain ⟨a, a1, a2⟩ := h3 i x hbi
      obtain ⟨b, b1, b2⟩ := h3 j y hbj
      unfold sp_bits_between
      walk_at "rdh"
      exact ⟨x, a2, y, b2, wf.b x (List.mem_of_getElem? hbi), wf.b y (List.mem_of_getElem? hbj), fun H1 s1 => k H1 (Out.on LA s1)⟩
def sp_Line_bound (A : Adr) : Sp := fun vs H Q _ => ∃ (p : Addr), vs = [.ref p] ∧ LineSp A p [] .bound H Q
theorem ok_Line_bound (T : Txt K mg A) : FnOk P w K mg base CX0 5 A.f_Line_bound A.d_Line_bound ["self"] (sp_Line_bound A) := by
  have G_after_waits := ok_after_waits (P := P) (w := w) (base := base) T
  have G_cycles_taken := ok_cycles_taken (P := P) (w := w) (base := base) T
  have G_waits_in := ok_waits_in (P := P) (w := w) (base := base) T
  refine T.F_Line_bound.ok sc_Line_bound (fun vs H Q E h => ?_) (fun cdv B outer s H vs Q E hr h => ?_)
  · obtain ⟨p, rfl, _⟩ := h
    rfl
  · obtain ⟨p, rfl, I, F, st, ⟨u, kl, bl, dx, ks, bs, rfl, L⟩, wf, hR, k⟩ := h
    have cl_Line := T.cl_Line
    have a_Line_width := T.a_Line_width
    have a_Line_units := T.a_Line_units
    have a_Line_kinds := T.a_Line_kinds
    have a_Line_block := T.a_Line_block
    have hp := L.obj
    have hb := wf.blen
    obtain ⟨vs, h1, h2, h3⟩ := L.blk.get
    refine ⟨_, (pss_cons (ps_set (i := 1) sc_Line_bound.nd rfl (Or.inl rfl) (pe_call G_waits_in (hr.mono (by decide)) (by rfl) T.g_waits_in T.k_waits_in T.b_waits_in .nil pass0 (pa_cons (pe_fld (pv 0) rfl) pa_nil))) (pss_cons (ps_set (i := 2) sc_Line_bound.nd rfl (Or.inl rfl) pe_dnewK) (pss_cons (ps_for PassesOwn.never rfl (pi_range1 (by rfl) T.n_range (pa_cons (pe_callB len_lst (by rfl) T.n_len PySem.boot_len (pa_cons (pe_fld (pv 0) rfl) pa_nil)) pa_nil)) (pg_name (i := 3) sc_Line_bound.nd rfl (Or.inl rfl)) (pss_one (ps_dput (hu_of hr) (pv 2) (pv 3) (pe_call G_after_waits (hr.mono (by decide)) (by rfl) T.g_after_waits T.k_after_waits T.b_after_waits .nil pass0 (pa_cons (pe_ix ix_lst (pv 1) (pv 3) (fun _ _ => rfl)) (pa_cons (pv 2) pa_nil))) rfl))) (pss_one (ps_ret (pe_call G_cycles_taken (hr.mono (by decide)) (by rfl) T.g_cycles_taken T.k_cycles_taken T.b_cycles_taken .nil pass0 (pa_cons (pe_fld (pv 0) rfl) (pa_cons (pv 2) pa_nil)))))))), ?_⟩
    refine seq_step fun N hN => ?_
    unfold sp_waits_in
    walk_at "rdh"
    refine ⟨st, L.blk, wf, fun H1 q s1 hq hw => hN.go (seq_step fun N hN => ?_)⟩
    have hp1 := s1 _ _ hp
    have h11 := s1 _ _ h1
    clear hp h1
    walk_at "rdh"
    intro d hd
    refine hN.go (seq_step fun N hN => ?_)
    have s2 : Same H1 (upd H1 d (.dK [])) := Same.new hd
    have hp2 := s2 _ _ hp1
    have h12 := s2 _ _ h11
    have hrng : ∀ R : List V → Hp → Prop, R [.int (st.block.length : Int)] (upd H1 d (.dK [])) → (tCons (tCB mLen (tCons (tFld K (tVar 0) "block") tNil)) tNil) [some (V.ref p), some (V.ref q), some (V.ref d), none] (upd H1 d (.dK [])) R := fun R h => by
      clear hp1 h11
      walk_at "rdh"
    unfold tFor iRng1
    refine hrng _ ?_
    refine ⟨_, rfl, by omega, by omega, ?_⟩
    obtain ⟨ws, w1, w2, w3⟩ := hw.get
    refine for_range (fun i σ H' => (∃ x3, σ = [some (V.ref p), some (V.ref q), some (V.ref d), x3]) ∧ Same H1 H' ∧ H' d = some (.dK (dN (SM.fb st i)))) ⟨⟨_, rfl⟩, s2, upd_same⟩ ?_ ?_
    · rintro i σ H2 hi ⟨⟨x3, rfl⟩, s12, hd2⟩
      rw [Int.toNat_natCast] at hi
      rw [show ((0 : Int) + (i : Int)) = (i : Int) from by omega]
      obtain ⟨c, c1, c2⟩ := w3 i hi
      have w12 := s12 _ _ w1
      have fl : (SM.fb st i).length ≤ 1000 := by
        have := congrArg List.length (SM.fb_keys st i)
        rw [List.length_map, List.length_range] at this
        omega
      clear hp2 h12 hp1 h11 w1 s2
      unfold sp_after_waits
      walk_at "rdh"
      refine ⟨_, s12 _ _ c2, (by have := wt_len st i; omega), wt_nodup st i, _, rfl, SM.fb_has st i, fun H3 s3 => ?_⟩
      refine ⟨_, dput (s3 _ _ hd2) (by rw [SM.fb_keys, List.mem_range]; omega) fl, Same.upd (Same.trans s12 s3) hd, ?_⟩
      rw [upd_same, SM.fb_snoc]
    · rintro σ H2 ⟨⟨x3, rfl⟩, s12, hd2⟩
      rw [Int.toNat_natCast] at hd2
      refine hN.go ?_
      have hp3 := s12 _ _ hp1
      have s02 := Same.trans s1 s12
      have LA : LineAt A I H p [p, u, kl, bl] st := ⟨u, kl, bl, dx, ks, bs, rfl, L⟩
      have fk := SM.fb_keys st st.block.length
      clear hp2 h12 hp1 h11 w1 s2
      unfold sp_cycles_taken
      walk_at "rdh"
      refine ⟨st, L.blk.mono s02, _, rfl, ?_, ?_, ?_, fun H3 s3 => ?_⟩
      · have := congrArg List.length fk
        rw [List.length_map, List.length_range] at this
        omega
      · rw [fk]
        exact List.nodup_range
      · intro x hx
        have m : x.1 ∈ (SM.fb st st.block.length).map (·.1) := List.mem_map.mpr ⟨x, hx, rfl⟩
        rw [fk] at m
        exact List.mem_range.mp m
      · rw [← SM.bound_is]
        exact k H3 (Out.on LA (Same.trans s02 s3))
end

theorem castL_natV (l : List Nat) : natV l = (castL l).map V.int := nI_map l
theorem ints_castL (l : List Nat) : Sched.ints l = castL l := rfl
theorem dN_keysV (b : Sched.Begun) : ((dN b).map fun kv => kV kv.1) = natV (b.map (·.1)) := by
  unfold dN natV
  rw [List.map_map, List.map_map]
  rfl
section
variable {P : Program} {w : World} {K : PySem.W.Frag} {mg : Str → Option Value} {base : Heap} {A : Adr}
def sp_Line_best (A : Adr) : Sp := fun vs H Q _ => ∃ (p : Addr), vs = [.ref p] ∧ LineTp A p [] .best H Q
theorem ok_Line_best (T : Txt K mg A) : FnOk P w K mg base CX0 6 A.f_Line_best A.d_Line_best ["self"] (sp_Line_best A) := by
  have G_best_begins := ok_best_begins (P := P) (w := w) (base := base) T
  have G_cycles_taken := ok_cycles_taken (P := P) (w := w) (base := base) T
  refine T.F_Line_best.ok sc_Line_best (fun vs H Q E h => ?_) (fun cdv B outer s H vs Q E hr h => ?_)
  · obtain ⟨p, rfl, _⟩ := h
    rfl
  · obtain ⟨p, rfl, I, F, st, ⟨u, kl, bl, dx, ks, bs, rfl, L⟩, wf, hR, k⟩ := h
    have cl_Line := T.cl_Line
    have a_Line_width := T.a_Line_width
    have a_Line_units := T.a_Line_units
    have a_Line_kinds := T.a_Line_kinds
    have a_Line_block := T.a_Line_block
    have LA : LineAt A I H p [p, u, kl, bl] st := ⟨u, kl, bl, dx, ks, bs, rfl, L⟩
    have hp := L.obj
    have hb := wf.blen
    have fb := (SM.bestOf_spec st).1
    have ab := SM.Full.acc fb
    have gb := ab.good wf
    have lb := acc_len ab
    refine ⟨_, (pss_cons (ps_set (i := 1) sc_Line_best.nd rfl (Or.inl rfl) (pe_call G_best_begins (hr.mono (by decide)) (by rfl) T.g_best_begins T.k_best_begins T.b_best_begins .nil pass0 (pa_cons (pv 0) pa_nil))) (pss_one (ps_ret (pe_tup (pa_cons (pe_call G_cycles_taken (hr.mono (by decide)) (by rfl) T.g_cycles_taken T.k_cycles_taken T.b_cycles_taken .nil pass0 (pa_cons (pe_fld (pv 0) rfl) (pa_cons (pv 1) pa_nil))) (pa_cons (pe_op op_cat (pe_callTy (list_of_dict rfl) (by rfl) T.n_list PyProof.Rows.boot_list (pa_cons (pv 1) pa_nil)) (pe_listV rfl (by rfl) T.n_list (pv 1))) pa_nil)))))), ?_⟩
    refine seq_step fun N hN => ?_
    unfold sp_best_begins
    walk_at "rdh"
    refine ⟨st, L.ln, wf, fun H1 d s1 hd => hN.go ?_⟩
    have hp1 := s1 _ _ hp
    have hd : H1 d = some (.dK (dN (SM.tb st (Sched.bestOf st)))) := hd
    clear hp
    unfold sp_cycles_taken
    walk_at "rdh"
    refine ⟨st, L.blk.mono s1, _, rfl, (by rw [SM.tb_length]; omega), gb.nd, gb.lt, fun H2 s2 => ?_⟩
    have hd2 := s2 _ _ hd
    refine ⟨_, hd2, fun a ha => ⟨_, (by rw [upd_ne (ne_of_none hd2 ha)]; exact hd2), fun b b1 b2 hb' => ⟨_, (by rw [upd_ne b2, upd_same]), (by rw [List.length_map, dN_length, SM.tb_length]; omega), fun c c1 c2 c3 c4 hc e e1 e2 e3 e4 e5 e6 he => ?_⟩⟩⟩
    have es : Sched.step st .best = (st, Sched.tells (SM.taken st (Sched.bestOf st) : Nat) (Sched.bestOf st ++ Sched.timed st [] (Sched.bestOf st))) := rfl
    rw [es] at k
    have s02 := Same.trans s1 s2
    have za := Same.free s02 ha
    have zb := Same.free s02 hb'
    have zc := Same.free s02 hc
    have ze := Same.free s02 he
    refine k _ e c (Out.on LA (Same.upd (Same.upd (Same.upd (Same.upd s02 za) zb) zc) ze)) ?_ ?_
    · rw [upd_same, ← SM.taken_cyc]
      rfl
    · rw [upd_ne e2, upd_same, dN_keysV, dN_vals, SM.tb_keys, SM.tb_vals, ← natV_app, castL_natV]
      rfl
def sp_Line_time (A : Adr) : Sp := fun vs H Q _ => ∃ (p q : Addr) (O : List Nat), vs = [.ref p, .ref q] ∧ H q = some (.lst (natV O)) ∧ O.length ≤ 1000000 ∧ LineTp A p [q] (.time O) H Q
theorem ok_Line_time (T : Txt K mg A) : FnOk P w K mg base CX0 5 A.f_Line_time A.d_Line_time ["self", "order"] (sp_Line_time A) := by
  have G_begins_in_order := ok_begins_in_order (P := P) (w := w) (base := base) T
  have G_cycles_taken := ok_cycles_taken (P := P) (w := w) (base := base) T
  have G_is_accepted := ok_is_accepted (P := P) (w := w) (base := base) T
  have G_waits_in := ok_waits_in (P := P) (w := w) (base := base) T
  refine T.F_Line_time.ok sc_Line_time (fun vs H Q E h => ?_) (fun cdv B outer s H vs Q E hr h => ?_)
  · obtain ⟨p, q, O, rfl, _⟩ := h
    rfl
  · obtain ⟨p, q, O, rfl, hq, hO, I, F, st, ⟨u, kl, bl, dx, ks, bs, rfl, L⟩, wf, hR, k⟩ := h
    have cl_Line := T.cl_Line
    have a_Line_width := T.a_Line_width
    have a_Line_units := T.a_Line_units
    have a_Line_kinds := T.a_Line_kinds
    have a_Line_block := T.a_Line_block
    have LA : LineAt A I H p [p, u, kl, bl] st := ⟨u, kl, bl, dx, ks, bs, rfl, L⟩
    have hp := L.obj
    have hb := wf.blen
    obtain ⟨vs, h1, h2, h3⟩ := L.blk.get
    refine ⟨_, (pss_cons (ps_if (pt_cmpR (op_neD hr.units) (pe_callB sorted_lst (by rfl) T.n_sorted PyProof.Rows.boot_sorted (pa_cons (pv 1) pa_nil)) (pe_listR rfl (by rfl) T.n_list (by rfl) T.n_range (pa_cons (pe_callB len_lst (by rfl) T.n_len PySem.boot_len (pa_cons (pe_fld (pv 0) rfl) pa_nil)) pa_nil)) (nomark _)) (pss_one (ps_ret (pe_tup (pa_cons (pe_gint (by rfl) T.c_REFUSED) (pa_cons (pe_lst pa_nil) pa_nil))))) pss_nil) (pss_cons (ps_set (i := 2) sc_Line_time.nd rfl (Or.inl rfl) (pe_call G_waits_in (hr.mono (by decide)) (by rfl) T.g_waits_in T.k_waits_in T.b_waits_in .nil pass0 (pa_cons (pe_fld (pv 0) rfl) pa_nil))) (pss_cons (ps_if (pt_not (pt_val (pe_call G_is_accepted (hr.mono (by decide)) (by rfl) T.g_is_accepted T.k_is_accepted T.b_is_accepted .nil pass0 (pa_cons (pv 2) (pa_cons (pv 1) pa_nil))))) (pss_one (ps_ret (pe_tup (pa_cons (pe_gint (by rfl) T.c_NOT_ACCEPTED) (pa_cons (pe_lst pa_nil) pa_nil))))) pss_nil) (pss_cons (ps_set (i := 3) sc_Line_time.nd rfl (Or.inl rfl) (pe_call G_begins_in_order (hr.mono (by decide)) (by rfl) T.g_begins_in_order T.k_begins_in_order T.b_begins_in_order .nil pass0 (pa_cons (pv 0) (pa_cons (pv 2) (pa_cons (pv 1) pa_nil))))) (pss_one (ps_ret (pe_tup (pa_cons (pe_call G_cycles_taken (hr.mono (by decide)) (by rfl) T.g_cycles_taken T.k_cycles_taken T.b_cycles_taken .nil pass0 (pa_cons (pe_fld (pv 0) rfl) (pa_cons (pv 3) pa_nil))) (pa_cons (pe_listV rfl (by rfl) T.n_list (pv 3)) pa_nil))))))))), ?_⟩
    refine seq_step fun N hN => ?_
    walk_at "rdh"
    refine ⟨_, castL_natV O, fun ms m1 pm sr hm1 => ?_⟩
    have s1 : Same H (upd H m1 (HO.lst (ms.map V.int))) := Same.new hm1
    have hm : upd H m1 (HO.lst (ms.map V.int)) m1 = some (HO.lst (ms.map V.int)) := upd_same
    refine ⟨_, _, _, s1 _ _ hp, cl_Line, a_Line_block, _, lk_Line_block, _, rfl, _, s1 _ _ h1, st.block.length, (by rw [h2]), (by omega), fun m2 n1 n2 hm2 => ?_⟩
    have s2 : Same H (upd (upd H m1 (HO.lst (ms.map V.int))) m2 (HO.lst (natsUp st.block.length))) := Same.upd s1 hm2
    have hma : upd (upd H m1 (HO.lst (ms.map V.int))) m2 (HO.lst (natsUp st.block.length)) m1 = some (HO.lst (ms.map V.int)) := by rw [upd_ne n2]; exact hm
    have hmb : upd (upd H m1 (HO.lst (ms.map V.int))) m2 (HO.lst (natsUp st.block.length)) m2 = some (HO.lst ((castL (List.range st.block.length)).map V.int)) := by rw [upd_same]; unfold natsUp; rw [castL_natV]
    generalize upd (upd H m1 (HO.lst (ms.map V.int))) m2 (HO.lst (natsUp st.block.length)) = H2 at s2 hma hmb ⊢
    refine ⟨_, _, dp_list hma, dp_list hmb, shaped_ints _, shaped_ints _, ?_⟩
    refine ⟨_, rfl, ?_⟩
    have eq0 : PyData.eqv (.list (ms.map PyData.int)) (.list ((castL (List.range st.block.length)).map PyData.int)) = decide (ms = castL (List.range st.block.length)) := by
      rw [PyData.eqv]
      exact eqv_ints _ _
    rw [eq0]
    have os := order_sorted (n := st.block.length) pm sr
    by_cases c1 : O.Perm (List.range st.block.length)
    · rw [decide_eq_true (os.mpr c1), if_neg Bool.noConfusion]
      have io : Sched.isOrder st O = true := SM.isOrder_iff.mpr c1
      refine hN.go (seq_step fun N hN => ?_)
      have hp2 := s2 _ _ hp
      have h12 := s2 _ _ h1
      clear hp h1 hma hmb hm
      unfold sp_waits_in
      walk_at "rdh"
      refine ⟨st, L.blk.mono s2, wf, fun H3 ww s3 hww hw3 => hN.go (seq_step fun N hN => ?_)⟩
      have s03 := Same.trans s2 s3
      unfold sp_is_accepted
      walk_at "rdh"
      refine ⟨st, hw3, O, s03 _ _ hq, wf, c1, fun H4 s4 => ?_⟩
      have s04 := Same.trans s03 s4
      cases kp : Sched.keeps st O with
      | false =>
        rw [if_pos rfl]
        have es : Sched.step st (.time O) = (st, Sched.says (-2)) := by
          show (st, if Sched.isOrder st O = false then _ else if Sched.keeps st O = false then _ else _) = _
          rw [if_neg (by rw [io]; exact Bool.noConfusion), if_pos kp]
        rw [es] at k
        intro a ha b b1 b2 hb'
        refine k _ b a (Out.on LA (Same.upd (Same.upd s04 (Same.free s04 ha)) (Same.free s04 hb'))) (by rw [upd_same]; rfl) ?_
        rw [upd_ne b2, upd_same]
        rfl
      | true =>
        rw [if_neg Bool.noConfusion]
        have es : Sched.step st (.time O) = (st, Sched.tells (SM.taken st O : Nat) (Sched.timed st [] O)) := by
          show (st, if Sched.isOrder st O = false then _ else if Sched.keeps st O = false then _ else _) = _
          rw [if_neg (by rw [io]; exact Bool.noConfusion), if_neg (by rw [kp]; exact Bool.noConfusion)]
          rfl
        rw [es] at k
        have ac := (SM.full_of_acc c1).mpr kp
        have go := ac.good wf
        have lo := acc_len ac
        refine hN.go (seq_step fun N hN => ?_)
        have hp4 : H4 p = some (.ins A.C_Line dx (fs_Line (nI st.width) (.ref u) (.ref kl) (.ref bl))) := s4 _ _ (s3 _ _ hp2)
        clear hp2 h12
        unfold sp_begins_in_order
        walk_at "rdh"
        refine ⟨st, L.ln.mono s04, wf, hw3.mono s4, O, s04 _ _ hq, ac, (by omega), fun H5 d s5 hd hd5 => hN.go ?_⟩
        have s05 := Same.trans s04 s5
        have hp5 := s5 _ _ hp4
        clear hp4
        unfold sp_cycles_taken
        walk_at "rdh"
        refine ⟨st, L.blk.mono s05, _, rfl, (by rw [SM.tb_length]; omega), go.nd, go.lt, fun H6 s6 => ?_⟩
        have hd6 := s6 _ _ hd5
        have s06 := Same.trans s05 s6
        refine ⟨_, hd6, fun a ha b b1 b2 hb' => ?_⟩
        refine k _ b a (Out.on LA (Same.upd (Same.upd s06 (Same.free s06 ha)) (Same.free s06 hb'))) ?_ ?_
        · rw [upd_same, ← SM.taken_cyc]
          rfl
        · rw [upd_ne b2, upd_same, dN_vals, SM.tb_vals, castL_natV]
          rfl
    · rw [decide_eq_false (fun z => c1 (os.mp z)), Bool.not_false, if_pos rfl]
      have io : Sched.isOrder st O = false := by
        cases z : Sched.isOrder st O with
        | false => rfl
        | true => exact absurd (SM.isOrder_iff.mp z) c1
      have es : Sched.step st (.time O) = (st, Sched.says (-1)) := by
        show (st, if Sched.isOrder st O = false then _ else _) = _
        rw [if_pos io]
      rw [es] at k
      intro a ha b b1 b2 hb'
      refine k _ b a (Out.on LA (Same.upd (Same.upd s2 (Same.free s2 ha)) (Same.free s2 hb'))) (by rw [upd_same]; rfl) ?_
      rw [upd_ne b2, upd_same]
      rfl
end

/-! ### the line and the reader, side by side -/
def Sa (K : PySem.W.Frag) (H : Hp) (F : List Addr) (r a : Addr) (xs : List V) : Prop := (∀ H', SqL K H' a xs) ∨ (Rd H a (.lst xs) ∧ a ∉ F ∧ a ≠ r)
theorem Sa.sq {K : PySem.W.Frag} {H : Hp} {F : List Addr} {r a : Addr} {xs : List V} (h : Sa K H F r a xs) : SqL K H a xs := by
  rcases h with h | ⟨h, _⟩
  · exact h H
  · exact .inl h
theorem rd_some {H : Hp} {a : Addr} {u : HO} (h : Rd H a u) : ∃ o, H a = some o := by
  rcases h with h | ⟨o, h⟩
  · exact ⟨_, h⟩
  · exact ⟨_, h⟩
theorem rd_keep {F : List Addr} {H H' : Hp} {a : Addr} {u : HO} (k : Keep F H H') (n : a ∉ F) (h : Rd H a u) : Rd H' a u := by
  rcases h with h | ⟨o, h⟩
  · exact .inl (k _ _ h n)
  · exact .inr ⟨o, k _ _ h n⟩
theorem LineAt.there {A : Adr} {I H : Hp} {p b : Addr} {F : List Addr} {s : Sched.State} (L : LineAt A I H p F s) (h : b ∈ F) : ∃ o, H b = some o := by
  obtain ⟨u, kl, bl, dx, ks, bs, rfl, X⟩ := L
  simp only [List.mem_cons, List.not_mem_nil, or_false] at h
  rcases h with rfl | rfl | rfl | rfl
  · exact ⟨_, X.obj⟩
  · exact ⟨_, X.lu⟩
  · exact ⟨_, X.lk⟩
  · exact ⟨_, X.lb⟩
structure Both (K : PySem.W.Frag) (A : Adr) (I H : Hp) (p r dx a : Addr) (F : List Addr) (s : Sched.State) (l : List Int) (k : Nat) : Prop where
  L : LineAt A I H p F s
  wf : SM.Wf s
  rd : H r = some (rObj A dx a k)
  rF : r ∉ F
  rI : I r = none
  sa : Sa K H F r a (l.map V.int)
  len : l.length ≤ 16000
structure Aft (K : PySem.W.Frag) (A : Adr) (I H : Hp) (p r dx a : Addr) (F : List Addr) (s : Sched.State) (l : List Int) (k : Nat) (H' : Hp) : Prop where
  keep : Keep (r :: F) H H'
  ex : ∃ I' F', Both K A I' H' p r dx a F' s l k ∧ (∀ b, I b = none → (H b).isSome = true → I' b = none) ∧ ∀ b ∈ F', b ∈ F ∨ H b = none
section
variable {K : PySem.W.Frag} {A : Adr} {I H H1 H2 : Hp} {p r dx a : Addr} {F : List Addr} {s s' : Sched.State} {l : List Int} {k k1 : Nat}
/-- the reader goes on; rows may have come -/
theorem Both.go (B : Both K A I H p r dx a F s l k) (kp : Keep [r] H H1) (hr : H1 r = some (rObj A dx a k1)) : Both K A I H1 p r dx a F s l k1 := by
  refine ⟨B.L.keep kp fun g hg => ?_, B.wf, hr, B.rF, B.rI, ?_, B.len⟩
  · have e : g = r := List.mem_singleton.mp hg
    subst e
    exact ⟨B.rF, B.rI⟩
  · rcases B.sa with h | ⟨h1, h2, h3⟩
    · exact .inl h
    · exact .inr ⟨rd_keep kp (fun z => h3 (List.mem_singleton.mp z)) h1, h2, h3⟩
theorem keep_r {k : Nat} : Keep [r] H (upd H r (rObj A dx a k)) := upd_keep (by simp)
theorem Keep.new {G : List Addr} {x : Addr} {o : HO} (kp : Keep G H H1) (hx : H x = none) : Keep G H (upd H1 x o) := fun b u e hb => by rw [upd_ne (ne_of_none e hx)]; exact kp b u e hb
theorem aft_of {R : List Addr} (B : Both K A I H1 p r dx a F s l k) (kp : Keep [r] H H1) (h0 : ∃ o, H r = some o) (o : Out A I H1 p F R s' H2) (hR : ∀ x ∈ R, H x = none) (wf' : SM.Wf s') : Aft K A I H p r dx a F s' l k H2 := by
  obtain ⟨o0, h0⟩ := h0
  have up : ∀ b u, H b = some u → ∃ v, H1 b = some v := fun b u e => by
    by_cases z : b = r
    · subst z
      exact ⟨_, B.rd⟩
    · exact ⟨_, kp b u e fun q => z (List.mem_singleton.mp q)⟩
  obtain ⟨I', F', L', sI, hn, hF⟩ := o.ex
  refine ⟨fun b u e hb => o.keep b u (kp b u e fun q => hb (by rw [List.mem_singleton.mp q]; exact List.mem_cons_self)) fun q => hb (List.mem_cons_of_mem _ q), I', F', ⟨L', wf', o.keep _ _ B.rd B.rF, fun q => ?_, hn r B.rI (by rw [B.rd]; rfl) (fun q => by rw [hR r q] at h0; cases h0), ?_, B.len⟩, fun b hb hs => ?_, fun b hb => ?_⟩
  · rcases hF r q with z | z
    · exact B.rF z
    · rw [B.rd] at z
      cases z
  · rcases B.sa with h | ⟨h1, h2, h3⟩
    · exact .inl h
    · refine .inr ⟨rd_keep o.keep h2 h1, fun q => ?_, h3⟩
      rcases hF a q with z | z
      · exact h2 z
      · obtain ⟨v, e⟩ := rd_some h1
        rw [e] at z
        cases z
  · obtain ⟨u, e⟩ := Option.isSome_iff_exists.mp hs
    obtain ⟨v, e1⟩ := up b u e
    exact hn b hb (by rw [e1]; rfl) fun q => by rw [hR b q] at e; cases e
  · rcases hF b hb with z | z
    · exact .inl z
    · refine .inr ?_
      cases e : H b with
      | none => rfl
      | some u =>
        obtain ⟨v, e1⟩ := up b u e
        rw [e1] at z
        cases z
end
/-- a call's numbers are read, the call is answered by a number -/
def AnsSp (K : PySem.W.Frag) (A : Adr) (c : Sched.Call) (f : List Int → List Int) (vs : List V) (H : Hp) (Q : VK) : Prop := ∃ (p r : Addr), vs = [.ref p, .ref r] ∧ ∃ I dx a F s l k t, Both K A I H p r dx a F s l k ∧ l.drop k = f t ∧
  ∀ H' k', l.drop k' = t → k' ≤ l.length → Aft K A I H p r dx a F (Sched.step s c).1 l k' H' → Q (.int (Sched.step s c).2.ret) H'
theorem num_sp {K : PySem.W.Frag} {A : Adr} {I H : Hp} {p r dx a : Addr} {F : List Addr} {s : Sched.State} {l t : List Int} {k : Nat} {z : Int} {Q : VK} {E : XK} (B : Both K A I H p r dx a F s l k) (hd : l.drop k = z :: t)
    (q : ∀ H1, Both K A I H1 p r dx a F s l (k + 1) → Keep [r] H H1 → l.drop (k + 1) = t → k + 1 ≤ l.length → Q (.int z) H1) : sp_Reader_number K A [.ref r] H Q E := by
  obtain ⟨h1, h2, h3⟩ := drop_get hd
  exact ⟨r, dx, a, k, l, z, rfl, B.rd, B.sa.sq, h1, q _ (B.go keep_r upd_same) keep_r h2 h3⟩
theorem row_sp {K : PySem.W.Frag} {A : Adr} {I H : Hp} {p r dx a : Addr} {F : List Addr} {s : Sched.State} {l t : List Int} {k : Nat} {ns : List Nat} {Q : VK} {E : XK} (B : Both K A I H p r dx a F s l k) (hd : l.drop k = (ns.length : Int) :: (Sched.ints ns ++ t))
    (q : ∀ x H1, H x = none → H1 x = some (.lst (natV ns)) → Both K A I H1 p r dx a F s l (k + 1 + ns.length) → Keep [r] H H1 → l.drop (k + 1 + ns.length) = t → k + 1 + ns.length ≤ l.length → ns.length ≤ 16000 → Q (.ref x) H1) : sp_Reader_row K A [.ref r] H Q E := by
  obtain ⟨h1, h2, h3⟩ := drop_get hd
  have il : (Sched.ints ns).length = ns.length := by unfold Sched.ints; rw [List.length_map]
  have h4 := drop_app h2
  rw [il] at h4
  have h5 := congrArg List.length hd
  rw [List.length_drop, List.length_cons, List.length_append, il] at h5
  have hl := B.len
  refine ⟨r, dx, a, k, l, ns, t, rfl, B.rd, B.sa.sq, hd, fun x hx => ?_⟩
  have xr : r ≠ x := ne_of_none B.rd hx
  exact q x _ hx upd_same (B.go (Keep.new keep_r hx) (by rw [upd_ne xr, upd_same])) (Keep.new keep_r hx) h4 (by omega) (by omega)
section
variable {P : Program} {w : World} {K : PySem.W.Frag} {mg : Str → Option Value} {base : Heap} {A : Adr}
def sp_answer_width (K : PySem.W.Frag) (A : Adr) : Sp := fun vs H Q _ => ∃ n : Nat, AnsSp K A (.width n) (fun t => (n : Int) :: t) vs H Q
theorem ok_answer_width (T : Txt K mg A) : FnOk P w K mg base CX0 3 A.f_answer_width A.d_answer_width ["line", "reader"] (sp_answer_width K A) := by
  have G_Line_set_width := ok_Line_set_width (P := P) (w := w) (base := base) T
  have G_Reader_number := ok_Reader_number (P := P) (w := w) (base := base) T
  refine T.F_answer_width.ok sc_answer_width (fun vs H Q E h => ?_) (fun cdv B outer s H vs Q E hr h => ?_)
  · obtain ⟨n, p, r, rfl, _⟩ := h
    rfl
  · obtain ⟨n, p, r, rfl, I, dx, a, F, st, l, k, t, B, hd, q⟩ := h
    have hrd := B.rd
    refine ⟨_, (pss_cons (ps_set (i := 2) sc_answer_width.nd rfl (Or.inl rfl) (pe_meth0 (pv 1) T.cl_Reader T.m_Reader_number G_Reader_number (hr.mono (by decide)) T.b_Reader_number .nil pass0)) (pss_one (ps_ret (pe_meth (pv 0) T.cl_Line T.m_Line_set_width G_Line_set_width (hr.mono (by decide)) T.b_Line_set_width .nil pass0 (pa_cons (pv 2) pa_nil))))), ?_⟩
    refine seq_step fun N hN => ?_
    walk_at "rdh"
    refine num_sp B hd fun H1 B1 kp1 d1 l1 => hN.go ?_
    obtain ⟨u, kl, bl, dxl, ks, bs, eF, L⟩ := id B1.L
    have hp := L.obj
    clear hrd
    walk_at "rdh"
    exact ⟨p, n, rfl, I, F, st, B1.L, B1.wf, (fun _ h => nomatch h), fun H' o => q H' _ d1 l1 (aft_of B1 kp1 ⟨_, B.rd⟩ o (fun _ h => nomatch h) (SM.wf_step B1.wf _))⟩
def sp_answer_units (K : PySem.W.Frag) (A : Adr) : Sp := fun vs H Q _ => ∃ c n : Nat, AnsSp K A (.units c n) (fun t => (c : Int) :: (n : Int) :: t) vs H Q
theorem ok_answer_units (T : Txt K mg A) : FnOk P w K mg base CX0 3 A.f_answer_units A.d_answer_units ["line", "reader"] (sp_answer_units K A) := by
  have G_Line_set_units := ok_Line_set_units (P := P) (w := w) (base := base) T
  have G_Reader_number := ok_Reader_number (P := P) (w := w) (base := base) T
  refine T.F_answer_units.ok sc_answer_units (fun vs H Q E h => ?_) (fun cdv B outer s H vs Q E hr h => ?_)
  · obtain ⟨c, n, p, r, rfl, _⟩ := h
    rfl
  · obtain ⟨c, n, p, r, rfl, I, dx, a, F, st, l, k, t, B, hd, q⟩ := h
    have hrd := B.rd
    refine ⟨_, (pss_cons (ps_set (i := 2) sc_answer_units.nd rfl (Or.inl rfl) (pe_meth0 (pv 1) T.cl_Reader T.m_Reader_number G_Reader_number (hr.mono (by decide)) T.b_Reader_number .nil pass0)) (pss_cons (ps_set (i := 3) sc_answer_units.nd rfl (Or.inl rfl) (pe_meth0 (pv 1) T.cl_Reader T.m_Reader_number G_Reader_number (hr.mono (by decide)) T.b_Reader_number .nil pass0)) (pss_one (ps_ret (pe_meth (pv 0) T.cl_Line T.m_Line_set_units G_Line_set_units (hr.mono (by decide)) T.b_Line_set_units .nil pass0 (pa_cons (pv 2) (pa_cons (pv 3) pa_nil))))))), ?_⟩
    refine seq_step fun N hN => ?_
    walk_at "rdh"
    refine num_sp B hd fun H1 B1 kp1 d1 l1 => hN.go (seq_step fun N hN => ?_)
    have hrd1 := B1.rd
    clear hrd
    walk_at "rdh"
    refine num_sp B1 d1 fun H2 B2 kp2 d2 l2 => hN.go ?_
    obtain ⟨u, kl, bl, dxl, ks, bs, eF, L⟩ := id B2.L
    have hp := L.obj
    clear hrd1
    walk_at "rdh"
    exact ⟨p, c, n, rfl, I, F, st, B2.L, B2.wf, (fun _ h => nomatch h), fun H' o => q H' _ d2 l2 (aft_of B2 (Keep.trans kp1 kp2) ⟨_, B.rd⟩ o (fun _ h => nomatch h) (SM.wf_step B2.wf _))⟩
def sp_answer_kind (K : PySem.W.Frag) (A : Adr) : Sp := fun vs H Q _ => ∃ c b m : Nat, AnsSp K A (.kind c b m) (fun t => (c : Int) :: (b : Int) :: (m : Int) :: t) vs H Q
theorem ok_answer_kind (T : Txt K mg A) : FnOk P w K mg base CX0 4 A.f_answer_kind A.d_answer_kind ["line", "reader"] (sp_answer_kind K A) := by
  have G_Line_add_kind := ok_Line_add_kind (P := P) (w := w) (base := base) T
  have G_Reader_number := ok_Reader_number (P := P) (w := w) (base := base) T
  refine T.F_answer_kind.ok sc_answer_kind (fun vs H Q E h => ?_) (fun cdv B outer s H vs Q E hr h => ?_)
  · obtain ⟨c, b, m, p, r, rfl, _⟩ := h
    rfl
  · obtain ⟨c, b, m, p, r, rfl, I, dx, a, F, st, l, k, t, B, hd, q⟩ := h
    have hrd := B.rd
    refine ⟨_, (pss_cons (ps_set (i := 2) sc_answer_kind.nd rfl (Or.inl rfl) (pe_meth0 (pv 1) T.cl_Reader T.m_Reader_number G_Reader_number (hr.mono (by decide)) T.b_Reader_number .nil pass0)) (pss_cons (ps_set (i := 3) sc_answer_kind.nd rfl (Or.inl rfl) (pe_meth0 (pv 1) T.cl_Reader T.m_Reader_number G_Reader_number (hr.mono (by decide)) T.b_Reader_number .nil pass0)) (pss_cons (ps_set (i := 4) sc_answer_kind.nd rfl (Or.inl rfl) (pe_meth0 (pv 1) T.cl_Reader T.m_Reader_number G_Reader_number (hr.mono (by decide)) T.b_Reader_number .nil pass0)) (pss_one (ps_ret (pe_meth (pv 0) T.cl_Line T.m_Line_add_kind G_Line_add_kind (hr.mono (by decide)) T.b_Line_add_kind .nil pass0 (pa_cons (pv 2) (pa_cons (pv 3) (pa_cons (pv 4) pa_nil))))))))), ?_⟩
    refine seq_step fun N hN => ?_
    walk_at "rdh"
    refine num_sp B hd fun H1 B1 kp1 d1 l1 => hN.go (seq_step fun N hN => ?_)
    have hrd1 := B1.rd
    clear hrd
    walk_at "rdh"
    refine num_sp B1 d1 fun H2 B2 kp2 d2 l2 => hN.go (seq_step fun N hN => ?_)
    have hrd2 := B2.rd
    clear hrd1
    walk_at "rdh"
    refine num_sp B2 d2 fun H3 B3 kp3 d3 l3 => hN.go ?_
    obtain ⟨u, kl, bl, dxl, ks, bs, eF, L⟩ := id B3.L
    have hp := L.obj
    clear hrd2
    walk_at "rdh"
    exact ⟨p, c, b, m, rfl, I, F, st, B3.L, B3.wf, (fun _ h => nomatch h), fun H' o => q H' _ d3 l3 (aft_of B3 (Keep.trans (Keep.trans kp1 kp2) kp3) ⟨_, B.rd⟩ o (fun _ h => nomatch h) (SM.wf_step B3.wf _))⟩
def sp_answer_dep (K : PySem.W.Frag) (A : Adr) : Sp := fun vs H Q _ => ∃ i j : Nat, AnsSp K A (.dep i j) (fun t => (i : Int) :: (j : Int) :: t) vs H Q
theorem ok_answer_dep (T : Txt K mg A) : FnOk P w K mg base CX0 4 A.f_answer_dep A.d_answer_dep ["line", "reader"] (sp_answer_dep K A) := by
  have G_Line_dep := ok_Line_dep (P := P) (w := w) (base := base) T
  have G_Reader_number := ok_Reader_number (P := P) (w := w) (base := base) T
  refine T.F_answer_dep.ok sc_answer_dep (fun vs H Q E h => ?_) (fun cdv B outer s H vs Q E hr h => ?_)
  · obtain ⟨c, n, p, r, rfl, _⟩ := h
    rfl
  · obtain ⟨c, n, p, r, rfl, I, dx, a, F, st, l, k, t, B, hd, q⟩ := h
    have hrd := B.rd
    refine ⟨_, (pss_cons (ps_set (i := 2) sc_answer_dep.nd rfl (Or.inl rfl) (pe_meth0 (pv 1) T.cl_Reader T.m_Reader_number G_Reader_number (hr.mono (by decide)) T.b_Reader_number .nil pass0)) (pss_cons (ps_set (i := 3) sc_answer_dep.nd rfl (Or.inl rfl) (pe_meth0 (pv 1) T.cl_Reader T.m_Reader_number G_Reader_number (hr.mono (by decide)) T.b_Reader_number .nil pass0)) (pss_one (ps_ret (pe_meth (pv 0) T.cl_Line T.m_Line_dep G_Line_dep (hr.mono (by decide)) T.b_Line_dep .nil pass0 (pa_cons (pv 2) (pa_cons (pv 3) pa_nil))))))), ?_⟩
    refine seq_step fun N hN => ?_
    walk_at "rdh"
    refine num_sp B hd fun H1 B1 kp1 d1 l1 => hN.go (seq_step fun N hN => ?_)
    have hrd1 := B1.rd
    clear hrd
    walk_at "rdh"
    refine num_sp B1 d1 fun H2 B2 kp2 d2 l2 => hN.go ?_
    obtain ⟨u, kl, bl, dxl, ks, bs, eF, L⟩ := id B2.L
    have hp := L.obj
    clear hrd1
    walk_at "rdh"
    exact ⟨p, c, n, rfl, I, F, st, B2.L, B2.wf, (fun _ h => nomatch h), fun H' o => q H' _ d2 l2 (aft_of B2 (Keep.trans kp1 kp2) ⟨_, B.rd⟩ o (fun _ h => nomatch h) (SM.wf_step B2.wf _))⟩
def sp_answer_add (K : PySem.W.Frag) (A : Adr) : Sp := fun vs H Q _ => ∃ (kn m pl : Nat) (rs ws : List Nat), AnsSp K A (.add kn rs ws m pl) (fun t => (kn : Int) :: (m : Int) :: (pl : Int) :: (rs.length : Int) :: (Sched.ints rs ++ (ws.length : Int) :: (Sched.ints ws ++ t))) vs H Q
theorem ok_answer_add (T : Txt K mg A) : FnOk P w K mg base CX0 4 A.f_answer_add A.d_answer_add ["line", "reader"] (sp_answer_add K A) := by
  have G_Line_add := ok_Line_add (P := P) (w := w) (base := base) T
  have G_Reader_number := ok_Reader_number (P := P) (w := w) (base := base) T
  have G_Reader_row := ok_Reader_row (P := P) (w := w) (base := base) T
  refine T.F_answer_add.ok sc_answer_add (fun vs H Q E h => ?_) (fun cdv B outer s H vs Q E hr h => ?_)
  · obtain ⟨kn, m, pl, rs, ws, p, r, rfl, _⟩ := h
    rfl
  · obtain ⟨kn, m, pl, rs, ws, p, r, rfl, I, dx, a, F, st, l, k, t, B, hd, q⟩ := h
    have hrd := B.rd
    refine ⟨_, (pss_cons (ps_set (i := 2) sc_answer_add.nd rfl (Or.inl rfl) (pe_meth0 (pv 1) T.cl_Reader T.m_Reader_number G_Reader_number (hr.mono (by decide)) T.b_Reader_number .nil pass0)) (pss_cons (ps_set (i := 3) sc_answer_add.nd rfl (Or.inl rfl) (pe_meth0 (pv 1) T.cl_Reader T.m_Reader_number G_Reader_number (hr.mono (by decide)) T.b_Reader_number .nil pass0)) (pss_cons (ps_set (i := 4) sc_answer_add.nd rfl (Or.inl rfl) (pe_meth0 (pv 1) T.cl_Reader T.m_Reader_number G_Reader_number (hr.mono (by decide)) T.b_Reader_number .nil pass0)) (pss_cons (ps_set (i := 5) sc_answer_add.nd rfl (Or.inl rfl) (pe_meth0 (pv 1) T.cl_Reader T.m_Reader_row G_Reader_row (hr.mono (by decide)) T.b_Reader_row .nil pass0)) (pss_cons (ps_set (i := 6) sc_answer_add.nd rfl (Or.inl rfl) (pe_meth0 (pv 1) T.cl_Reader T.m_Reader_row G_Reader_row (hr.mono (by decide)) T.b_Reader_row .nil pass0)) (pss_one (ps_ret (pe_meth (pv 0) T.cl_Line T.m_Line_add G_Line_add (hr.mono (by decide)) T.b_Line_add .nil pass0 (pa_cons (pv 2) (pa_cons (pv 5) (pa_cons (pv 6) (pa_cons (pv 3) (pa_cons (pv 4) pa_nil))))))))))))), ?_⟩
    refine seq_step fun N hN => ?_
    walk_at "rdh"
    refine num_sp B hd fun H1 B1 kp1 d1 l1 => hN.go (seq_step fun N hN => ?_)
    have hrd1 := B1.rd
    clear hrd
    walk_at "rdh"
    refine num_sp B1 d1 fun H2 B2 kp2 d2 l2 => hN.go (seq_step fun N hN => ?_)
    have hrd2 := B2.rd
    clear hrd1
    walk_at "rdh"
    refine num_sp B2 d2 fun H3 B3 kp3 d3 l3 => hN.go (seq_step fun N hN => ?_)
    have hrd3 := B3.rd
    clear hrd2
    walk_at "rdh"
    refine row_sp B3 d3 fun x1 H4 hx1 hl1 B4 kp4 d4 l4 n4 => hN.go (seq_step fun N hN => ?_)
    have hrd4 := B4.rd
    clear hrd3
    walk_at "rdh"
    refine row_sp B4 d4 fun x2 H5 hx2 hl2 B5 kp5 d5 l5 n5 => hN.go ?_
    obtain ⟨u, kl, bl, dxl, ks, bs, eF, L⟩ := id B5.L
    have hp := L.obj
    have x1r : x1 ≠ r := fun e => by rw [e, B4.rd] at hl1; cases hl1
    have hl1' := kp5 _ _ hl1 (fun z => x1r (List.mem_singleton.mp z))
    clear hrd4
    walk_at "rdh"
    have kp03 := Keep.trans (Keep.trans kp1 kp2) kp3
    have kp04 := Keep.trans kp03 kp4
    have old : ∀ {G G' : Hp}, Keep [r] G G' → (∃ o, G' r = some o) → ∀ x, G' x = none → G x = none := fun {G G'} kp ⟨o, hr⟩ x hx => by
      cases e : G x with
      | none => rfl
      | some u =>
        by_cases z : x = r
        · rw [z, hr] at hx
          cases hx
        · rw [kp x u e (fun q => z (List.mem_singleton.mp q))] at hx
          cases hx
    have ox1 := old kp03 ⟨_, B3.rd⟩ x1 hx1
    have ox2 := old kp04 ⟨_, B4.rd⟩ x2 hx2
    refine ⟨p, x1, x2, kn, m, pl, rs, ws, rfl, hl1', hl2, (by omega), (by omega), I, F, st, B5.L, B5.wf, fun x hx hF => ?_, fun H' o => q H' _ d5 l5 (aft_of B5 (Keep.trans kp04 kp5) ⟨_, B.rd⟩ o (fun x hx => ?_) (SM.wf_step B5.wf _))⟩
    · simp only [List.mem_cons, List.not_mem_nil, or_false] at hx
      rcases hx with rfl | rfl
      · obtain ⟨o, e⟩ := B3.L.there hF
        rw [hx1] at e
        cases e
      · obtain ⟨o, e⟩ := B4.L.there hF
        rw [hx2] at e
        cases e
    · simp only [List.mem_cons, List.not_mem_nil, or_false] at hx
      rcases hx with rfl | rfl
      · exact ox1
      · exact ox2
end

/-- init on a line that is there -/
theorem begin_out {A : Adr} {I H H' : Hp} {p dx u kl bl : Addr} {F R : List Addr}(hF : p ∈ F) (hI : I p = none) (sub : Same I H) (h1 : H' p = some (.ins A.C_Line dx (fs_Line (nI 1) (.ref u) (.ref kl) (.ref bl)))) (h2 : H' u = some (.lst (natV (List.replicate 8 1)))) (h3 : H' kl = some (.lst [])) (h4 : H' bl = some (.lst []))
    (n1 : u ≠ kl) (n2 : u ≠ bl) (n3 : kl ≠ bl) (m1 : H u = none) (m2 : H kl = none) (m3 : H bl = none) (kp : Keep [p] H H') : Out A I H p F R Sched.start H' := by
  refine ⟨fun b o e hb => kp b o e fun q => hb (by rw [List.mem_singleton.mp q]; exact hF), I, [p, u, kl, bl], ⟨u, kl, bl, dx, [], [], rfl, ⟨h1, h2, h3, h4, n1, n2, n3, fun b o e => kp b o (sub b o e) (fun q => by rw [List.mem_singleton.mp q, hI] at e; cases e), hI, Same.free sub m1, Same.free sub m2, Same.free sub m3, .nil, .nil⟩⟩, fun _ _ e => e, fun _ e _ _ => e, fun b hb => ?_⟩
  simp only [List.mem_cons, List.not_mem_nil, or_false] at hb
  rcases hb with rfl | rfl | rfl | rfl
  · exact .inl hF
  · exact .inr m1
  · exact .inr m2
  · exact .inr m3
section
variable {P : Program} {w : World} {K : PySem.W.Frag} {mg : Str → Option Value} {base : Heap} {A : Adr}
def sp_answer_number (K : PySem.W.Frag) (A : Adr) : Sp := fun vs H Q _ => ∃ (p r : Addr) (z : Int), vs = [.ref p, .ref r, .int z] ∧ ∃ I dx a F s l k c t, Both K A I H p r dx a F s l k ∧ SM.Reads (z :: l.drop k) c t ∧ z ≠ 8 ∧ z ≠ 9 ∧ k ≤ l.length ∧
  ∀ H' k', l.drop k' = t → k' ≤ l.length → Aft K A I H p r dx a F (Sched.step s c).1 l k' H' → Q (.int (Sched.step s c).2.ret) H'
theorem ok_answer_number (T : Txt K mg A) : FnOk P w K mg base CX0 6 A.f_answer_number A.d_answer_number ["line", "reader", "call"] (sp_answer_number K A) := by
  have G_Line_begin := ok_Line_begin (P := P) (w := w) (base := base) T
  have G_Line_bound := ok_Line_bound (P := P) (w := w) (base := base) T
  have G_Line_clear := ok_Line_clear (P := P) (w := w) (base := base) T
  have G_answer_add := ok_answer_add (P := P) (w := w) (base := base) T
  have G_answer_dep := ok_answer_dep (P := P) (w := w) (base := base) T
  have G_answer_kind := ok_answer_kind (P := P) (w := w) (base := base) T
  have G_answer_units := ok_answer_units (P := P) (w := w) (base := base) T
  have G_answer_width := ok_answer_width (P := P) (w := w) (base := base) T
  refine T.F_answer_number.ok sc_answer_number (fun vs H Q E h => ?_) (fun cdv B outer s H vs Q E hr h => ?_)
  · obtain ⟨p, r, z, rfl, _⟩ := h
    rfl
  · obtain ⟨p, r, z, rfl, I, dx, a, F, st, l, k, c, t, B, rd, z8, z9, lk, q⟩ := h
    obtain ⟨u, kl, bl, dxl, ks, bs, eF, L⟩ := id B.L
    have hp := L.obj
    refine ⟨_, (pss_cons (ps_if (pt_cmpR op_eq (pv 2) (pe_gint (by rfl) T.c_CALL_INIT) (nomark _)) (pss_one (ps_ret (pe_meth0 (pv 0) T.cl_Line T.m_Line_begin G_Line_begin (hr.mono (by decide)) T.b_Line_begin .nil pass0))) pss_nil) (pss_cons (ps_if (pt_cmpR op_eq (pv 2) (pe_gint (by rfl) T.c_CALL_WIDTH) (nomark _)) (pss_one (ps_ret (pe_call G_answer_width (hr.mono (by decide)) (by rfl) T.g_answer_width T.k_answer_width T.b_answer_width .nil pass0 (pa_cons (pv 0) (pa_cons (pv 1) pa_nil))))) pss_nil) (pss_cons (ps_if (pt_cmpR op_eq (pv 2) (pe_gint (by rfl) T.c_CALL_UNITS) (nomark _)) (pss_one (ps_ret (pe_call G_answer_units (hr.mono (by decide)) (by rfl) T.g_answer_units T.k_answer_units T.b_answer_units .nil pass0 (pa_cons (pv 0) (pa_cons (pv 1) pa_nil))))) pss_nil) (pss_cons (ps_if (pt_cmpR op_eq (pv 2) (pe_gint (by rfl) T.c_CALL_KIND) (nomark _)) (pss_one (ps_ret (pe_call G_answer_kind (hr.mono (by decide)) (by rfl) T.g_answer_kind T.k_answer_kind T.b_answer_kind .nil pass0 (pa_cons (pv 0) (pa_cons (pv 1) pa_nil))))) pss_nil) (pss_cons (ps_if (pt_cmpR op_eq (pv 2) (pe_gint (by rfl) T.c_CALL_ADD) (nomark _)) (pss_one (ps_ret (pe_call G_answer_add (hr.mono (by decide)) (by rfl) T.g_answer_add T.k_answer_add T.b_answer_add .nil pass0 (pa_cons (pv 0) (pa_cons (pv 1) pa_nil))))) pss_nil) (pss_cons (ps_if (pt_cmpR op_eq (pv 2) (pe_gint (by rfl) T.c_CALL_CLEAR) (nomark _)) (pss_one (ps_ret (pe_meth0 (pv 0) T.cl_Line T.m_Line_clear G_Line_clear (hr.mono (by decide)) T.b_Line_clear .nil pass0))) pss_nil) (pss_cons (ps_if (pt_cmpR op_eq (pv 2) (pe_gint (by rfl) T.c_CALL_DEP) (nomark _)) (pss_one (ps_ret (pe_call G_answer_dep (hr.mono (by decide)) (by rfl) T.g_answer_dep T.k_answer_dep T.b_answer_dep .nil pass0 (pa_cons (pv 0) (pa_cons (pv 1) pa_nil))))) pss_nil) (pss_cons (ps_if (pt_cmpR op_eq (pv 2) (pe_gint (by rfl) T.c_CALL_BOUND) (nomark _)) (pss_one (ps_ret (pe_meth0 (pv 0) T.cl_Line T.m_Line_bound G_Line_bound (hr.mono (by decide)) T.b_Line_bound .nil pass0))) pss_nil) (pss_one ps_never))))))))), ?_⟩
    generalize hm : z :: l.drop k = m at rd
    have no : ∀ {R : List Addr}, R = [] → ∀ x ∈ R, H x = none := fun {R} e x hx => by rw [e] at hx; cases hx
    cases rd with
    | init =>
      injection hm with e1 e2
      subst e1
      refine seq_step fun N hN => ?_
      walk_at "rdh"
      exact ⟨p, dxl, _, rfl, hp, .inr ⟨_, _, _, _, rfl⟩, fun H' u' kl' bl' h1 h2 h3 h4 n1 n2 n3 m1 m2 m3 kp => q H' k e2 lk (aft_of B (fun _ _ e _ => e) ⟨_, B.rd⟩ (begin_out (R := []) (by rw [eF]; simp) L.ip L.sub h1 h2 h3 h4 n1 n2 n3 m1 m2 m3 kp) (fun _ h => nomatch h) SM.wf_start)⟩
    | width n =>
      injection hm with e1 e2
      subst e1
      refine seq_step fun N hN => ?_
      walk_at "rdh"
      rw [if_neg (by decide)]
      refine hN.go (seq_step fun N hN => ?_)
      walk_at "rdh"
      exact ⟨n, p, r, rfl, I, dx, a, F, st, l, k, _, B, e2, q⟩
    | units c n =>
      injection hm with e1 e2
      subst e1
      refine seq_step fun N hN => ?_
      walk_at "rdh"
      rw [if_neg (by decide)]
      refine hN.go (seq_step fun N hN => ?_)
      walk_at "rdh"
      rw [if_neg (by decide)]
      refine hN.go (seq_step fun N hN => ?_)
      walk_at "rdh"
      exact ⟨c, n, p, r, rfl, I, dx, a, F, st, l, k, _, B, e2, q⟩
    | kind c b la =>
      injection hm with e1 e2
      subst e1
      refine seq_step fun N hN => ?_
      walk_at "rdh"
      rw [if_neg (by decide)]
      refine hN.go (seq_step fun N hN => ?_)
      walk_at "rdh"
      rw [if_neg (by decide)]
      refine hN.go (seq_step fun N hN => ?_)
      walk_at "rdh"
      rw [if_neg (by decide)]
      refine hN.go (seq_step fun N hN => ?_)
      walk_at "rdh"
      exact ⟨c, b, la, p, r, rfl, I, dx, a, F, st, l, k, _, B, e2, q⟩
    | add kn mm pl rs ws =>
      injection hm with e1 e2
      subst e1
      refine seq_step fun N hN => ?_
      walk_at "rdh"
      rw [if_neg (by decide)]
      refine hN.go (seq_step fun N hN => ?_)
      walk_at "rdh"
      rw [if_neg (by decide)]
      refine hN.go (seq_step fun N hN => ?_)
      walk_at "rdh"
      rw [if_neg (by decide)]
      refine hN.go (seq_step fun N hN => ?_)
      walk_at "rdh"
      rw [if_neg (by decide)]
      refine hN.go (seq_step fun N hN => ?_)
      walk_at "rdh"
      exact ⟨kn, mm, pl, rs, ws, p, r, rfl, I, dx, a, F, st, l, k, _, B, e2, q⟩
    | clear =>
      injection hm with e1 e2
      subst e1
      refine seq_step fun N hN => ?_
      walk_at "rdh"
      rw [if_neg (by decide)]
      refine hN.go (seq_step fun N hN => ?_)
      walk_at "rdh"
      rw [if_neg (by decide)]
      refine hN.go (seq_step fun N hN => ?_)
      walk_at "rdh"
      rw [if_neg (by decide)]
      refine hN.go (seq_step fun N hN => ?_)
      walk_at "rdh"
      rw [if_neg (by decide)]
      refine hN.go (seq_step fun N hN => ?_)
      walk_at "rdh"
      rw [if_neg (by decide)]
      refine hN.go (seq_step fun N hN => ?_)
      walk_at "rdh"
      exact ⟨p, rfl, I, F, st, B.L, B.wf, (fun _ h => nomatch h), fun H' o => q H' k e2 lk (aft_of B (fun _ _ e _ => e) ⟨_, B.rd⟩ o (fun _ h => nomatch h) (SM.wf_step B.wf _))⟩
    | dep i j =>
      injection hm with e1 e2
      subst e1
      refine seq_step fun N hN => ?_
      walk_at "rdh"
      rw [if_neg (by decide)]
      refine hN.go (seq_step fun N hN => ?_)
      walk_at "rdh"
      rw [if_neg (by decide)]
      refine hN.go (seq_step fun N hN => ?_)
      walk_at "rdh"
      rw [if_neg (by decide)]
      refine hN.go (seq_step fun N hN => ?_)
      walk_at "rdh"
      rw [if_neg (by decide)]
      refine hN.go (seq_step fun N hN => ?_)
      walk_at "rdh"
      rw [if_neg (by decide)]
      refine hN.go (seq_step fun N hN => ?_)
      walk_at "rdh"
      rw [if_neg (by decide)]
      refine hN.go (seq_step fun N hN => ?_)
      walk_at "rdh"
      exact ⟨i, j, p, r, rfl, I, dx, a, F, st, l, k, _, B, e2, q⟩
    | bound =>
      injection hm with e1 e2
      subst e1
      refine seq_step fun N hN => ?_
      walk_at "rdh"
      rw [if_neg (by decide)]
      refine hN.go (seq_step fun N hN => ?_)
      walk_at "rdh"
      rw [if_neg (by decide)]
      refine hN.go (seq_step fun N hN => ?_)
      walk_at "rdh"
      rw [if_neg (by decide)]
      refine hN.go (seq_step fun N hN => ?_)
      walk_at "rdh"
      rw [if_neg (by decide)]
      refine hN.go (seq_step fun N hN => ?_)
      walk_at "rdh"
      rw [if_neg (by decide)]
      refine hN.go (seq_step fun N hN => ?_)
      walk_at "rdh"
      rw [if_neg (by decide)]
      refine hN.go (seq_step fun N hN => ?_)
      walk_at "rdh"
      rw [if_neg (by decide)]
      refine hN.go (seq_step fun N hN => ?_)
      walk_at "rdh"
      exact ⟨p, rfl, I, F, st, B.L, B.wf, (fun _ h => nomatch h), fun H' o => q H' k e2 lk (aft_of B (fun _ _ e _ => e) ⟨_, B.rd⟩ o (fun _ h => nomatch h) (SM.wf_step B.wf _))⟩
    | time o => exact absurd (List.cons.inj hm).1 z8
    | best => exact absurd (List.cons.inj hm).1 z9
end

theorem Both.same {K : PySem.W.Frag} {A : Adr} {I H H1 : Hp} {p r dx a : Addr} {F : List Addr} {s : Sched.State} {l : List Int} {k : Nat} (B : Both K A I H p r dx a F s l k) (h : Same H H1) : Both K A I H1 p r dx a F s l k := by
  refine ⟨B.L.same h, B.wf, h _ _ B.rd, B.rF, B.rI, ?_, B.len⟩
  rcases B.sa with z | ⟨h1, h2, h3⟩
  · exact .inl z
  · exact .inr ⟨rd_same h h1, h2, h3⟩
theorem Aft.on {K : PySem.W.Frag} {A : Adr} {I H H1 H2 : Hp} {p r dx a : Addr} {F : List Addr} {s : Sched.State} {l : List Int} {k : Nat} (f : Aft K A I H p r dx a F s l k H1) (h : Same H1 H2) : Aft K A I H p r dx a F s l k H2 := by
  obtain ⟨I', F', B, h1, h2⟩ := f.ex
  exact ⟨fun b o e hb => h b o (f.keep b o e hb), I', F', B.same h, h1, h2⟩
theorem Aft.back {K : PySem.W.Frag} {A : Adr} {I H H1 H2 : Hp} {p r dx a : Addr} {F : List Addr} {s : Sched.State} {l : List Int} {k : Nat} (f : Aft K A I H1 p r dx a F s l k H2) (kp : Keep [r] H H1) (hr : ∃ o, H1 r = some o) : Aft K A I H p r dx a F s l k H2 := by
  obtain ⟨I', F', B, h1, h2⟩ := f.ex
  obtain ⟨o, hr⟩ := hr
  have up : ∀ b u, H b = some u → ∃ v, H1 b = some v := fun b u e => by
    by_cases z : b = r
    · subst z
      exact ⟨_, hr⟩
    · exact ⟨_, kp b u e fun q => z (List.mem_singleton.mp q)⟩
  refine ⟨fun b u e hb => f.keep b u (kp b u e fun q => hb (by rw [List.mem_singleton.mp q]; exact List.mem_cons_self)) hb, I', F', B, fun b hb hs => ?_, fun b hb => ?_⟩
  · obtain ⟨u, e⟩ := Option.isSome_iff_exists.mp hs
    obtain ⟨v, e1⟩ := up b u e
    exact h1 b hb (by rw [e1]; rfl)
  · rcases h2 b hb with z | z
    · exact .inl z
    · refine .inr ?_
      cases e : H b with
      | none => rfl
      | some u =>
        obtain ⟨v, e1⟩ := up b u e
        rw [e1] at z
        cases z
def numCall : Sched.Call → Bool
  | .time _ => false
  | .best => false
  | _ => true
theorem nums_nil (s : Sched.State) (c : Sched.Call) (h : numCall c = true) : (Sched.step s c).2.nums = [] := by
  cases c with
  | init => rfl
  | width n => unfold Sched.step; dsimp only; split <;> rfl
  | units c n => unfold Sched.step; dsimp only; split <;> rfl
  | kind c b l => unfold Sched.step; dsimp only; split <;> rfl
  | add k r w m p =>
    unfold Sched.step
    dsimp only
    split
    · rfl
    · split <;> rfl
  | clear => rfl
  | dep i j =>
    unfold Sched.step
    dsimp only
    split <;> rfl
  | bound => rfl
  | time o => cases h
  | best => cases h
theorem ans_is (s : Sched.State) (c : Sched.Call) : SM.ans (Sched.step s c).2 = ((3 + (Sched.step s c).2.nums.length : Nat) : Int) :: (Sched.step s c).2.ret :: 0 :: ((Sched.step s c).2.nums.length : Int) :: (Sched.step s c).2.nums := by
  have says : ∀ z, SM.ans (Sched.says z) = ((3 + (Sched.says z).nums.length : Nat) : Int) :: (Sched.says z).ret :: 0 :: ((Sched.says z).nums.length : Int) :: (Sched.says z).nums := fun z => rfl
  have tells : ∀ z l, SM.ans (Sched.tells z l) = ((3 + (Sched.tells z l).nums.length : Nat) : Int) :: (Sched.tells z l).ret :: 0 :: ((Sched.tells z l).nums.length : Int) :: (Sched.tells z l).nums := fun z l => by
    have e : (Sched.tells z l).nums.length = l.length := by
      show (Sched.ints l).length = l.length
      unfold Sched.ints
      rw [List.length_map]
    rw [SM.ans_tells, e]
    rfl
  cases c with
  | init => exact says _
  | width n => unfold Sched.step; dsimp only; split <;> exact says _
  | units c n => unfold Sched.step; dsimp only; split <;> exact says _
  | kind c b l => unfold Sched.step; dsimp only; split <;> exact says _
  | add k r w m p =>
    unfold Sched.step
    dsimp only
    split
    · exact says _
    · split <;> exact says _
  | clear => exact says _
  | dep i j =>
    unfold Sched.step
    dsimp only
    split <;> exact says _
  | bound => exact says _
  | time o =>
    unfold Sched.step
    dsimp only
    split
    · exact says _
    · split
      · exact says _
      · exact tells _ _
  | best => exact tells _ _
section
variable {P : Program} {w : World} {K : PySem.W.Frag} {mg : Str → Option Value} {base : Heap} {A : Adr}
def sp_written_answer : Sp := fun vs H Q _ => ∃ (z : Int) (p : Addr) (ns : List Int), vs = [.int z, .ref p] ∧ H p = some (.lst (ns.map V.int)) ∧ ns.length ≤ 1000 ∧
  ∀ H' g, Same H H' → H g = none → H' g = some (.lst ((((3 + ns.length : Nat) : Int) :: z :: 0 :: (ns.length : Int) :: ns).map V.int)) → Q (.ref g) H'
theorem ok_written_answer (T : Txt K mg A) : FnOk P w K mg base CX0 1 A.f_written_answer A.d_written_answer ["number", "row"] sp_written_answer := by
  refine T.F_written_answer.ok sc_written_answer (fun vs H Q E h => ?_) (fun cdv B outer s H vs Q E hr h => ?_)
  · obtain ⟨z, p, ns, rfl, _⟩ := h
    rfl
  · obtain ⟨z, p, ns, rfl, hp, hl, k⟩ := h
    refine ⟨_, (pss_cons (ps_set (i := 2) sc_written_answer.nd rfl (Or.inl rfl) (pe_op op_cat (pe_lst (pa_cons (pv 0) (pa_cons pe_int (pa_cons (pe_callB len_lst (by rfl) T.n_len PySem.boot_len (pa_cons (pv 1) pa_nil)) pa_nil)))) (pv 1))) (pss_one (ps_ret (pe_op op_cat (pe_lst (pa_cons (pe_callB len_lst (by rfl) T.n_len PySem.boot_len (pa_cons (pv 2) pa_nil)) pa_nil)) (pv 2))))), ?_⟩
    refine seq_step fun N hN => ?_
    walk_at "rdh"
    intro a ha
    have pa : p ≠ a := ne_of_none hp ha
    refine ⟨_, (by rw [upd_ne pa]; exact hp), (by rw [List.length_map]; omega), fun b b1 b2 hb => hN.go ?_⟩
    have s2 : Same H (upd (upd H a (HO.lst [V.int z, V.int 0, V.int ↑ns.length])) b (HO.lst (V.int z :: V.int 0 :: V.int ↑ns.length :: ns.map V.int))) := Same.upd (Same.new ha) hb
    have hb2 : upd (upd H a (HO.lst [V.int z, V.int 0, V.int ↑ns.length])) b (HO.lst (V.int z :: V.int 0 :: V.int ↑ns.length :: ns.map V.int)) b = some (HO.lst (V.int z :: V.int 0 :: V.int ↑ns.length :: ns.map V.int)) := upd_same
    generalize upd (upd H a (HO.lst [V.int z, V.int 0, V.int ↑ns.length])) b (HO.lst (V.int z :: V.int 0 :: V.int ↑ns.length :: ns.map V.int)) = H2 at s2 hb2 ⊢
    clear hp
    walk_at "rdh"
    intro c hc
    have bc : b ≠ c := ne_of_none hb2 hc
    refine ⟨_, (by rw [upd_ne bc]; exact hb2), ?_, fun d d1 d2 hd => ?_⟩
    · rw [List.length_cons, List.length_cons, List.length_cons, List.length_map]
      omega
    · refine k _ d (Same.upd (Same.upd s2 (Same.free s2 hc)) (Same.free s2 hd)) (Same.free s2 hd) ?_
      rw [upd_same, show ns.length + 1 + 1 + 1 = 3 + ns.length by omega]
      rfl
def sp_answer_call (K : PySem.W.Frag) (A : Adr) : Sp := fun vs H Q _ => ∃ (p r : Addr), vs = [.ref p, .ref r] ∧ ∃ I dx a F s l k c t, Both K A I H p r dx a F s l k ∧ SM.Reads (l.drop k) c t ∧
  ∀ H' T L k', l.drop k' = t → k' ≤ l.length → Aft K A I H p r dx a F (Sched.step s c).1 l k' H' → H' T = some (.tup [.int (Sched.step s c).2.ret, .ref L]) → H' L = some (.lst ((Sched.step s c).2.nums.map V.int)) → Q (.ref T) H'
theorem ok_answer_call (T : Txt K mg A) : FnOk P w K mg base CX0 7 A.f_answer_call A.d_answer_call ["line", "reader"] (sp_answer_call K A) := by
  have G_Line_best := ok_Line_best (P := P) (w := w) (base := base) T
  have G_Line_time := ok_Line_time (P := P) (w := w) (base := base) T
  have G_Reader_number := ok_Reader_number (P := P) (w := w) (base := base) T
  have G_Reader_row := ok_Reader_row (P := P) (w := w) (base := base) T
  have G_answer_number := ok_answer_number (P := P) (w := w) (base := base) T
  refine T.F_answer_call.ok sc_answer_call (fun vs H Q E h => ?_) (fun cdv B outer s H vs Q E hr h => ?_)
  · obtain ⟨p, r, rfl, _⟩ := h
    rfl
  · obtain ⟨p, r, rfl, I, dx, a, F, st, l, k, c, t, B, rd, q⟩ := h
    have hrd := B.rd
    refine ⟨_, (pss_cons (ps_set (i := 2) sc_answer_call.nd rfl (Or.inl rfl) (pe_meth0 (pv 1) T.cl_Reader T.m_Reader_number G_Reader_number (hr.mono (by decide)) T.b_Reader_number .nil pass0)) (pss_cons (ps_if (pt_cmpR op_eq (pv 2) (pe_gint (by rfl) T.c_CALL_TIME) (nomark _)) (pss_one (ps_ret (pe_meth (pv 0) T.cl_Line T.m_Line_time G_Line_time (hr.mono (by decide)) T.b_Line_time .nil pass0 (pa_cons (pe_meth0 (pv 1) T.cl_Reader T.m_Reader_row G_Reader_row (hr.mono (by decide)) T.b_Reader_row .nil pass0) pa_nil)))) pss_nil) (pss_cons (ps_if (pt_cmpR op_eq (pv 2) (pe_gint (by rfl) T.c_CALL_BEST) (nomark _)) (pss_one (ps_ret (pe_meth0 (pv 0) T.cl_Line T.m_Line_best G_Line_best (hr.mono (by decide)) T.b_Line_best .nil pass0))) pss_nil) (pss_one (ps_ret (pe_tup (pa_cons (pe_call G_answer_number (hr.mono (by decide)) (by rfl) T.g_answer_number T.k_answer_number T.b_answer_number .nil pass0 (pa_cons (pv 0) (pa_cons (pv 1) (pa_cons (pv 2) pa_nil)))) (pa_cons (pe_lst pa_nil) pa_nil)))))))), ?_⟩
    refine seq_step fun N hN => ?_
    walk_at "rdh"
    have key : ∀ z m, l.drop k = z :: m → SM.Reads (z :: m) c t → sp_Reader_number K A [V.ref r] H (fun x H1 => N [some (V.ref p), some (V.ref r), some x] H1) E0 := fun z m hm rd => by
      refine num_sp B hm fun H1 B1 kp1 d1 l1 => hN.go (seq_step fun N hN => ?_)
      obtain ⟨u, kl, bl, dxl, ks, bs, eF, L⟩ := id B1.L
      have hp := L.obj
      have hrd1 := B1.rd
      clear hrd
      walk_at "rdh"
      have FL : ∀ {x : Addr}, x ∈ F → ∃ o, H1 x = some o := fun h => B1.L.there h
      have old : ∀ x, H1 x = none → H x = none := fun x hx => by
        cases e : H x with
        | none => rfl
        | some u =>
          by_cases z : x = r
          · rw [z, B1.rd] at hx
            cases hx
          · rw [kp1 x u e (fun q => z (List.mem_singleton.mp q))] at hx
            cases hx
      by_cases c8 : z = 8
      · rw [if_pos c8]
        subst c8
        cases rd with
        | time o =>
          refine row_sp B1 d1 fun x H2 hx hl2 B2 kp2 d2 l2 n2 => ?_
          refine ⟨p, x, o, rfl, hl2, (by omega), I, F, st, B2.L, B2.wf, fun y hy hF => ?_, fun H' T L ou hT hL => q H' T L _ d2 l2 (aft_of B2 (Keep.trans kp1 kp2) ⟨_, B.rd⟩ ou (fun y hy => ?_) (SM.wf_step B2.wf _)) hT hL⟩
          · rw [List.mem_singleton.mp hy] at hF
            obtain ⟨v, e⟩ := FL hF
            rw [hx] at e
            cases e
          · rw [List.mem_singleton.mp hy]
            exact old x hx
      · rw [if_neg c8]
        refine hN.go (seq_step fun N hN => ?_)
        walk_at "rdh"
        by_cases c9 : z = 9
        · rw [if_pos c9]
          subst c9
          cases rd with
          | best =>
            exact ⟨p, rfl, I, F, st, B1.L, B1.wf, (fun _ h => nomatch h), fun H' T L ou hT hL => q H' T L _ d1 l1 (aft_of B1 kp1 ⟨_, B.rd⟩ ou (fun _ h => nomatch h) (SM.wf_step B1.wf _)) hT hL⟩
        · rw [if_neg c9]
          refine hN.go ?_
          have nc : numCall c = true := by
            cases rd <;> first | rfl | exact absurd rfl c8 | exact absurd rfl c9
          unfold sp_answer_number
          walk_at "rdh"
          refine ⟨I, dx, a, F, st, l, k + 1, B1, c, t, (by rw [d1]; exact rd), l1, fun H' k' e1 e2 af x hx y y1 y2 hy => ?_⟩
          refine q _ y x k' e1 e2 ((af.back kp1 ⟨_, B1.rd⟩).on (Same.upd (Same.new hx) hy)) upd_same ?_
          rw [upd_ne y2, upd_same, nums_nil st c nc]
          rfl
    cases e : l.drop k with
    | nil =>
      rw [e] at rd
      cases rd
    | cons z m =>
      rw [e] at rd
      exact key z m e rd
end

theorem Both.put {K : PySem.W.Frag} {A : Adr} {I H : Hp} {p r dx a g : Addr} {F : List Addr} {s : Sched.State} {l : List Int} {k : Nat} {o : HO} (B : Both K A I H p r dx a F s l k) (h1 : g ∉ F) (h2 : I g = none) (h3 : g ≠ r) (h4 : (∀ H', SqL K H' a (l.map V.int)) ∨ a ≠ g) : Both K A I (upd H g o) p r dx a F s l k := by
  have kp : Keep [g] H (upd H g o) := upd_keep (by simp)
  refine ⟨B.L.keep kp fun x hx => ?_, B.wf, by rw [upd_ne h3.symm]; exact B.rd, B.rF, B.rI, ?_, B.len⟩
  · rw [List.mem_singleton.mp hx]
    exact ⟨h1, h2⟩
  · rcases B.sa with z | ⟨z1, z2, z3⟩
    · exact .inl z
    · rcases h4 with q | q
      · exact .inl q
      · exact .inr ⟨rd_keep kp (fun m => q (List.mem_singleton.mp m)) z1, z2, z3⟩
section
variable {P : Program} {w : World} {K : PySem.W.Frag} {mg : Str → Option Value} {base : Heap} {A : Adr}
def sp_answers (K : PySem.W.Frag) : Sp := fun vs H Q _ => ∃ (a : Addr) (l : List Int), vs = [.ref a] ∧ SqL K H a (l.map V.int) ∧ l.length ≤ 16000 ∧ PyWqaeag.answers_asked l = true ∧ ∀ (H' : Hp) (g : Addr), H' g = some (.lst ((PyWqaeag.answers l).map V.int)) → Q (.ref g) H'
theorem ok_answers (T : Txt K mg A) : FnOk P w K mg base CX0 8 A.f_answers A.d_answers ["calls"] (sp_answers K) := by
  have G_Line_init := ok_Line_init (P := P) (w := w) (base := base) T
  have G_Reader_has_more := ok_Reader_has_more (P := P) (w := w) (base := base) T
  have G_Reader_init := ok_Reader_init (P := P) (w := w) (base := base) T
  have G_answer_call := ok_answer_call (P := P) (w := w) (base := base) T
  have G_written_answer := ok_written_answer (P := P) (w := w) (base := base) T
  refine T.F_answers.ok sc_answers (fun vs H Q E h => ?_) (fun cdv B outer s H vs Q E hr h => ?_)
  · obtain ⟨a, l, rfl, _⟩ := h
    rfl
  · obtain ⟨a, l, rfl, ha, hl, ask, k⟩ := h
    have cl_Line := T.cl_Line
    have a_Line_width := T.a_Line_width
    have a_Line_units := T.a_Line_units
    have a_Line_kinds := T.a_Line_kinds
    have a_Line_block := T.a_Line_block
    have cl_Reader := T.cl_Reader
    have a_Reader_numbers := T.a_Reader_numbers
    have a_Reader_at := T.a_Reader_at
    refine ⟨_, (pss_cons (ps_set (i := 1) sc_answers.nd rfl (Or.inl rfl) (pe_make0 T.mk_Line G_Line_init (hr.mono (by decide)) (by rfl) T.g_Line T.b_Line_init .nil pass0)) (pss_cons (ps_set (i := 2) sc_answers.nd rfl (Or.inl rfl) (pe_make T.mk_Reader G_Reader_init (hr.mono (by decide)) (by rfl) T.g_Reader T.b_Reader_init .nil pass0 (pa_cons (pv 0) pa_nil))) (pss_cons (ps_set (i := 3) sc_answers.nd rfl (Or.inl rfl) (pe_lst pa_nil)) (pss_cons (ps_while PassesOwn.never (pt_val (pe_meth0 (pv 2) T.cl_Reader T.m_Reader_has_more G_Reader_has_more (hr.mono (by decide)) T.b_Reader_has_more .nil pass0)) (pss_cons (ps_set (i := 4) sc_answers.nd rfl (Or.inl rfl) (pe_call G_answer_call (hr.mono (by decide)) (by rfl) T.g_answer_call T.k_answer_call T.b_answer_call .nil pass0 (pa_cons (pv 1) (pa_cons (pv 2) pa_nil)))) (pss_one (ps_expr (pe_bm PySem.F.plainAttrs_list PySem.F.slot_list_extend PySem.F.type_list_extend mt_extend (pv 3) (pa_cons (pe_call G_written_answer (hr.mono (by decide)) (by rfl) T.g_written_answer T.k_written_answer T.b_written_answer .nil pass0 (pa_cons (pe_ix ix_tup (pv 4) pe_int (fun _ _ => rfl)) (pa_cons (pe_ix ix_tup (pv 4) pe_int (fun _ _ => rfl)) pa_nil))) pa_nil)))))) (pss_one (ps_ret (pv 3))))))), ?_⟩
    refine seq_step fun N hN => ?_
    walk_at "rd"
    intro p dxl hp hdx hne
    refine ⟨p, dxl, rfl, upd_same, fun H1 u kl bl h1 h2 h3 h4 n1 n2 n3 m1 m2 m3 kp => ⟨rfl, hN.go (seq_step fun N hN => ?_)⟩⟩
    have o1 : ∀ x, upd (upd H dxl (HO.own p)) p (HO.ins A.C_Line dxl []) x = none → H x = none := fun x hx => (upd_none.mp (upd_none.mp hx).2.2).2.2
    have z1 := o1 u m1
    have z2 := o1 kl m2
    have z3 := o1 bl m3
    have s01 : Same H H1 := fun b o e => by
      refine kp b o ?_ (fun q => ne_of_none e hp (List.mem_singleton.mp q))
      rw [upd_ne (ne_of_none e hp), upd_ne (ne_of_none e hdx)]
      exact e
    have LA : LineAt A (fun _ => none) H1 p [p, u, kl, bl] Sched.start := ⟨u, kl, bl, dxl, [], [], rfl, ⟨h1, h2, h3, h4, n1, n2, n3, (fun b o e => nomatch e), rfl, rfl, rfl, rfl, .nil, .nil⟩⟩
    walk_at "rd"
    intro r dx hr' hdx' hne'
    refine ⟨r, dx, a, rfl, upd_same, rfl, hN.go (seq_step fun N hN => ?_)⟩
    have zr : H r = none := Same.free s01 hr'
    have s12 : Same H1 (upd (upd (upd H1 dx (HO.own r)) r (HO.ins A.C_Reader dx [])) r (rObj A dx a 0)) := Same.upd (Same.upd (Same.new hdx') hr') hr'
    have hr2 : upd (upd (upd H1 dx (HO.own r)) r (HO.ins A.C_Reader dx [])) r (rObj A dx a 0) r = some (rObj A dx a 0) := upd_same
    generalize upd (upd (upd H1 dx (HO.own r)) r (HO.ins A.C_Reader dx [])) r (rObj A dx a 0) = H2 at s12 hr2 ⊢
    have rF : r ∉ [p, u, kl, bl] := fun q => by
      obtain ⟨o, e⟩ := LA.there q
      rw [hr'] at e
      cases e
    have sa : Sa K H2 [p, u, kl, bl] r a (l.map V.int) ∧ ∀ g, H2 g = none → ((∀ H', SqL K H' a (l.map V.int)) ∨ a ≠ g) := by
      rcases ha with hR | hK
      · obtain ⟨o, e⟩ := rd_some hR
        have e2 := s12 _ _ (s01 _ _ e)
        refine ⟨.inr ⟨rd_same (Same.trans s01 s12) hR, fun q => ?_, fun q => ?_⟩, fun g hg => .inr (ne_of_none e2 hg)⟩
        · simp only [List.mem_cons, List.not_mem_nil, or_false] at q
          rcases q with q | q | q | q
          · rw [q, hp] at e
            cases e
          · rw [q, z1] at e
            cases e
          · rw [q, z2] at e
            cases e
          · rw [q, z3] at e
            cases e
        · rw [q, zr] at e
          cases e
      · exact ⟨.inl fun H' => .inr hK, fun g _ => .inl fun H' => .inr hK⟩
    have B2 : Both K A (fun _ => none) H2 p r dx a [p, u, kl, bl] Sched.start l 0 := ⟨LA.same s12, SM.wf_start, hr2, rF, rfl, sa.1, hl⟩
    walk_at "rd"
    intro g hg
    refine hN.go (seq_step fun N hN => ?_)
    have gF : g ∉ [p, u, kl, bl] := fun q => by
      obtain ⟨o, e⟩ := B2.L.there q
      rw [hg] at e
      cases e
    have hag := sa.2 g hg
    have B3 := B2.put (o := .lst []) gF rfl (ne_of_none hr2 hg).symm hag
    have hg3 : upd H2 g (.lst []) g = some (.lst []) := upd_same
    generalize upd H2 g (.lst []) = H3 at B3 hg3 ⊢
    refine ⟨fun m σ H' => ∃ x4 I F s k out, σ = [some (V.ref a), some (V.ref p), some (V.ref r), some (V.ref g), x4] ∧ m = l.length - k ∧ Both K A I H' p r dx a F s l k ∧ H' g = some (.lst (out.map V.int)) ∧ g ∉ F ∧ I g = none ∧ SM.Rest l k s out, ⟨_, none, _, _, _, 0, [], rfl, rfl, B3, hg3, gF, rfl, SM.rest_start ask⟩, ?_⟩
    clear B3 hg3 gF B2 sa LA h1 h2 h3 h4 hr2 s12 s01 kp
    rintro m σ H4 ⟨x4, I, F, st, k0, out, rfl, rfl, B4, hg4, gF, gI, rs⟩
    have hrd := B4.rd
    unfold sp_Reader_has_more
    walk_at "rdh"
    refine ⟨a, k0, rfl, l, B4.sa.sq, ?_⟩
    by_cases c : k0 < l.length
    · rw [if_pos c]
      refine ⟨_, fun σ' H' h => h, ?_⟩
      obtain ⟨cl, t, k1, rd, et, lt, rs1⟩ := SM.rest_turn rs c
      refine ⟨p, r, rfl, I, dx, a, F, st, l, k0, cl, t, B4, rd, fun H5 T L k2 e2 l2 af hT hL => ?_⟩
      have ek : k2 = k1 := by
        have q := congrArg List.length (e2.trans et)
        rw [List.length_drop, List.length_drop] at q
        have := rs1.le
        omega
      subst ek
      obtain ⟨I5, F5, B5, i5, f5⟩ := af.ex
      have gr : g ≠ r := ne_of hg4 B4.rd (by intro z; cases z)
      have hg5 : H5 g = some (.lst (out.map V.int)) := af.keep _ _ hg4 (fun q => by
        rcases List.mem_cons.mp q with q | q
        · exact gr q
        · exact gF q)
      have gF5 : g ∉ F5 := fun q => by
        rcases f5 g q with z | z
        · exact gF z
        · rw [hg4] at z
          cases z
      have gI5 := i5 g gI (by rw [hg4]; rfl)
      have al := SM.ans_len B4.wf cl
      have ai := ans_is st cl
      have al2 : (Sched.step st cl).2.nums.length ≤ 1000 := by
        rw [ai] at al
        simp only [List.length_cons] at al
        omega
      have ol := SM.rest_len rs
      refine ⟨.inl ⟨rfl, _, SqL.of hg5⟩, ?_⟩
      refine ⟨T, _, _, _, rfl, rfl, SqT.of hT, atI_nat (j := 0) rfl, T, _, _, _, rfl, rfl, SqT.of hT, atI_nat (j := 1) rfl, ?_⟩
      refine ⟨_, L, _, rfl, hL, al2, fun H6 W s6 hW hW6 => ⟨W, rfl, _, s6 _ _ hg5, _, hW6, ?_, ?_⟩⟩
      · rw [List.length_map, List.length_map]
        simp only [List.length_cons]
        omega
      · rw [← ai, ← List.map_append]
        refine ⟨l.length - k2, (by omega), ⟨_, rfl⟩, I5, F5, _, k2, rfl, (B5.same s6).put gF5 gI5 gr hag, _, upd_same, gF5, gI5, rs1⟩
    · rw [if_neg c]
      refine hN.go ?_
      walk_at "rd"
      refine k H4 g ?_
      rw [SM.rest_end rs (by omega)]
      exact hg4
end

theorem txt_mk {K : PySem.W.Frag} {h : Heap} {mg : Str → Option Value} (X : K.In h) (G : h.Ns mainGlobals mg) {C_Kind C_Instruction C_Line C_Reader f_is_within f_are_registers f_is_memory_use f_name_one_in_common f_may_meet_in_memory f_bits_between f_needed_cycles f_waits_of f_waits_in f_have_all_begun f_is_accepted f_after_waits f_after_width f_after_units f_earliest_begin f_begins_in_order f_cycles_taken f_with_one_more f_best_begins f_answer_width f_answer_units f_answer_kind f_answer_add f_answer_dep f_answer_number f_answer_call f_written_answer f_answers f_Kind_init f_Instruction_init f_Line_init f_Line_begin f_Line_set_width f_Line_set_units f_Line_add_kind f_Line_add f_Line_clear f_Line_dep f_Line_bound f_Line_time f_Line_best f_Reader_init f_Reader_has_more f_Reader_number f_Reader_row : Addr}
    {t_CALL_INIT t_CALL_WIDTH t_CALL_UNITS t_CALL_KIND t_CALL_ADD t_CALL_CLEAR t_CALL_DEP t_CALL_BOUND t_CALL_TIME t_CALL_BEST t_MOST_WIDTH t_CLASSES t_MOST_UNITS t_MOST_KINDS t_MOST_BUSY t_MOST_LATENCY t_MOST_INSTRUCTIONS t_MOST_READS t_MOST_WRITES t_REGISTERS t_MEM_NONE t_MEM_WRITES t_PLACES t_ANY_PLACE t_BIT_READS_RESULT t_BIT_WRITES_WHAT_IS_READ t_BIT_BOTH_WRITE t_BIT_MEMORY t_DONE t_REFUSED t_NOT_ACCEPTED : Tok}
    {od_is_within an_is_within od_are_registers an_are_registers od_is_memory_use an_is_memory_use od_name_one_in_common an_name_one_in_common od_may_meet_in_memory an_may_meet_in_memory od_bits_between an_bits_between od_needed_cycles an_needed_cycles od_waits_of an_waits_of od_waits_in an_waits_in od_have_all_begun an_have_all_begun od_is_accepted an_is_accepted od_after_waits an_after_waits od_after_width an_after_width od_after_units an_after_units od_earliest_begin an_earliest_begin od_begins_in_order an_begins_in_order od_cycles_taken an_cycles_taken od_with_one_more an_with_one_more od_best_begins an_best_begins od_answer_width an_answer_width od_answer_units an_answer_units od_answer_kind an_answer_kind od_answer_add an_answer_add od_answer_dep an_answer_dep od_answer_number an_answer_number od_answer_call an_answer_call od_written_answer an_written_answer od_answers an_answers od_Kind_init an_Kind_init od_Instruction_init an_Instruction_init od_Line_init an_Line_init od_Line_begin an_Line_begin od_Line_set_width an_Line_set_width od_Line_set_units an_Line_set_units od_Line_add_kind an_Line_add_kind od_Line_add an_Line_add od_Line_clear an_Line_clear od_Line_dep an_Line_dep od_Line_bound an_Line_bound od_Line_time an_Line_time od_Line_best an_Line_best od_Reader_init an_Reader_init od_Reader_has_more an_Reader_has_more od_Reader_number an_Reader_number od_Reader_row an_Reader_row : Option Addr} {sl_is_within sl_are_registers sl_is_memory_use sl_name_one_in_common sl_may_meet_in_memory sl_bits_between sl_needed_cycles sl_waits_of sl_waits_in sl_have_all_begun sl_is_accepted sl_after_waits sl_after_width sl_after_units sl_earliest_begin sl_begins_in_order sl_cycles_taken sl_with_one_more sl_best_begins sl_answer_width sl_answer_units sl_answer_kind sl_answer_add sl_answer_dep sl_answer_number sl_answer_call sl_written_answer sl_answers sl_Kind_init sl_Instruction_init sl_Line_init sl_Line_begin sl_Line_set_width sl_Line_set_units sl_Line_add_kind sl_Line_add sl_Line_clear sl_Line_dep sl_Line_bound sl_Line_time sl_Line_best sl_Reader_init sl_Reader_has_more sl_Reader_number sl_Reader_row : Array (Option Value)}
    {oc_is_within kV_is_within dc_is_within pm_is_within cd_is_within ct_is_within oc_are_registers kV_are_registers dc_are_registers pm_are_registers cd_are_registers ct_are_registers oc_is_memory_use kV_is_memory_use dc_is_memory_use pm_is_memory_use cd_is_memory_use ct_is_memory_use oc_name_one_in_common kV_name_one_in_common dc_name_one_in_common pm_name_one_in_common cd_name_one_in_common ct_name_one_in_common oc_may_meet_in_memory kV_may_meet_in_memory dc_may_meet_in_memory pm_may_meet_in_memory cd_may_meet_in_memory ct_may_meet_in_memory oc_bits_between kV_bits_between dc_bits_between pm_bits_between cd_bits_between ct_bits_between oc_needed_cycles kV_needed_cycles dc_needed_cycles pm_needed_cycles cd_needed_cycles ct_needed_cycles oc_waits_of kV_waits_of dc_waits_of pm_waits_of cd_waits_of ct_waits_of oc_waits_in kV_waits_in dc_waits_in pm_waits_in cd_waits_in ct_waits_in oc_have_all_begun kV_have_all_begun dc_have_all_begun pm_have_all_begun cd_have_all_begun ct_have_all_begun oc_is_accepted kV_is_accepted dc_is_accepted pm_is_accepted cd_is_accepted ct_is_accepted oc_after_waits kV_after_waits dc_after_waits pm_after_waits cd_after_waits ct_after_waits oc_after_width kV_after_width dc_after_width pm_after_width cd_after_width ct_after_width oc_after_units kV_after_units dc_after_units pm_after_units cd_after_units ct_after_units oc_earliest_begin kV_earliest_begin dc_earliest_begin pm_earliest_begin cd_earliest_begin ct_earliest_begin oc_begins_in_order kV_begins_in_order dc_begins_in_order pm_begins_in_order cd_begins_in_order ct_begins_in_order oc_cycles_taken kV_cycles_taken dc_cycles_taken pm_cycles_taken cd_cycles_taken ct_cycles_taken oc_with_one_more kV_with_one_more dc_with_one_more pm_with_one_more cd_with_one_more ct_with_one_more oc_best_begins kV_best_begins dc_best_begins pm_best_begins cd_best_begins ct_best_begins oc_answer_width kV_answer_width dc_answer_width pm_answer_width cd_answer_width ct_answer_width oc_answer_units kV_answer_units dc_answer_units pm_answer_units cd_answer_units ct_answer_units oc_answer_kind kV_answer_kind dc_answer_kind pm_answer_kind cd_answer_kind ct_answer_kind oc_answer_add kV_answer_add dc_answer_add pm_answer_add cd_answer_add ct_answer_add oc_answer_dep kV_answer_dep dc_answer_dep pm_answer_dep cd_answer_dep ct_answer_dep oc_answer_number kV_answer_number dc_answer_number pm_answer_number cd_answer_number ct_answer_number oc_answer_call kV_answer_call dc_answer_call pm_answer_call cd_answer_call ct_answer_call oc_written_answer kV_written_answer dc_written_answer pm_written_answer cd_written_answer ct_written_answer oc_answers kV_answers dc_answers pm_answers cd_answers ct_answers oc_Kind_init kV_Kind_init dc_Kind_init pm_Kind_init cd_Kind_init ct_Kind_init oc_Instruction_init kV_Instruction_init dc_Instruction_init pm_Instruction_init cd_Instruction_init ct_Instruction_init oc_Line_init kV_Line_init dc_Line_init pm_Line_init cd_Line_init ct_Line_init oc_Line_begin kV_Line_begin dc_Line_begin pm_Line_begin cd_Line_begin ct_Line_begin oc_Line_set_width kV_Line_set_width dc_Line_set_width pm_Line_set_width cd_Line_set_width ct_Line_set_width oc_Line_set_units kV_Line_set_units dc_Line_set_units pm_Line_set_units cd_Line_set_units ct_Line_set_units oc_Line_add_kind kV_Line_add_kind dc_Line_add_kind pm_Line_add_kind cd_Line_add_kind ct_Line_add_kind oc_Line_add kV_Line_add dc_Line_add pm_Line_add cd_Line_add ct_Line_add oc_Line_clear kV_Line_clear dc_Line_clear pm_Line_clear cd_Line_clear ct_Line_clear oc_Line_dep kV_Line_dep dc_Line_dep pm_Line_dep cd_Line_dep ct_Line_dep oc_Line_bound kV_Line_bound dc_Line_bound pm_Line_bound cd_Line_bound ct_Line_bound oc_Line_time kV_Line_time dc_Line_time pm_Line_time cd_Line_time ct_Line_time oc_Line_best kV_Line_best dc_Line_best pm_Line_best cd_Line_best ct_Line_best oc_Reader_init kV_Reader_init dc_Reader_init pm_Reader_init cd_Reader_init ct_Reader_init oc_Reader_has_more kV_Reader_has_more dc_Reader_has_more pm_Reader_has_more cd_Reader_has_more ct_Reader_has_more oc_Reader_number kV_Reader_number dc_Reader_number pm_Reader_number cd_Reader_number ct_Reader_number oc_Reader_row kV_Reader_row dc_Reader_row pm_Reader_row cd_Reader_row ct_Reader_row : Value}
    (e_CALL_INIT : PySem.W.nsIn K mainGlobals "CALL_INIT" = some (some (.int (0) t_CALL_INIT)))
    (e_CALL_WIDTH : PySem.W.nsIn K mainGlobals "CALL_WIDTH" = some (some (.int (1) t_CALL_WIDTH)))
    (e_CALL_UNITS : PySem.W.nsIn K mainGlobals "CALL_UNITS" = some (some (.int (2) t_CALL_UNITS)))
    (e_CALL_KIND : PySem.W.nsIn K mainGlobals "CALL_KIND" = some (some (.int (3) t_CALL_KIND)))
    (e_CALL_ADD : PySem.W.nsIn K mainGlobals "CALL_ADD" = some (some (.int (4) t_CALL_ADD)))
    (e_CALL_CLEAR : PySem.W.nsIn K mainGlobals "CALL_CLEAR" = some (some (.int (5) t_CALL_CLEAR)))
    (e_CALL_DEP : PySem.W.nsIn K mainGlobals "CALL_DEP" = some (some (.int (6) t_CALL_DEP)))
    (e_CALL_BOUND : PySem.W.nsIn K mainGlobals "CALL_BOUND" = some (some (.int (7) t_CALL_BOUND)))
    (e_CALL_TIME : PySem.W.nsIn K mainGlobals "CALL_TIME" = some (some (.int (8) t_CALL_TIME)))
    (e_CALL_BEST : PySem.W.nsIn K mainGlobals "CALL_BEST" = some (some (.int (9) t_CALL_BEST)))
    (e_MOST_WIDTH : PySem.W.nsIn K mainGlobals "MOST_WIDTH" = some (some (.int (4) t_MOST_WIDTH)))
    (e_CLASSES : PySem.W.nsIn K mainGlobals "CLASSES" = some (some (.int (8) t_CLASSES)))
    (e_MOST_UNITS : PySem.W.nsIn K mainGlobals "MOST_UNITS" = some (some (.int (4) t_MOST_UNITS)))
    (e_MOST_KINDS : PySem.W.nsIn K mainGlobals "MOST_KINDS" = some (some (.int (16) t_MOST_KINDS)))
    (e_MOST_BUSY : PySem.W.nsIn K mainGlobals "MOST_BUSY" = some (some (.int (16) t_MOST_BUSY)))
    (e_MOST_LATENCY : PySem.W.nsIn K mainGlobals "MOST_LATENCY" = some (some (.int (32) t_MOST_LATENCY)))
    (e_MOST_INSTRUCTIONS : PySem.W.nsIn K mainGlobals "MOST_INSTRUCTIONS" = some (some (.int (6) t_MOST_INSTRUCTIONS)))
    (e_MOST_READS : PySem.W.nsIn K mainGlobals "MOST_READS" = some (some (.int (4) t_MOST_READS)))
    (e_MOST_WRITES : PySem.W.nsIn K mainGlobals "MOST_WRITES" = some (some (.int (2) t_MOST_WRITES)))
    (e_REGISTERS : PySem.W.nsIn K mainGlobals "REGISTERS" = some (some (.int (32) t_REGISTERS)))
    (e_MEM_NONE : PySem.W.nsIn K mainGlobals "MEM_NONE" = some (some (.int (0) t_MEM_NONE)))
    (e_MEM_WRITES : PySem.W.nsIn K mainGlobals "MEM_WRITES" = some (some (.int (2) t_MEM_WRITES)))
    (e_PLACES : PySem.W.nsIn K mainGlobals "PLACES" = some (some (.int (16) t_PLACES)))
    (e_ANY_PLACE : PySem.W.nsIn K mainGlobals "ANY_PLACE" = some (some (.int (255) t_ANY_PLACE)))
    (e_BIT_READS_RESULT : PySem.W.nsIn K mainGlobals "BIT_READS_RESULT" = some (some (.int (1) t_BIT_READS_RESULT)))
    (e_BIT_WRITES_WHAT_IS_READ : PySem.W.nsIn K mainGlobals "BIT_WRITES_WHAT_IS_READ" = some (some (.int (2) t_BIT_WRITES_WHAT_IS_READ)))
    (e_BIT_BOTH_WRITE : PySem.W.nsIn K mainGlobals "BIT_BOTH_WRITE" = some (some (.int (4) t_BIT_BOTH_WRITE)))
    (e_BIT_MEMORY : PySem.W.nsIn K mainGlobals "BIT_MEMORY" = some (some (.int (8) t_BIT_MEMORY)))
    (e_DONE : PySem.W.nsIn K mainGlobals "DONE" = some (some (.int (0) t_DONE)))
    (e_REFUSED : PySem.W.nsIn K mainGlobals "REFUSED" = some (some (.int (-1) t_REFUSED)))
    (e_NOT_ACCEPTED : PySem.W.nsIn K mainGlobals "NOT_ACCEPTED" = some (some (.int (-2) t_NOT_ACCEPTED)))
    (e_all : PySem.W.nsIn K mainGlobals "all" = some none)
    (e_any : PySem.W.nsIn K mainGlobals "any" = some none)
    (e_dict : PySem.W.nsIn K mainGlobals "dict" = some none)
    (e_len : PySem.W.nsIn K mainGlobals "len" = some none)
    (e_list : PySem.W.nsIn K mainGlobals "list" = some none)
    (e_max : PySem.W.nsIn K mainGlobals "max" = some none)
    (e_range : PySem.W.nsIn K mainGlobals "range" = some none)
    (e_reversed : PySem.W.nsIn K mainGlobals "reversed" = some none)
    (e_sorted : PySem.W.nsIn K mainGlobals "sorted" = some none)
    (e_Kind : PySem.W.nsIn K mainGlobals "Kind" = some (some (.ref C_Kind)))
    (e_Instruction : PySem.W.nsIn K mainGlobals "Instruction" = some (some (.ref C_Instruction)))
    (e_Line : PySem.W.nsIn K mainGlobals "Line" = some (some (.ref C_Line)))
    (e_Reader : PySem.W.nsIn K mainGlobals "Reader" = some (some (.ref C_Reader)))
    (a_is_within : PySem.W.nsIn K mainGlobals "is_within" = some (some (.ref f_is_within)))
    (l_is_within : K.lookup f_is_within = some ⟨oc_is_within, od_is_within, .func (PySem.W.fnOf "is_within" "is_within" (defArgs s_is_within) (defBody s_is_within) (defScope s_is_within) .none kV_is_within dc_is_within pm_is_within an_is_within cd_is_within ct_is_within), sl_is_within⟩)
    (q_is_within : PySem.W.codeIn K cd_is_within "is_within" = true)
    (k_is_within : PySem.W.keepIn K (.ref f_is_within) = true)
    (a_are_registers : PySem.W.nsIn K mainGlobals "are_registers" = some (some (.ref f_are_registers)))
    (l_are_registers : K.lookup f_are_registers = some ⟨oc_are_registers, od_are_registers, .func (PySem.W.fnOf "are_registers" "are_registers" (defArgs s_are_registers) (defBody s_are_registers) (defScope s_are_registers) .none kV_are_registers dc_are_registers pm_are_registers an_are_registers cd_are_registers ct_are_registers), sl_are_registers⟩)
    (q_are_registers : PySem.W.codeIn K cd_are_registers "are_registers" = true)
    (k_are_registers : PySem.W.keepIn K (.ref f_are_registers) = true)
    (a_is_memory_use : PySem.W.nsIn K mainGlobals "is_memory_use" = some (some (.ref f_is_memory_use)))
    (l_is_memory_use : K.lookup f_is_memory_use = some ⟨oc_is_memory_use, od_is_memory_use, .func (PySem.W.fnOf "is_memory_use" "is_memory_use" (defArgs s_is_memory_use) (defBody s_is_memory_use) (defScope s_is_memory_use) .none kV_is_memory_use dc_is_memory_use pm_is_memory_use an_is_memory_use cd_is_memory_use ct_is_memory_use), sl_is_memory_use⟩)
    (q_is_memory_use : PySem.W.codeIn K cd_is_memory_use "is_memory_use" = true)
    (k_is_memory_use : PySem.W.keepIn K (.ref f_is_memory_use) = true)
    (a_name_one_in_common : PySem.W.nsIn K mainGlobals "name_one_in_common" = some (some (.ref f_name_one_in_common)))
    (l_name_one_in_common : K.lookup f_name_one_in_common = some ⟨oc_name_one_in_common, od_name_one_in_common, .func (PySem.W.fnOf "name_one_in_common" "name_one_in_common" (defArgs s_name_one_in_common) (defBody s_name_one_in_common) (defScope s_name_one_in_common) .none kV_name_one_in_common dc_name_one_in_common pm_name_one_in_common an_name_one_in_common cd_name_one_in_common ct_name_one_in_common), sl_name_one_in_common⟩)
    (q_name_one_in_common : PySem.W.codeIn K cd_name_one_in_common "name_one_in_common" = true)
    (k_name_one_in_common : PySem.W.keepIn K (.ref f_name_one_in_common) = true)
    (a_may_meet_in_memory : PySem.W.nsIn K mainGlobals "may_meet_in_memory" = some (some (.ref f_may_meet_in_memory)))
    (l_may_meet_in_memory : K.lookup f_may_meet_in_memory = some ⟨oc_may_meet_in_memory, od_may_meet_in_memory, .func (PySem.W.fnOf "may_meet_in_memory" "may_meet_in_memory" (defArgs s_may_meet_in_memory) (defBody s_may_meet_in_memory) (defScope s_may_meet_in_memory) .none kV_may_meet_in_memory dc_may_meet_in_memory pm_may_meet_in_memory an_may_meet_in_memory cd_may_meet_in_memory ct_may_meet_in_memory), sl_may_meet_in_memory⟩)
    (q_may_meet_in_memory : PySem.W.codeIn K cd_may_meet_in_memory "may_meet_in_memory" = true)
    (k_may_meet_in_memory : PySem.W.keepIn K (.ref f_may_meet_in_memory) = true)
    (a_bits_between : PySem.W.nsIn K mainGlobals "bits_between" = some (some (.ref f_bits_between)))
    (l_bits_between : K.lookup f_bits_between = some ⟨oc_bits_between, od_bits_between, .func (PySem.W.fnOf "bits_between" "bits_between" (defArgs s_bits_between) (defBody s_bits_between) (defScope s_bits_between) .none kV_bits_between dc_bits_between pm_bits_between an_bits_between cd_bits_between ct_bits_between), sl_bits_between⟩)
    (q_bits_between : PySem.W.codeIn K cd_bits_between "bits_between" = true)
    (k_bits_between : PySem.W.keepIn K (.ref f_bits_between) = true)
    (a_needed_cycles : PySem.W.nsIn K mainGlobals "needed_cycles" = some (some (.ref f_needed_cycles)))
    (l_needed_cycles : K.lookup f_needed_cycles = some ⟨oc_needed_cycles, od_needed_cycles, .func (PySem.W.fnOf "needed_cycles" "needed_cycles" (defArgs s_needed_cycles) (defBody s_needed_cycles) (defScope s_needed_cycles) .none kV_needed_cycles dc_needed_cycles pm_needed_cycles an_needed_cycles cd_needed_cycles ct_needed_cycles), sl_needed_cycles⟩)
    (q_needed_cycles : PySem.W.codeIn K cd_needed_cycles "needed_cycles" = true)
    (k_needed_cycles : PySem.W.keepIn K (.ref f_needed_cycles) = true)
    (a_waits_of : PySem.W.nsIn K mainGlobals "waits_of" = some (some (.ref f_waits_of)))
    (l_waits_of : K.lookup f_waits_of = some ⟨oc_waits_of, od_waits_of, .func (PySem.W.fnOf "waits_of" "waits_of" (defArgs s_waits_of) (defBody s_waits_of) (defScope s_waits_of) .none kV_waits_of dc_waits_of pm_waits_of an_waits_of cd_waits_of ct_waits_of), sl_waits_of⟩)
    (q_waits_of : PySem.W.codeIn K cd_waits_of "waits_of" = true)
    (k_waits_of : PySem.W.keepIn K (.ref f_waits_of) = true)
    (a_waits_in : PySem.W.nsIn K mainGlobals "waits_in" = some (some (.ref f_waits_in)))
    (l_waits_in : K.lookup f_waits_in = some ⟨oc_waits_in, od_waits_in, .func (PySem.W.fnOf "waits_in" "waits_in" (defArgs s_waits_in) (defBody s_waits_in) (defScope s_waits_in) .none kV_waits_in dc_waits_in pm_waits_in an_waits_in cd_waits_in ct_waits_in), sl_waits_in⟩)
    (q_waits_in : PySem.W.codeIn K cd_waits_in "waits_in" = true)
    (k_waits_in : PySem.W.keepIn K (.ref f_waits_in) = true)
    (a_have_all_begun : PySem.W.nsIn K mainGlobals "have_all_begun" = some (some (.ref f_have_all_begun)))
    (l_have_all_begun : K.lookup f_have_all_begun = some ⟨oc_have_all_begun, od_have_all_begun, .func (PySem.W.fnOf "have_all_begun" "have_all_begun" (defArgs s_have_all_begun) (defBody s_have_all_begun) (defScope s_have_all_begun) .none kV_have_all_begun dc_have_all_begun pm_have_all_begun an_have_all_begun cd_have_all_begun ct_have_all_begun), sl_have_all_begun⟩)
    (q_have_all_begun : PySem.W.codeIn K cd_have_all_begun "have_all_begun" = true)
    (k_have_all_begun : PySem.W.keepIn K (.ref f_have_all_begun) = true)
    (a_is_accepted : PySem.W.nsIn K mainGlobals "is_accepted" = some (some (.ref f_is_accepted)))
    (l_is_accepted : K.lookup f_is_accepted = some ⟨oc_is_accepted, od_is_accepted, .func (PySem.W.fnOf "is_accepted" "is_accepted" (defArgs s_is_accepted) (defBody s_is_accepted) (defScope s_is_accepted) .none kV_is_accepted dc_is_accepted pm_is_accepted an_is_accepted cd_is_accepted ct_is_accepted), sl_is_accepted⟩)
    (q_is_accepted : PySem.W.codeIn K cd_is_accepted "is_accepted" = true)
    (k_is_accepted : PySem.W.keepIn K (.ref f_is_accepted) = true)
    (a_after_waits : PySem.W.nsIn K mainGlobals "after_waits" = some (some (.ref f_after_waits)))
    (l_after_waits : K.lookup f_after_waits = some ⟨oc_after_waits, od_after_waits, .func (PySem.W.fnOf "after_waits" "after_waits" (defArgs s_after_waits) (defBody s_after_waits) (defScope s_after_waits) .none kV_after_waits dc_after_waits pm_after_waits an_after_waits cd_after_waits ct_after_waits), sl_after_waits⟩)
    (q_after_waits : PySem.W.codeIn K cd_after_waits "after_waits" = true)
    (k_after_waits : PySem.W.keepIn K (.ref f_after_waits) = true)
    (a_after_width : PySem.W.nsIn K mainGlobals "after_width" = some (some (.ref f_after_width)))
    (l_after_width : K.lookup f_after_width = some ⟨oc_after_width, od_after_width, .func (PySem.W.fnOf "after_width" "after_width" (defArgs s_after_width) (defBody s_after_width) (defScope s_after_width) .none kV_after_width dc_after_width pm_after_width an_after_width cd_after_width ct_after_width), sl_after_width⟩)
    (q_after_width : PySem.W.codeIn K cd_after_width "after_width" = true)
    (k_after_width : PySem.W.keepIn K (.ref f_after_width) = true)
    (a_after_units : PySem.W.nsIn K mainGlobals "after_units" = some (some (.ref f_after_units)))
    (l_after_units : K.lookup f_after_units = some ⟨oc_after_units, od_after_units, .func (PySem.W.fnOf "after_units" "after_units" (defArgs s_after_units) (defBody s_after_units) (defScope s_after_units) .none kV_after_units dc_after_units pm_after_units an_after_units cd_after_units ct_after_units), sl_after_units⟩)
    (q_after_units : PySem.W.codeIn K cd_after_units "after_units" = true)
    (k_after_units : PySem.W.keepIn K (.ref f_after_units) = true)
    (a_earliest_begin : PySem.W.nsIn K mainGlobals "earliest_begin" = some (some (.ref f_earliest_begin)))
    (l_earliest_begin : K.lookup f_earliest_begin = some ⟨oc_earliest_begin, od_earliest_begin, .func (PySem.W.fnOf "earliest_begin" "earliest_begin" (defArgs s_earliest_begin) (defBody s_earliest_begin) (defScope s_earliest_begin) .none kV_earliest_begin dc_earliest_begin pm_earliest_begin an_earliest_begin cd_earliest_begin ct_earliest_begin), sl_earliest_begin⟩)
    (q_earliest_begin : PySem.W.codeIn K cd_earliest_begin "earliest_begin" = true)
    (k_earliest_begin : PySem.W.keepIn K (.ref f_earliest_begin) = true)
    (a_begins_in_order : PySem.W.nsIn K mainGlobals "begins_in_order" = some (some (.ref f_begins_in_order)))
    (l_begins_in_order : K.lookup f_begins_in_order = some ⟨oc_begins_in_order, od_begins_in_order, .func (PySem.W.fnOf "begins_in_order" "begins_in_order" (defArgs s_begins_in_order) (defBody s_begins_in_order) (defScope s_begins_in_order) .none kV_begins_in_order dc_begins_in_order pm_begins_in_order an_begins_in_order cd_begins_in_order ct_begins_in_order), sl_begins_in_order⟩)
    (q_begins_in_order : PySem.W.codeIn K cd_begins_in_order "begins_in_order" = true)
    (k_begins_in_order : PySem.W.keepIn K (.ref f_begins_in_order) = true)
    (a_cycles_taken : PySem.W.nsIn K mainGlobals "cycles_taken" = some (some (.ref f_cycles_taken)))
    (l_cycles_taken : K.lookup f_cycles_taken = some ⟨oc_cycles_taken, od_cycles_taken, .func (PySem.W.fnOf "cycles_taken" "cycles_taken" (defArgs s_cycles_taken) (defBody s_cycles_taken) (defScope s_cycles_taken) .none kV_cycles_taken dc_cycles_taken pm_cycles_taken an_cycles_taken cd_cycles_taken ct_cycles_taken), sl_cycles_taken⟩)
    (q_cycles_taken : PySem.W.codeIn K cd_cycles_taken "cycles_taken" = true)
    (k_cycles_taken : PySem.W.keepIn K (.ref f_cycles_taken) = true)
    (a_with_one_more : PySem.W.nsIn K mainGlobals "with_one_more" = some (some (.ref f_with_one_more)))
    (l_with_one_more : K.lookup f_with_one_more = some ⟨oc_with_one_more, od_with_one_more, .func (PySem.W.fnOf "with_one_more" "with_one_more" (defArgs s_with_one_more) (defBody s_with_one_more) (defScope s_with_one_more) .none kV_with_one_more dc_with_one_more pm_with_one_more an_with_one_more cd_with_one_more ct_with_one_more), sl_with_one_more⟩)
    (q_with_one_more : PySem.W.codeIn K cd_with_one_more "with_one_more" = true)
    (k_with_one_more : PySem.W.keepIn K (.ref f_with_one_more) = true)
    (a_best_begins : PySem.W.nsIn K mainGlobals "best_begins" = some (some (.ref f_best_begins)))
    (l_best_begins : K.lookup f_best_begins = some ⟨oc_best_begins, od_best_begins, .func (PySem.W.fnOf "best_begins" "best_begins" (defArgs s_best_begins) (defBody s_best_begins) (defScope s_best_begins) .none kV_best_begins dc_best_begins pm_best_begins an_best_begins cd_best_begins ct_best_begins), sl_best_begins⟩)
    (q_best_begins : PySem.W.codeIn K cd_best_begins "best_begins" = true)
    (k_best_begins : PySem.W.keepIn K (.ref f_best_begins) = true)
    (a_answer_width : PySem.W.nsIn K mainGlobals "answer_width" = some (some (.ref f_answer_width)))
    (l_answer_width : K.lookup f_answer_width = some ⟨oc_answer_width, od_answer_width, .func (PySem.W.fnOf "answer_width" "answer_width" (defArgs s_answer_width) (defBody s_answer_width) (defScope s_answer_width) .none kV_answer_width dc_answer_width pm_answer_width an_answer_width cd_answer_width ct_answer_width), sl_answer_width⟩)
    (q_answer_width : PySem.W.codeIn K cd_answer_width "answer_width" = true)
    (k_answer_width : PySem.W.keepIn K (.ref f_answer_width) = true)
    (a_answer_units : PySem.W.nsIn K mainGlobals "answer_units" = some (some (.ref f_answer_units)))
    (l_answer_units : K.lookup f_answer_units = some ⟨oc_answer_units, od_answer_units, .func (PySem.W.fnOf "answer_units" "answer_units" (defArgs s_answer_units) (defBody s_answer_units) (defScope s_answer_units) .none kV_answer_units dc_answer_units pm_answer_units an_answer_units cd_answer_units ct_answer_units), sl_answer_units⟩)
    (q_answer_units : PySem.W.codeIn K cd_answer_units "answer_units" = true)
    (k_answer_units : PySem.W.keepIn K (.ref f_answer_units) = true)
    (a_answer_kind : PySem.W.nsIn K mainGlobals "answer_kind" = some (some (.ref f_answer_kind)))
    (l_answer_kind : K.lookup f_answer_kind = some ⟨oc_answer_kind, od_answer_kind, .func (PySem.W.fnOf "answer_kind" "answer_kind" (defArgs s_answer_kind) (defBody s_answer_kind) (defScope s_answer_kind) .none kV_answer_kind dc_answer_kind pm_answer_kind an_answer_kind cd_answer_kind ct_answer_kind), sl_answer_kind⟩)
    (q_answer_kind : PySem.W.codeIn K cd_answer_kind "answer_kind" = true)
    (k_answer_kind : PySem.W.keepIn K (.ref f_answer_kind) = true)
    (a_answer_add : PySem.W.nsIn K mainGlobals "answer_add" = some (some (.ref f_answer_add)))
    (l_answer_add : K.lookup f_answer_add = some ⟨oc_answer_add, od_answer_add, .func (PySem.W.fnOf "answer_add" "answer_add" (defArgs s_answer_add) (defBody s_answer_add) (defScope s_answer_add) .none kV_answer_add dc_answer_add pm_answer_add an_answer_add cd_answer_add ct_answer_add), sl_answer_add⟩)
    (q_answer_add : PySem.W.codeIn K cd_answer_add "answer_add" = true)
    (k_answer_add : PySem.W.keepIn K (.ref f_answer_add) = true)
    (a_answer_dep : PySem.W.nsIn K mainGlobals "answer_dep" = some (some (.ref f_answer_dep)))
    (l_answer_dep : K.lookup f_answer_dep = some ⟨oc_answer_dep, od_answer_dep, .func (PySem.W.fnOf "answer_dep" "answer_dep" (defArgs s_answer_dep) (defBody s_answer_dep) (defScope s_answer_dep) .none kV_answer_dep dc_answer_dep pm_answer_dep an_answer_dep cd_answer_dep ct_answer_dep), sl_answer_dep⟩)
    (q_answer_dep : PySem.W.codeIn K cd_answer_dep "answer_dep" = true)
    (k_answer_dep : PySem.W.keepIn K (.ref f_answer_dep) = true)
    (a_answer_number : PySem.W.nsIn K mainGlobals "answer_number" = some (some (.ref f_answer_number)))
    (l_answer_number : K.lookup f_answer_number = some ⟨oc_answer_number, od_answer_number, .func (PySem.W.fnOf "answer_number" "answer_number" (defArgs s_answer_number) (defBody s_answer_number) (defScope s_answer_number) .none kV_answer_number dc_answer_number pm_answer_number an_answer_number cd_answer_number ct_answer_number), sl_answer_number⟩)
    (q_answer_number : PySem.W.codeIn K cd_answer_number "answer_number" = true)
    (k_answer_number : PySem.W.keepIn K (.ref f_answer_number) = true)
    (a_answer_call : PySem.W.nsIn K mainGlobals "answer_call" = some (some (.ref f_answer_call)))
    (l_answer_call : K.lookup f_answer_call = some ⟨oc_answer_call, od_answer_call, .func (PySem.W.fnOf "answer_call" "answer_call" (defArgs s_answer_call) (defBody s_answer_call) (defScope s_answer_call) .none kV_answer_call dc_answer_call pm_answer_call an_answer_call cd_answer_call ct_answer_call), sl_answer_call⟩)
    (q_answer_call : PySem.W.codeIn K cd_answer_call "answer_call" = true)
    (k_answer_call : PySem.W.keepIn K (.ref f_answer_call) = true)
    (a_written_answer : PySem.W.nsIn K mainGlobals "written_answer" = some (some (.ref f_written_answer)))
    (l_written_answer : K.lookup f_written_answer = some ⟨oc_written_answer, od_written_answer, .func (PySem.W.fnOf "written_answer" "written_answer" (defArgs s_written_answer) (defBody s_written_answer) (defScope s_written_answer) .none kV_written_answer dc_written_answer pm_written_answer an_written_answer cd_written_answer ct_written_answer), sl_written_answer⟩)
    (q_written_answer : PySem.W.codeIn K cd_written_answer "written_answer" = true)
    (k_written_answer : PySem.W.keepIn K (.ref f_written_answer) = true)
    (a_answers : PySem.W.nsIn K mainGlobals "answers" = some (some (.ref f_answers)))
    (l_answers : K.lookup f_answers = some ⟨oc_answers, od_answers, .func (PySem.W.fnOf "answers" "answers" (defArgs s_answers) (defBody s_answers) (defScope s_answers) .none kV_answers dc_answers pm_answers an_answers cd_answers ct_answers), sl_answers⟩)
    (q_answers : PySem.W.codeIn K cd_answers "answers" = true)
    (k_answers : PySem.W.keepIn K (.ref f_answers) = true)
    (a_Kind_init : PySem.W.findIn K (.ref C_Kind) "__init__" = some (some (.ref f_Kind_init)))
    (i_Kind_init : PySem.W.isFn K (.ref f_Kind_init) = true)
    (l_Kind_init : K.lookup f_Kind_init = some ⟨oc_Kind_init, od_Kind_init, .func (PySem.W.fnOf "__init__" "Kind.__init__" (defArgs s_Kind_init) (defBody s_Kind_init) (defScope s_Kind_init) .none kV_Kind_init dc_Kind_init pm_Kind_init an_Kind_init cd_Kind_init ct_Kind_init), sl_Kind_init⟩)
    (q_Kind_init : PySem.W.codeIn K cd_Kind_init "Kind.__init__" = true)
    (k_Kind_init : PySem.W.keepIn K (.ref f_Kind_init) = true)
    (a_Instruction_init : PySem.W.findIn K (.ref C_Instruction) "__init__" = some (some (.ref f_Instruction_init)))
    (i_Instruction_init : PySem.W.isFn K (.ref f_Instruction_init) = true)
    (l_Instruction_init : K.lookup f_Instruction_init = some ⟨oc_Instruction_init, od_Instruction_init, .func (PySem.W.fnOf "__init__" "Instruction.__init__" (defArgs s_Instruction_init) (defBody s_Instruction_init) (defScope s_Instruction_init) .none kV_Instruction_init dc_Instruction_init pm_Instruction_init an_Instruction_init cd_Instruction_init ct_Instruction_init), sl_Instruction_init⟩)
    (q_Instruction_init : PySem.W.codeIn K cd_Instruction_init "Instruction.__init__" = true)
    (k_Instruction_init : PySem.W.keepIn K (.ref f_Instruction_init) = true)
    (a_Line_init : PySem.W.findIn K (.ref C_Line) "__init__" = some (some (.ref f_Line_init)))
    (i_Line_init : PySem.W.isFn K (.ref f_Line_init) = true)
    (l_Line_init : K.lookup f_Line_init = some ⟨oc_Line_init, od_Line_init, .func (PySem.W.fnOf "__init__" "Line.__init__" (defArgs s_Line_init) (defBody s_Line_init) (defScope s_Line_init) .none kV_Line_init dc_Line_init pm_Line_init an_Line_init cd_Line_init ct_Line_init), sl_Line_init⟩)
    (q_Line_init : PySem.W.codeIn K cd_Line_init "Line.__init__" = true)
    (k_Line_init : PySem.W.keepIn K (.ref f_Line_init) = true)
    (a_Line_begin : PySem.W.findIn K (.ref C_Line) "begin" = some (some (.ref f_Line_begin)))
    (i_Line_begin : PySem.W.isFn K (.ref f_Line_begin) = true)
    (l_Line_begin : K.lookup f_Line_begin = some ⟨oc_Line_begin, od_Line_begin, .func (PySem.W.fnOf "begin" "Line.begin" (defArgs s_Line_begin) (defBody s_Line_begin) (defScope s_Line_begin) .none kV_Line_begin dc_Line_begin pm_Line_begin an_Line_begin cd_Line_begin ct_Line_begin), sl_Line_begin⟩)
    (q_Line_begin : PySem.W.codeIn K cd_Line_begin "Line.begin" = true)
    (k_Line_begin : PySem.W.keepIn K (.ref f_Line_begin) = true)
    (a_Line_set_width : PySem.W.findIn K (.ref C_Line) "set_width" = some (some (.ref f_Line_set_width)))
    (i_Line_set_width : PySem.W.isFn K (.ref f_Line_set_width) = true)
    (l_Line_set_width : K.lookup f_Line_set_width = some ⟨oc_Line_set_width, od_Line_set_width, .func (PySem.W.fnOf "set_width" "Line.set_width" (defArgs s_Line_set_width) (defBody s_Line_set_width) (defScope s_Line_set_width) .none kV_Line_set_width dc_Line_set_width pm_Line_set_width an_Line_set_width cd_Line_set_width ct_Line_set_width), sl_Line_set_width⟩)
    (q_Line_set_width : PySem.W.codeIn K cd_Line_set_width "Line.set_width" = true)
    (k_Line_set_width : PySem.W.keepIn K (.ref f_Line_set_width) = true)
    (a_Line_set_units : PySem.W.findIn K (.ref C_Line) "set_units" = some (some (.ref f_Line_set_units)))
    (i_Line_set_units : PySem.W.isFn K (.ref f_Line_set_units) = true)
    (l_Line_set_units : K.lookup f_Line_set_units = some ⟨oc_Line_set_units, od_Line_set_units, .func (PySem.W.fnOf "set_units" "Line.set_units" (defArgs s_Line_set_units) (defBody s_Line_set_units) (defScope s_Line_set_units) .none kV_Line_set_units dc_Line_set_units pm_Line_set_units an_Line_set_units cd_Line_set_units ct_Line_set_units), sl_Line_set_units⟩)
    (q_Line_set_units : PySem.W.codeIn K cd_Line_set_units "Line.set_units" = true)
    (k_Line_set_units : PySem.W.keepIn K (.ref f_Line_set_units) = true)
    (a_Line_add_kind : PySem.W.findIn K (.ref C_Line) "add_kind" = some (some (.ref f_Line_add_kind)))
    (i_Line_add_kind : PySem.W.isFn K (.ref f_Line_add_kind) = true)
    (l_Line_add_kind : K.lookup f_Line_add_kind = some ⟨oc_Line_add_kind, od_Line_add_kind, .func (PySem.W.fnOf "add_kind" "Line.add_kind" (defArgs s_Line_add_kind) (defBody s_Line_add_kind) (defScope s_Line_add_kind) .none kV_Line_add_kind dc_Line_add_kind pm_Line_add_kind an_Line_add_kind cd_Line_add_kind ct_Line_add_kind), sl_Line_add_kind⟩)
    (q_Line_add_kind : PySem.W.codeIn K cd_Line_add_kind "Line.add_kind" = true)
    (k_Line_add_kind : PySem.W.keepIn K (.ref f_Line_add_kind) = true)
    (a_Line_add : PySem.W.findIn K (.ref C_Line) "add" = some (some (.ref f_Line_add)))
    (i_Line_add : PySem.W.isFn K (.ref f_Line_add) = true)
    (l_Line_add : K.lookup f_Line_add = some ⟨oc_Line_add, od_Line_add, .func (PySem.W.fnOf "add" "Line.add" (defArgs s_Line_add) (defBody s_Line_add) (defScope s_Line_add) .none kV_Line_add dc_Line_add pm_Line_add an_Line_add cd_Line_add ct_Line_add), sl_Line_add⟩)
    (q_Line_add : PySem.W.codeIn K cd_Line_add "Line.add" = true)
    (k_Line_add : PySem.W.keepIn K (.ref f_Line_add) = true)
    (a_Line_clear : PySem.W.findIn K (.ref C_Line) "clear" = some (some (.ref f_Line_clear)))
    (i_Line_clear : PySem.W.isFn K (.ref f_Line_clear) = true)
    (l_Line_clear : K.lookup f_Line_clear = some ⟨oc_Line_clear, od_Line_clear, .func (PySem.W.fnOf "clear" "Line.clear" (defArgs s_Line_clear) (defBody s_Line_clear) (defScope s_Line_clear) .none kV_Line_clear dc_Line_clear pm_Line_clear an_Line_clear cd_Line_clear ct_Line_clear), sl_Line_clear⟩)
    (q_Line_clear : PySem.W.codeIn K cd_Line_clear "Line.clear" = true)
    (k_Line_clear : PySem.W.keepIn K (.ref f_Line_clear) = true)
    (a_Line_dep : PySem.W.findIn K (.ref C_Line) "dep" = some (some (.ref f_Line_dep)))
    (i_Line_dep : PySem.W.isFn K (.ref f_Line_dep) = true)
    (l_Line_dep : K.lookup f_Line_dep = some ⟨oc_Line_dep, od_Line_dep, .func (PySem.W.fnOf "dep" "Line.dep" (defArgs s_Line_dep) (defBody s_Line_dep) (defScope s_Line_dep) .none kV_Line_dep dc_Line_dep pm_Line_dep an_Line_dep cd_Line_dep ct_Line_dep), sl_Line_dep⟩)
    (q_Line_dep : PySem.W.codeIn K cd_Line_dep "Line.dep" = true)
    (k_Line_dep : PySem.W.keepIn K (.ref f_Line_dep) = true)
    (a_Line_bound : PySem.W.findIn K (.ref C_Line) "bound" = some (some (.ref f_Line_bound)))
    (i_Line_bound : PySem.W.isFn K (.ref f_Line_bound) = true)
    (l_Line_bound : K.lookup f_Line_bound = some ⟨oc_Line_bound, od_Line_bound, .func (PySem.W.fnOf "bound" "Line.bound" (defArgs s_Line_bound) (defBody s_Line_bound) (defScope s_Line_bound) .none kV_Line_bound dc_Line_bound pm_Line_bound an_Line_bound cd_Line_bound ct_Line_bound), sl_Line_bound⟩)
    (q_Line_bound : PySem.W.codeIn K cd_Line_bound "Line.bound" = true)
    (k_Line_bound : PySem.W.keepIn K (.ref f_Line_bound) = true)
    (a_Line_time : PySem.W.findIn K (.ref C_Line) "time" = some (some (.ref f_Line_time)))
    (i_Line_time : PySem.W.isFn K (.ref f_Line_time) = true)
    (l_Line_time : K.lookup f_Line_time = some ⟨oc_Line_time, od_Line_time, .func (PySem.W.fnOf "time" "Line.time" (defArgs s_Line_time) (defBody s_Line_time) (defScope s_Line_time) .none kV_Line_time dc_Line_time pm_Line_time an_Line_time cd_Line_time ct_Line_time), sl_Line_time⟩)
    (q_Line_time : PySem.W.codeIn K cd_Line_time "Line.time" = true)
    (k_Line_time : PySem.W.keepIn K (.ref f_Line_time) = true)
    (a_Line_best : PySem.W.findIn K (.ref C_Line) "best" = some (some (.ref f_Line_best)))
    (i_Line_best : PySem.W.isFn K (.ref f_Line_best) = true)
    (l_Line_best : K.lookup f_Line_best = some ⟨oc_Line_best, od_Line_best, .func (PySem.W.fnOf "best" "Line.best" (defArgs s_Line_best) (defBody s_Line_best) (defScope s_Line_best) .none kV_Line_best dc_Line_best pm_Line_best an_Line_best cd_Line_best ct_Line_best), sl_Line_best⟩)
    (q_Line_best : PySem.W.codeIn K cd_Line_best "Line.best" = true)
    (k_Line_best : PySem.W.keepIn K (.ref f_Line_best) = true)
    (a_Reader_init : PySem.W.findIn K (.ref C_Reader) "__init__" = some (some (.ref f_Reader_init)))
    (i_Reader_init : PySem.W.isFn K (.ref f_Reader_init) = true)
    (l_Reader_init : K.lookup f_Reader_init = some ⟨oc_Reader_init, od_Reader_init, .func (PySem.W.fnOf "__init__" "Reader.__init__" (defArgs s_Reader_init) (defBody s_Reader_init) (defScope s_Reader_init) .none kV_Reader_init dc_Reader_init pm_Reader_init an_Reader_init cd_Reader_init ct_Reader_init), sl_Reader_init⟩)
    (q_Reader_init : PySem.W.codeIn K cd_Reader_init "Reader.__init__" = true)
    (k_Reader_init : PySem.W.keepIn K (.ref f_Reader_init) = true)
    (a_Reader_has_more : PySem.W.findIn K (.ref C_Reader) "has_more" = some (some (.ref f_Reader_has_more)))
    (i_Reader_has_more : PySem.W.isFn K (.ref f_Reader_has_more) = true)
    (l_Reader_has_more : K.lookup f_Reader_has_more = some ⟨oc_Reader_has_more, od_Reader_has_more, .func (PySem.W.fnOf "has_more" "Reader.has_more" (defArgs s_Reader_has_more) (defBody s_Reader_has_more) (defScope s_Reader_has_more) .none kV_Reader_has_more dc_Reader_has_more pm_Reader_has_more an_Reader_has_more cd_Reader_has_more ct_Reader_has_more), sl_Reader_has_more⟩)
    (q_Reader_has_more : PySem.W.codeIn K cd_Reader_has_more "Reader.has_more" = true)
    (k_Reader_has_more : PySem.W.keepIn K (.ref f_Reader_has_more) = true)
    (a_Reader_number : PySem.W.findIn K (.ref C_Reader) "number" = some (some (.ref f_Reader_number)))
    (i_Reader_number : PySem.W.isFn K (.ref f_Reader_number) = true)
    (l_Reader_number : K.lookup f_Reader_number = some ⟨oc_Reader_number, od_Reader_number, .func (PySem.W.fnOf "number" "Reader.number" (defArgs s_Reader_number) (defBody s_Reader_number) (defScope s_Reader_number) .none kV_Reader_number dc_Reader_number pm_Reader_number an_Reader_number cd_Reader_number ct_Reader_number), sl_Reader_number⟩)
    (q_Reader_number : PySem.W.codeIn K cd_Reader_number "Reader.number" = true)
    (k_Reader_number : PySem.W.keepIn K (.ref f_Reader_number) = true)
    (a_Reader_row : PySem.W.findIn K (.ref C_Reader) "row" = some (some (.ref f_Reader_row)))
    (i_Reader_row : PySem.W.isFn K (.ref f_Reader_row) = true)
    (l_Reader_row : K.lookup f_Reader_row = some ⟨oc_Reader_row, od_Reader_row, .func (PySem.W.fnOf "row" "Reader.row" (defArgs s_Reader_row) (defBody s_Reader_row) (defScope s_Reader_row) .none kV_Reader_row dc_Reader_row pm_Reader_row an_Reader_row cd_Reader_row ct_Reader_row), sl_Reader_row⟩)
    (q_Reader_row : PySem.W.codeIn K cd_Reader_row "Reader.row" = true)
    (k_Reader_row : PySem.W.keepIn K (.ref f_Reader_row) = true)
    (pg_Kind : PySem.W.plainGet K C_Kind Str.empty = true)
    (hd_Kind : PySem.W.hasDictIn K C_Kind = true)
    (po_Kind : PySem.W.plainOver K C_Kind = true)
    (sa_Kind : PySem.W.findIn K (.ref C_Kind) "__setattr__" = some (some (.builtin "object.__setattr__")))
    (mk_Kind : PySem.W.makesIn K C_Kind = true)
    (kc_Kind : PySem.W.keepIn K (.ref C_Kind) = true)
    (n_Kind_unit_class : PySem.W.findIn K (.ref C_Kind) "unit_class" = some none)
    (n_Kind_busy : PySem.W.findIn K (.ref C_Kind) "busy" = some none)
    (n_Kind_latency : PySem.W.findIn K (.ref C_Kind) "latency" = some none)
    (pg_Instruction : PySem.W.plainGet K C_Instruction Str.empty = true)
    (hd_Instruction : PySem.W.hasDictIn K C_Instruction = true)
    (po_Instruction : PySem.W.plainOver K C_Instruction = true)
    (sa_Instruction : PySem.W.findIn K (.ref C_Instruction) "__setattr__" = some (some (.builtin "object.__setattr__")))
    (mk_Instruction : PySem.W.makesIn K C_Instruction = true)
    (kc_Instruction : PySem.W.keepIn K (.ref C_Instruction) = true)
    (n_Instruction_kind : PySem.W.findIn K (.ref C_Instruction) "kind" = some none)
    (n_Instruction_reads : PySem.W.findIn K (.ref C_Instruction) "reads" = some none)
    (n_Instruction_writes : PySem.W.findIn K (.ref C_Instruction) "writes" = some none)
    (n_Instruction_mem : PySem.W.findIn K (.ref C_Instruction) "mem" = some none)
    (n_Instruction_place : PySem.W.findIn K (.ref C_Instruction) "place" = some none)
    (pg_Line : PySem.W.plainGet K C_Line Str.empty = true)
    (hd_Line : PySem.W.hasDictIn K C_Line = true)
    (po_Line : PySem.W.plainOver K C_Line = true)
    (sa_Line : PySem.W.findIn K (.ref C_Line) "__setattr__" = some (some (.builtin "object.__setattr__")))
    (mk_Line : PySem.W.makesIn K C_Line = true)
    (kc_Line : PySem.W.keepIn K (.ref C_Line) = true)
    (n_Line_width : PySem.W.findIn K (.ref C_Line) "width" = some none)
    (n_Line_units : PySem.W.findIn K (.ref C_Line) "units" = some none)
    (n_Line_kinds : PySem.W.findIn K (.ref C_Line) "kinds" = some none)
    (n_Line_block : PySem.W.findIn K (.ref C_Line) "block" = some none)
    (pg_Reader : PySem.W.plainGet K C_Reader Str.empty = true)
    (hd_Reader : PySem.W.hasDictIn K C_Reader = true)
    (po_Reader : PySem.W.plainOver K C_Reader = true)
    (sa_Reader : PySem.W.findIn K (.ref C_Reader) "__setattr__" = some (some (.builtin "object.__setattr__")))
    (mk_Reader : PySem.W.makesIn K C_Reader = true)
    (kc_Reader : PySem.W.keepIn K (.ref C_Reader) = true)
    (n_Reader_numbers : PySem.W.findIn K (.ref C_Reader) "numbers" = some none)
    (n_Reader_at : PySem.W.findIn K (.ref C_Reader) "at" = some none)
    : ∃ A : Adr, mg "answers" = some (.ref A.f_answers) ∧ Txt K mg A := by
  have F_is_within := fun_mk (st := s_is_within) l_is_within q_is_within k_is_within
  have b_is_within := F_is_within.binds (ps := ["n", "most"]) fun _ _ _ _ _ _ us hl => match us, hl with | [_, _], _ => rfl
  have F_are_registers := fun_mk (st := s_are_registers) l_are_registers q_are_registers k_are_registers
  have b_are_registers := F_are_registers.binds (ps := ["row", "most"]) fun _ _ _ _ _ _ us hl => match us, hl with | [_, _], _ => rfl
  have F_is_memory_use := fun_mk (st := s_is_memory_use) l_is_memory_use q_is_memory_use k_is_memory_use
  have b_is_memory_use := F_is_memory_use.binds (ps := ["mem", "place"]) fun _ _ _ _ _ _ us hl => match us, hl with | [_, _], _ => rfl
  have F_name_one_in_common := fun_mk (st := s_name_one_in_common) l_name_one_in_common q_name_one_in_common k_name_one_in_common
  have b_name_one_in_common := F_name_one_in_common.binds (ps := ["row", "other"]) fun _ _ _ _ _ _ us hl => match us, hl with | [_, _], _ => rfl
  have F_may_meet_in_memory := fun_mk (st := s_may_meet_in_memory) l_may_meet_in_memory q_may_meet_in_memory k_may_meet_in_memory
  have b_may_meet_in_memory := F_may_meet_in_memory.binds (ps := ["one", "other"]) fun _ _ _ _ _ _ us hl => match us, hl with | [_, _], _ => rfl
  have F_bits_between := fun_mk (st := s_bits_between) l_bits_between q_bits_between k_bits_between
  have b_bits_between := F_bits_between.binds (ps := ["earlier", "later"]) fun _ _ _ _ _ _ us hl => match us, hl with | [_, _], _ => rfl
  have F_needed_cycles := fun_mk (st := s_needed_cycles) l_needed_cycles q_needed_cycles k_needed_cycles
  have b_needed_cycles := F_needed_cycles.binds (ps := ["earlier", "later", "bits"]) fun _ _ _ _ _ _ us hl => match us, hl with | [_, _, _], _ => rfl
  have F_waits_of := fun_mk (st := s_waits_of) l_waits_of q_waits_of k_waits_of
  have b_waits_of := F_waits_of.binds (ps := ["block", "j"]) fun _ _ _ _ _ _ us hl => match us, hl with | [_, _], _ => rfl
  have F_waits_in := fun_mk (st := s_waits_in) l_waits_in q_waits_in k_waits_in
  have b_waits_in := F_waits_in.binds (ps := ["block"]) fun _ _ _ _ _ _ us hl => match us, hl with | [_], _ => rfl
  have F_have_all_begun := fun_mk (st := s_have_all_begun) l_have_all_begun q_have_all_begun k_have_all_begun
  have b_have_all_begun := F_have_all_begun.binds (ps := ["wait", "begun"]) fun _ _ _ _ _ _ us hl => match us, hl with | [_, _], _ => rfl
  have F_is_accepted := fun_mk (st := s_is_accepted) l_is_accepted q_is_accepted k_is_accepted
  have b_is_accepted := F_is_accepted.binds (ps := ["waits", "order"]) fun _ _ _ _ _ _ us hl => match us, hl with | [_, _], _ => rfl
  have F_after_waits := fun_mk (st := s_after_waits) l_after_waits q_after_waits k_after_waits
  have b_after_waits := F_after_waits.binds (ps := ["wait", "begins"]) fun _ _ _ _ _ _ us hl => match us, hl with | [_, _], _ => rfl
  have F_after_width := fun_mk (st := s_after_width) l_after_width q_after_width k_after_width
  have b_after_width := F_after_width.binds (ps := ["width", "cycles"]) fun _ _ _ _ _ _ us hl => match us, hl with | [_, _], _ => rfl
  have F_after_units := fun_mk (st := s_after_units) l_after_units q_after_units k_after_units
  have b_after_units := F_after_units.binds (ps := ["line", "begins", "unit_class"]) fun _ _ _ _ _ _ us hl => match us, hl with | [_, _, _], _ => rfl
  have F_earliest_begin := fun_mk (st := s_earliest_begin) l_earliest_begin q_earliest_begin k_earliest_begin
  have b_earliest_begin := F_earliest_begin.binds (ps := ["line", "waits", "begins", "k"]) fun _ _ _ _ _ _ us hl => match us, hl with | [_, _, _, _], _ => rfl
  have F_begins_in_order := fun_mk (st := s_begins_in_order) l_begins_in_order q_begins_in_order k_begins_in_order
  have b_begins_in_order := F_begins_in_order.binds (ps := ["line", "waits", "order"]) fun _ _ _ _ _ _ us hl => match us, hl with | [_, _, _], _ => rfl
  have F_cycles_taken := fun_mk (st := s_cycles_taken) l_cycles_taken q_cycles_taken k_cycles_taken
  have b_cycles_taken := F_cycles_taken.binds (ps := ["block", "begins"]) fun _ _ _ _ _ _ us hl => match us, hl with | [_, _], _ => rfl
  have F_with_one_more := fun_mk (st := s_with_one_more) l_with_one_more q_with_one_more k_with_one_more
  have b_with_one_more := F_with_one_more.binds (ps := ["line", "waits", "begins"]) fun _ _ _ _ _ _ us hl => match us, hl with | [_, _, _], _ => rfl
  have F_best_begins := fun_mk (st := s_best_begins) l_best_begins q_best_begins k_best_begins
  have b_best_begins := F_best_begins.binds (ps := ["line"]) fun _ _ _ _ _ _ us hl => match us, hl with | [_], _ => rfl
  have F_answer_width := fun_mk (st := s_answer_width) l_answer_width q_answer_width k_answer_width
  have b_answer_width := F_answer_width.binds (ps := ["line", "reader"]) fun _ _ _ _ _ _ us hl => match us, hl with | [_, _], _ => rfl
  have F_answer_units := fun_mk (st := s_answer_units) l_answer_units q_answer_units k_answer_units
  have b_answer_units := F_answer_units.binds (ps := ["line", "reader"]) fun _ _ _ _ _ _ us hl => match us, hl with | [_, _], _ => rfl
  have F_answer_kind := fun_mk (st := s_answer_kind) l_answer_kind q_answer_kind k_answer_kind
  have b_answer_kind := F_answer_kind.binds (ps := ["line", "reader"]) fun _ _ _ _ _ _ us hl => match us, hl with | [_, _], _ => rfl
  have F_answer_add := fun_mk (st := s_answer_add) l_answer_add q_answer_add k_answer_add
  have b_answer_add := F_answer_add.binds (ps := ["line", "reader"]) fun _ _ _ _ _ _ us hl => match us, hl with | [_, _], _ => rfl
  have F_answer_dep := fun_mk (st := s_answer_dep) l_answer_dep q_answer_dep k_answer_dep
  have b_answer_dep := F_answer_dep.binds (ps := ["line", "reader"]) fun _ _ _ _ _ _ us hl => match us, hl with | [_, _], _ => rfl
  have F_answer_number := fun_mk (st := s_answer_number) l_answer_number q_answer_number k_answer_number
  have b_answer_number := F_answer_number.binds (ps := ["line", "reader", "call"]) fun _ _ _ _ _ _ us hl => match us, hl with | [_, _, _], _ => rfl
  have F_answer_call := fun_mk (st := s_answer_call) l_answer_call q_answer_call k_answer_call
  have b_answer_call := F_answer_call.binds (ps := ["line", "reader"]) fun _ _ _ _ _ _ us hl => match us, hl with | [_, _], _ => rfl
  have F_written_answer := fun_mk (st := s_written_answer) l_written_answer q_written_answer k_written_answer
  have b_written_answer := F_written_answer.binds (ps := ["number", "row"]) fun _ _ _ _ _ _ us hl => match us, hl with | [_, _], _ => rfl
  have F_answers := fun_mk (st := s_answers) l_answers q_answers k_answers
  have b_answers := F_answers.binds (ps := ["calls"]) fun _ _ _ _ _ _ us hl => match us, hl with | [_], _ => rfl
  have F_Kind_init := fun_mk (st := s_Kind_init) l_Kind_init q_Kind_init k_Kind_init
  have b_Kind_init := F_Kind_init.binds (ps := ["self", "unit_class", "busy", "latency"]) fun _ _ _ _ _ _ us hl => match us, hl with | [_, _, _, _], _ => rfl
  have F_Instruction_init := fun_mk (st := s_Instruction_init) l_Instruction_init q_Instruction_init k_Instruction_init
  have b_Instruction_init := F_Instruction_init.binds (ps := ["self", "kind", "reads", "writes", "mem", "place"]) fun _ _ _ _ _ _ us hl => match us, hl with | [_, _, _, _, _, _], _ => rfl
  have F_Line_init := fun_mk (st := s_Line_init) l_Line_init q_Line_init k_Line_init
  have b_Line_init := F_Line_init.binds (ps := ["self"]) fun _ _ _ _ _ _ us hl => match us, hl with | [_], _ => rfl
  have F_Line_begin := fun_mk (st := s_Line_begin) l_Line_begin q_Line_begin k_Line_begin
  have b_Line_begin := F_Line_begin.binds (ps := ["self"]) fun _ _ _ _ _ _ us hl => match us, hl with | [_], _ => rfl
  have F_Line_set_width := fun_mk (st := s_Line_set_width) l_Line_set_width q_Line_set_width k_Line_set_width
  have b_Line_set_width := F_Line_set_width.binds (ps := ["self", "n"]) fun _ _ _ _ _ _ us hl => match us, hl with | [_, _], _ => rfl
  have F_Line_set_units := fun_mk (st := s_Line_set_units) l_Line_set_units q_Line_set_units k_Line_set_units
  have b_Line_set_units := F_Line_set_units.binds (ps := ["self", "c", "n"]) fun _ _ _ _ _ _ us hl => match us, hl with | [_, _, _], _ => rfl
  have F_Line_add_kind := fun_mk (st := s_Line_add_kind) l_Line_add_kind q_Line_add_kind k_Line_add_kind
  have b_Line_add_kind := F_Line_add_kind.binds (ps := ["self", "c", "busy", "latency"]) fun _ _ _ _ _ _ us hl => match us, hl with | [_, _, _, _], _ => rfl
  have F_Line_add := fun_mk (st := s_Line_add) l_Line_add q_Line_add k_Line_add
  have b_Line_add := F_Line_add.binds (ps := ["self", "kind", "reads", "writes", "mem", "place"]) fun _ _ _ _ _ _ us hl => match us, hl with | [_, _, _, _, _, _], _ => rfl
  have F_Line_clear := fun_mk (st := s_Line_clear) l_Line_clear q_Line_clear k_Line_clear
  have b_Line_clear := F_Line_clear.binds (ps := ["self"]) fun _ _ _ _ _ _ us hl => match us, hl with | [_], _ => rfl
  have F_Line_dep := fun_mk (st := s_Line_dep) l_Line_dep q_Line_dep k_Line_dep
  have b_Line_dep := F_Line_dep.binds (ps := ["self", "i", "j"]) fun _ _ _ _ _ _ us hl => match us, hl with | [_, _, _], _ => rfl
  have F_Line_bound := fun_mk (st := s_Line_bound) l_Line_bound q_Line_bound k_Line_bound
  have b_Line_bound := F_Line_bound.binds (ps := ["self"]) fun _ _ _ _ _ _ us hl => match us, hl with | [_], _ => rfl
  have F_Line_time := fun_mk (st := s_Line_time) l_Line_time q_Line_time k_Line_time
  have b_Line_time := F_Line_time.binds (ps := ["self", "order"]) fun _ _ _ _ _ _ us hl => match us, hl with | [_, _], _ => rfl
  have F_Line_best := fun_mk (st := s_Line_best) l_Line_best q_Line_best k_Line_best
  have b_Line_best := F_Line_best.binds (ps := ["self"]) fun _ _ _ _ _ _ us hl => match us, hl with | [_], _ => rfl
  have F_Reader_init := fun_mk (st := s_Reader_init) l_Reader_init q_Reader_init k_Reader_init
  have b_Reader_init := F_Reader_init.binds (ps := ["self", "numbers"]) fun _ _ _ _ _ _ us hl => match us, hl with | [_, _], _ => rfl
  have F_Reader_has_more := fun_mk (st := s_Reader_has_more) l_Reader_has_more q_Reader_has_more k_Reader_has_more
  have b_Reader_has_more := F_Reader_has_more.binds (ps := ["self"]) fun _ _ _ _ _ _ us hl => match us, hl with | [_], _ => rfl
  have F_Reader_number := fun_mk (st := s_Reader_number) l_Reader_number q_Reader_number k_Reader_number
  have b_Reader_number := F_Reader_number.binds (ps := ["self"]) fun _ _ _ _ _ _ us hl => match us, hl with | [_], _ => rfl
  have F_Reader_row := fun_mk (st := s_Reader_row) l_Reader_row q_Reader_row k_Reader_row
  have b_Reader_row := F_Reader_row.binds (ps := ["self"]) fun _ _ _ _ _ _ us hl => match us, hl with | [_], _ => rfl
  refine ⟨⟨C_Kind, C_Instruction, C_Line, C_Reader, f_is_within, PySem.W.fnOf "is_within" "is_within" (defArgs s_is_within) (defBody s_is_within) (defScope s_is_within) .none kV_is_within dc_is_within pm_is_within an_is_within cd_is_within ct_is_within, f_are_registers, PySem.W.fnOf "are_registers" "are_registers" (defArgs s_are_registers) (defBody s_are_registers) (defScope s_are_registers) .none kV_are_registers dc_are_registers pm_are_registers an_are_registers cd_are_registers ct_are_registers, f_is_memory_use, PySem.W.fnOf "is_memory_use" "is_memory_use" (defArgs s_is_memory_use) (defBody s_is_memory_use) (defScope s_is_memory_use) .none kV_is_memory_use dc_is_memory_use pm_is_memory_use an_is_memory_use cd_is_memory_use ct_is_memory_use, f_name_one_in_common, PySem.W.fnOf "name_one_in_common" "name_one_in_common" (defArgs s_name_one_in_common) (defBody s_name_one_in_common) (defScope s_name_one_in_common) .none kV_name_one_in_common dc_name_one_in_common pm_name_one_in_common an_name_one_in_common cd_name_one_in_common ct_name_one_in_common, f_may_meet_in_memory, PySem.W.fnOf "may_meet_in_memory" "may_meet_in_memory" (defArgs s_may_meet_in_memory) (defBody s_may_meet_in_memory) (defScope s_may_meet_in_memory) .none kV_may_meet_in_memory dc_may_meet_in_memory pm_may_meet_in_memory an_may_meet_in_memory cd_may_meet_in_memory ct_may_meet_in_memory, f_bits_between, PySem.W.fnOf "bits_between" "bits_between" (defArgs s_bits_between) (defBody s_bits_between) (defScope s_bits_between) .none kV_bits_between dc_bits_between pm_bits_between an_bits_between cd_bits_between ct_bits_between, f_needed_cycles, PySem.W.fnOf "needed_cycles" "needed_cycles" (defArgs s_needed_cycles) (defBody s_needed_cycles) (defScope s_needed_cycles) .none kV_needed_cycles dc_needed_cycles pm_needed_cycles an_needed_cycles cd_needed_cycles ct_needed_cycles, f_waits_of, PySem.W.fnOf "waits_of" "waits_of" (defArgs s_waits_of) (defBody s_waits_of) (defScope s_waits_of) .none kV_waits_of dc_waits_of pm_waits_of an_waits_of cd_waits_of ct_waits_of, f_waits_in, PySem.W.fnOf "waits_in" "waits_in" (defArgs s_waits_in) (defBody s_waits_in) (defScope s_waits_in) .none kV_waits_in dc_waits_in pm_waits_in an_waits_in cd_waits_in ct_waits_in, f_have_all_begun, PySem.W.fnOf "have_all_begun" "have_all_begun" (defArgs s_have_all_begun) (defBody s_have_all_begun) (defScope s_have_all_begun) .none kV_have_all_begun dc_have_all_begun pm_have_all_begun an_have_all_begun cd_have_all_begun ct_have_all_begun, f_is_accepted, PySem.W.fnOf "is_accepted" "is_accepted" (defArgs s_is_accepted) (defBody s_is_accepted) (defScope s_is_accepted) .none kV_is_accepted dc_is_accepted pm_is_accepted an_is_accepted cd_is_accepted ct_is_accepted, f_after_waits, PySem.W.fnOf "after_waits" "after_waits" (defArgs s_after_waits) (defBody s_after_waits) (defScope s_after_waits) .none kV_after_waits dc_after_waits pm_after_waits an_after_waits cd_after_waits ct_after_waits, f_after_width, PySem.W.fnOf "after_width" "after_width" (defArgs s_after_width) (defBody s_after_width) (defScope s_after_width) .none kV_after_width dc_after_width pm_after_width an_after_width cd_after_width ct_after_width, f_after_units, PySem.W.fnOf "after_units" "after_units" (defArgs s_after_units) (defBody s_after_units) (defScope s_after_units) .none kV_after_units dc_after_units pm_after_units an_after_units cd_after_units ct_after_units, f_earliest_begin, PySem.W.fnOf "earliest_begin" "earliest_begin" (defArgs s_earliest_begin) (defBody s_earliest_begin) (defScope s_earliest_begin) .none kV_earliest_begin dc_earliest_begin pm_earliest_begin an_earliest_begin cd_earliest_begin ct_earliest_begin, f_begins_in_order, PySem.W.fnOf "begins_in_order" "begins_in_order" (defArgs s_begins_in_order) (defBody s_begins_in_order) (defScope s_begins_in_order) .none kV_begins_in_order dc_begins_in_order pm_begins_in_order an_begins_in_order cd_begins_in_order ct_begins_in_order, f_cycles_taken, PySem.W.fnOf "cycles_taken" "cycles_taken" (defArgs s_cycles_taken) (defBody s_cycles_taken) (defScope s_cycles_taken) .none kV_cycles_taken dc_cycles_taken pm_cycles_taken an_cycles_taken cd_cycles_taken ct_cycles_taken, f_with_one_more, PySem.W.fnOf "with_one_more" "with_one_more" (defArgs s_with_one_more) (defBody s_with_one_more) (defScope s_with_one_more) .none kV_with_one_more dc_with_one_more pm_with_one_more an_with_one_more cd_with_one_more ct_with_one_more, f_best_begins, PySem.W.fnOf "best_begins" "best_begins" (defArgs s_best_begins) (defBody s_best_begins) (defScope s_best_begins) .none kV_best_begins dc_best_begins pm_best_begins an_best_begins cd_best_begins ct_best_begins, f_answer_width, PySem.W.fnOf "answer_width" "answer_width" (defArgs s_answer_width) (defBody s_answer_width) (defScope s_answer_width) .none kV_answer_width dc_answer_width pm_answer_width an_answer_width cd_answer_width ct_answer_width, f_answer_units, PySem.W.fnOf "answer_units" "answer_units" (defArgs s_answer_units) (defBody s_answer_units) (defScope s_answer_units) .none kV_answer_units dc_answer_units pm_answer_units an_answer_units cd_answer_units ct_answer_units, f_answer_kind, PySem.W.fnOf "answer_kind" "answer_kind" (defArgs s_answer_kind) (defBody s_answer_kind) (defScope s_answer_kind) .none kV_answer_kind dc_answer_kind pm_answer_kind an_answer_kind cd_answer_kind ct_answer_kind, f_answer_add, PySem.W.fnOf "answer_add" "answer_add" (defArgs s_answer_add) (defBody s_answer_add) (defScope s_answer_add) .none kV_answer_add dc_answer_add pm_answer_add an_answer_add cd_answer_add ct_answer_add, f_answer_dep, PySem.W.fnOf "answer_dep" "answer_dep" (defArgs s_answer_dep) (defBody s_answer_dep) (defScope s_answer_dep) .none kV_answer_dep dc_answer_dep pm_answer_dep an_answer_dep cd_answer_dep ct_answer_dep, f_answer_number, PySem.W.fnOf "answer_number" "answer_number" (defArgs s_answer_number) (defBody s_answer_number) (defScope s_answer_number) .none kV_answer_number dc_answer_number pm_answer_number an_answer_number cd_answer_number ct_answer_number, f_answer_call, PySem.W.fnOf "answer_call" "answer_call" (defArgs s_answer_call) (defBody s_answer_call) (defScope s_answer_call) .none kV_answer_call dc_answer_call pm_answer_call an_answer_call cd_answer_call ct_answer_call, f_written_answer, PySem.W.fnOf "written_answer" "written_answer" (defArgs s_written_answer) (defBody s_written_answer) (defScope s_written_answer) .none kV_written_answer dc_written_answer pm_written_answer an_written_answer cd_written_answer ct_written_answer, f_answers, PySem.W.fnOf "answers" "answers" (defArgs s_answers) (defBody s_answers) (defScope s_answers) .none kV_answers dc_answers pm_answers an_answers cd_answers ct_answers, f_Kind_init, PySem.W.fnOf "__init__" "Kind.__init__" (defArgs s_Kind_init) (defBody s_Kind_init) (defScope s_Kind_init) .none kV_Kind_init dc_Kind_init pm_Kind_init an_Kind_init cd_Kind_init ct_Kind_init, f_Instruction_init, PySem.W.fnOf "__init__" "Instruction.__init__" (defArgs s_Instruction_init) (defBody s_Instruction_init) (defScope s_Instruction_init) .none kV_Instruction_init dc_Instruction_init pm_Instruction_init an_Instruction_init cd_Instruction_init ct_Instruction_init, f_Line_init, PySem.W.fnOf "__init__" "Line.__init__" (defArgs s_Line_init) (defBody s_Line_init) (defScope s_Line_init) .none kV_Line_init dc_Line_init pm_Line_init an_Line_init cd_Line_init ct_Line_init, f_Line_begin, PySem.W.fnOf "begin" "Line.begin" (defArgs s_Line_begin) (defBody s_Line_begin) (defScope s_Line_begin) .none kV_Line_begin dc_Line_begin pm_Line_begin an_Line_begin cd_Line_begin ct_Line_begin, f_Line_set_width, PySem.W.fnOf "set_width" "Line.set_width" (defArgs s_Line_set_width) (defBody s_Line_set_width) (defScope s_Line_set_width) .none kV_Line_set_width dc_Line_set_width pm_Line_set_width an_Line_set_width cd_Line_set_width ct_Line_set_width, f_Line_set_units, PySem.W.fnOf "set_units" "Line.set_units" (defArgs s_Line_set_units) (defBody s_Line_set_units) (defScope s_Line_set_units) .none kV_Line_set_units dc_Line_set_units pm_Line_set_units an_Line_set_units cd_Line_set_units ct_Line_set_units, f_Line_add_kind, PySem.W.fnOf "add_kind" "Line.add_kind" (defArgs s_Line_add_kind) (defBody s_Line_add_kind) (defScope s_Line_add_kind) .none kV_Line_add_kind dc_Line_add_kind pm_Line_add_kind an_Line_add_kind cd_Line_add_kind ct_Line_add_kind, f_Line_add, PySem.W.fnOf "add" "Line.add" (defArgs s_Line_add) (defBody s_Line_add) (defScope s_Line_add) .none kV_Line_add dc_Line_add pm_Line_add an_Line_add cd_Line_add ct_Line_add, f_Line_clear, PySem.W.fnOf "clear" "Line.clear" (defArgs s_Line_clear) (defBody s_Line_clear) (defScope s_Line_clear) .none kV_Line_clear dc_Line_clear pm_Line_clear an_Line_clear cd_Line_clear ct_Line_clear, f_Line_dep, PySem.W.fnOf "dep" "Line.dep" (defArgs s_Line_dep) (defBody s_Line_dep) (defScope s_Line_dep) .none kV_Line_dep dc_Line_dep pm_Line_dep an_Line_dep cd_Line_dep ct_Line_dep, f_Line_bound, PySem.W.fnOf "bound" "Line.bound" (defArgs s_Line_bound) (defBody s_Line_bound) (defScope s_Line_bound) .none kV_Line_bound dc_Line_bound pm_Line_bound an_Line_bound cd_Line_bound ct_Line_bound, f_Line_time, PySem.W.fnOf "time" "Line.time" (defArgs s_Line_time) (defBody s_Line_time) (defScope s_Line_time) .none kV_Line_time dc_Line_time pm_Line_time an_Line_time cd_Line_time ct_Line_time, f_Line_best, PySem.W.fnOf "best" "Line.best" (defArgs s_Line_best) (defBody s_Line_best) (defScope s_Line_best) .none kV_Line_best dc_Line_best pm_Line_best an_Line_best cd_Line_best ct_Line_best, f_Reader_init, PySem.W.fnOf "__init__" "Reader.__init__" (defArgs s_Reader_init) (defBody s_Reader_init) (defScope s_Reader_init) .none kV_Reader_init dc_Reader_init pm_Reader_init an_Reader_init cd_Reader_init ct_Reader_init, f_Reader_has_more, PySem.W.fnOf "has_more" "Reader.has_more" (defArgs s_Reader_has_more) (defBody s_Reader_has_more) (defScope s_Reader_has_more) .none kV_Reader_has_more dc_Reader_has_more pm_Reader_has_more an_Reader_has_more cd_Reader_has_more ct_Reader_has_more, f_Reader_number, PySem.W.fnOf "number" "Reader.number" (defArgs s_Reader_number) (defBody s_Reader_number) (defScope s_Reader_number) .none kV_Reader_number dc_Reader_number pm_Reader_number an_Reader_number cd_Reader_number ct_Reader_number, f_Reader_row, PySem.W.fnOf "row" "Reader.row" (defArgs s_Reader_row) (defBody s_Reader_row) (defScope s_Reader_row) .none kV_Reader_row dc_Reader_row pm_Reader_row an_Reader_row cd_Reader_row ct_Reader_row⟩, PySem.W.mg_of X G a_answers, ?_⟩
  exact ⟨⟨_, PySem.W.mg_of X G e_CALL_INIT⟩,
    ⟨_, PySem.W.mg_of X G e_CALL_WIDTH⟩,
    ⟨_, PySem.W.mg_of X G e_CALL_UNITS⟩,
    ⟨_, PySem.W.mg_of X G e_CALL_KIND⟩,
    ⟨_, PySem.W.mg_of X G e_CALL_ADD⟩,
    ⟨_, PySem.W.mg_of X G e_CALL_CLEAR⟩,
    ⟨_, PySem.W.mg_of X G e_CALL_DEP⟩,
    ⟨_, PySem.W.mg_of X G e_CALL_BOUND⟩,
    ⟨_, PySem.W.mg_of X G e_CALL_TIME⟩,
    ⟨_, PySem.W.mg_of X G e_CALL_BEST⟩,
    ⟨_, PySem.W.mg_of X G e_MOST_WIDTH⟩,
    ⟨_, PySem.W.mg_of X G e_CLASSES⟩,
    ⟨_, PySem.W.mg_of X G e_MOST_UNITS⟩,
    ⟨_, PySem.W.mg_of X G e_MOST_KINDS⟩,
    ⟨_, PySem.W.mg_of X G e_MOST_BUSY⟩,
    ⟨_, PySem.W.mg_of X G e_MOST_LATENCY⟩,
    ⟨_, PySem.W.mg_of X G e_MOST_INSTRUCTIONS⟩,
    ⟨_, PySem.W.mg_of X G e_MOST_READS⟩,
    ⟨_, PySem.W.mg_of X G e_MOST_WRITES⟩,
    ⟨_, PySem.W.mg_of X G e_REGISTERS⟩,
    ⟨_, PySem.W.mg_of X G e_MEM_NONE⟩,
    ⟨_, PySem.W.mg_of X G e_MEM_WRITES⟩,
    ⟨_, PySem.W.mg_of X G e_PLACES⟩,
    ⟨_, PySem.W.mg_of X G e_ANY_PLACE⟩,
    ⟨_, PySem.W.mg_of X G e_BIT_READS_RESULT⟩,
    ⟨_, PySem.W.mg_of X G e_BIT_WRITES_WHAT_IS_READ⟩,
    ⟨_, PySem.W.mg_of X G e_BIT_BOTH_WRITE⟩,
    ⟨_, PySem.W.mg_of X G e_BIT_MEMORY⟩,
    ⟨_, PySem.W.mg_of X G e_DONE⟩,
    ⟨_, PySem.W.mg_of X G e_REFUSED⟩,
    ⟨_, PySem.W.mg_of X G e_NOT_ACCEPTED⟩,
    PySem.W.mg_none_of X G e_all,
    PySem.W.mg_none_of X G e_any,
    PySem.W.mg_none_of X G e_dict,
    PySem.W.mg_none_of X G e_len,
    PySem.W.mg_none_of X G e_list,
    PySem.W.mg_none_of X G e_max,
    PySem.W.mg_none_of X G e_range,
    PySem.W.mg_none_of X G e_reversed,
    PySem.W.mg_none_of X G e_sorted,
    ⟨pg_Kind, hd_Kind, po_Kind, sa_Kind⟩,
    PySem.W.mg_of X G e_Kind,
    n_Kind_unit_class,
    n_Kind_busy,
    n_Kind_latency,
    ⟨mk_Kind, a_Kind_init, i_Kind_init, kc_Kind⟩,
    ⟨pg_Instruction, hd_Instruction, po_Instruction, sa_Instruction⟩,
    PySem.W.mg_of X G e_Instruction,
    n_Instruction_kind,
    n_Instruction_reads,
    n_Instruction_writes,
    n_Instruction_mem,
    n_Instruction_place,
    ⟨mk_Instruction, a_Instruction_init, i_Instruction_init, kc_Instruction⟩,
    ⟨pg_Line, hd_Line, po_Line, sa_Line⟩,
    PySem.W.mg_of X G e_Line,
    n_Line_width,
    n_Line_units,
    n_Line_kinds,
    n_Line_block,
    ⟨mk_Line, a_Line_init, i_Line_init, kc_Line⟩,
    ⟨pg_Reader, hd_Reader, po_Reader, sa_Reader⟩,
    PySem.W.mg_of X G e_Reader,
    n_Reader_numbers,
    n_Reader_at,
    ⟨mk_Reader, a_Reader_init, i_Reader_init, kc_Reader⟩,
    F_is_within,
    b_is_within,
    PySem.W.mg_of X G a_is_within,
    k_is_within,
    F_are_registers,
    b_are_registers,
    PySem.W.mg_of X G a_are_registers,
    k_are_registers,
    F_is_memory_use,
    b_is_memory_use,
    PySem.W.mg_of X G a_is_memory_use,
    k_is_memory_use,
    F_name_one_in_common,
    b_name_one_in_common,
    PySem.W.mg_of X G a_name_one_in_common,
    k_name_one_in_common,
    F_may_meet_in_memory,
    b_may_meet_in_memory,
    PySem.W.mg_of X G a_may_meet_in_memory,
    k_may_meet_in_memory,
    F_bits_between,
    b_bits_between,
    PySem.W.mg_of X G a_bits_between,
    k_bits_between,
    F_needed_cycles,
    b_needed_cycles,
    PySem.W.mg_of X G a_needed_cycles,
    k_needed_cycles,
    F_waits_of,
    b_waits_of,
    PySem.W.mg_of X G a_waits_of,
    k_waits_of,
    F_waits_in,
    b_waits_in,
    PySem.W.mg_of X G a_waits_in,
    k_waits_in,
    F_have_all_begun,
    b_have_all_begun,
    PySem.W.mg_of X G a_have_all_begun,
    k_have_all_begun,
    F_is_accepted,
    b_is_accepted,
    PySem.W.mg_of X G a_is_accepted,
    k_is_accepted,
    F_after_waits,
    b_after_waits,
    PySem.W.mg_of X G a_after_waits,
    k_after_waits,
    F_after_width,
    b_after_width,
    PySem.W.mg_of X G a_after_width,
    k_after_width,
    F_after_units,
    b_after_units,
    PySem.W.mg_of X G a_after_units,
    k_after_units,
    F_earliest_begin,
    b_earliest_begin,
    PySem.W.mg_of X G a_earliest_begin,
    k_earliest_begin,
    F_begins_in_order,
    b_begins_in_order,
    PySem.W.mg_of X G a_begins_in_order,
    k_begins_in_order,
    F_cycles_taken,
    b_cycles_taken,
    PySem.W.mg_of X G a_cycles_taken,
    k_cycles_taken,
    F_with_one_more,
    b_with_one_more,
    PySem.W.mg_of X G a_with_one_more,
    k_with_one_more,
    F_best_begins,
    b_best_begins,
    PySem.W.mg_of X G a_best_begins,
    k_best_begins,
    F_answer_width,
    b_answer_width,
    PySem.W.mg_of X G a_answer_width,
    k_answer_width,
    F_answer_units,
    b_answer_units,
    PySem.W.mg_of X G a_answer_units,
    k_answer_units,
    F_answer_kind,
    b_answer_kind,
    PySem.W.mg_of X G a_answer_kind,
    k_answer_kind,
    F_answer_add,
    b_answer_add,
    PySem.W.mg_of X G a_answer_add,
    k_answer_add,
    F_answer_dep,
    b_answer_dep,
    PySem.W.mg_of X G a_answer_dep,
    k_answer_dep,
    F_answer_number,
    b_answer_number,
    PySem.W.mg_of X G a_answer_number,
    k_answer_number,
    F_answer_call,
    b_answer_call,
    PySem.W.mg_of X G a_answer_call,
    k_answer_call,
    F_written_answer,
    b_written_answer,
    PySem.W.mg_of X G a_written_answer,
    k_written_answer,
    F_answers,
    b_answers,
    PySem.W.mg_of X G a_answers,
    k_answers,
    F_Kind_init,
    b_Kind_init,
    F_Instruction_init,
    b_Instruction_init,
    F_Line_init,
    b_Line_init,
    F_Line_begin,
    b_Line_begin,
    ⟨a_Line_begin, i_Line_begin, k_Line_begin⟩,
    F_Line_set_width,
    b_Line_set_width,
    ⟨a_Line_set_width, i_Line_set_width, k_Line_set_width⟩,
    F_Line_set_units,
    b_Line_set_units,
    ⟨a_Line_set_units, i_Line_set_units, k_Line_set_units⟩,
    F_Line_add_kind,
    b_Line_add_kind,
    ⟨a_Line_add_kind, i_Line_add_kind, k_Line_add_kind⟩,
    F_Line_add,
    b_Line_add,
    ⟨a_Line_add, i_Line_add, k_Line_add⟩,
    F_Line_clear,
    b_Line_clear,
    ⟨a_Line_clear, i_Line_clear, k_Line_clear⟩,
    F_Line_dep,
    b_Line_dep,
    ⟨a_Line_dep, i_Line_dep, k_Line_dep⟩,
    F_Line_bound,
    b_Line_bound,
    ⟨a_Line_bound, i_Line_bound, k_Line_bound⟩,
    F_Line_time,
    b_Line_time,
    ⟨a_Line_time, i_Line_time, k_Line_time⟩,
    F_Line_best,
    b_Line_best,
    ⟨a_Line_best, i_Line_best, k_Line_best⟩,
    F_Reader_init,
    b_Reader_init,
    F_Reader_has_more,
    b_Reader_has_more,
    ⟨a_Reader_has_more, i_Reader_has_more, k_Reader_has_more⟩,
    F_Reader_number,
    b_Reader_number,
    ⟨a_Reader_number, i_Reader_number, k_Reader_number⟩,
    F_Reader_row,
    b_Reader_row,
    ⟨a_Reader_row, i_Reader_row, k_Reader_row⟩⟩

end Bo
/-! Names that the head would take for twins of its heaps and trees (quadratic in their objects, and not needed): taken here, so that the compiled text stays under 64 MB. -/
theorem PySem.W.Fast.tw17202644015065698105 : True := trivial
theorem PySem.W.Fast.tw10482261194325120662 : True := trivial
theorem PySem.W.Fast.tw2429224297822731570 : True := trivial
theorem PySem.W.Fast.tw12437600112253219429 : True := trivial
theorem PySem.W.Fast.tw16624012028818968957 : True := trivial
theorem PySem.W.Fast.tw14762985498730450431 : True := trivial
theorem PySem.W.Fast.tw9411990781921002599 : True := trivial
open PySem PySem.W PyProof.Rows
set_option maxRecDepth 100000 in
set_option maxHeartbeats 0 in
theorem PySem.Challenge.cw_beginorder_s01_answers_holds : PySem.Challenge.rw_beginorder_s01_answers.Holds := by
  w_on; k_headS; (case hw => exact ⟨[.list [.int 0]], by decide +kernel, by decide +kernel⟩)
  k_fillS
  refine L2.walk_specK (r := PySem.Challenge.rw_beginorder_s01_answers) (k := 8) (CX := L2.CX0) (ps := ["calls"]) (sp := Bo.sp_answers) (by decide +kernel) rfl rfl ⟨rfl, by decide, by decide⟩ (fun w h Y => PySem.W.kIn_of Y) ?F ?S (fun _ _ _ _ z => z)
  case F =>
    intro w mg fa h Y KX G hmg
    have T : ∃ A : Bo.Adr, mg "answers" = some (.ref A.f_answers) ∧ Bo.Txt (L2.KOf KX) mg A := by
      dsimp only [L2.KOf]
      refine' Bo.txt_mk KX G ?e_CALL_INIT ?e_CALL_WIDTH ?e_CALL_UNITS ?e_CALL_KIND ?e_CALL_ADD ?e_CALL_CLEAR ?e_CALL_DEP ?e_CALL_BOUND ?e_CALL_TIME ?e_CALL_BEST ?e_MOST_WIDTH ?e_CLASSES ?e_MOST_UNITS ?e_MOST_KINDS ?e_MOST_BUSY ?e_MOST_LATENCY ?e_MOST_INSTRUCTIONS ?e_MOST_READS ?e_MOST_WRITES ?e_REGISTERS ?e_MEM_NONE ?e_MEM_WRITES ?e_PLACES ?e_ANY_PLACE ?e_BIT_READS_RESULT ?e_BIT_WRITES_WHAT_IS_READ ?e_BIT_BOTH_WRITE ?e_BIT_MEMORY ?e_DONE ?e_REFUSED ?e_NOT_ACCEPTED ?e_all ?e_any ?e_dict ?e_len ?e_list ?e_max ?e_range ?e_reversed ?e_sorted ?e_Kind ?e_Instruction ?e_Line ?e_Reader ?a_is_within ?l_is_within ?q_is_within ?k_is_within ?a_are_registers ?l_are_registers ?q_are_registers ?k_are_registers ?a_is_memory_use ?l_is_memory_use ?q_is_memory_use ?k_is_memory_use ?a_name_one_in_common ?l_name_one_in_common ?q_name_one_in_common ?k_name_one_in_common ?a_may_meet_in_memory ?l_may_meet_in_memory ?q_may_meet_in_memory ?k_may_meet_in_memory ?a_bits_between ?l_bits_between ?q_bits_between ?k_bits_between ?a_needed_cycles ?l_needed_cycles ?q_needed_cycles ?k_needed_cycles ?a_waits_of ?l_waits_of ?q_waits_of ?k_waits_of ?a_waits_in ?l_waits_in ?q_waits_in ?k_waits_in ?a_have_all_begun ?l_have_all_begun ?q_have_all_begun ?k_have_all_begun ?a_is_accepted ?l_is_accepted ?q_is_accepted ?k_is_accepted ?a_after_waits ?l_after_waits ?q_after_waits ?k_after_waits ?a_after_width ?l_after_width ?q_after_width ?k_after_width ?a_after_units ?l_after_units ?q_after_units ?k_after_units ?a_earliest_begin ?l_earliest_begin ?q_earliest_begin ?k_earliest_begin ?a_begins_in_order ?l_begins_in_order ?q_begins_in_order ?k_begins_in_order ?a_cycles_taken ?l_cycles_taken ?q_cycles_taken ?k_cycles_taken ?a_with_one_more ?l_with_one_more ?q_with_one_more ?k_with_one_more ?a_best_begins ?l_best_begins ?q_best_begins ?k_best_begins ?a_answer_width ?l_answer_width ?q_answer_width ?k_answer_width ?a_answer_units ?l_answer_units ?q_answer_units ?k_answer_units ?a_answer_kind ?l_answer_kind ?q_answer_kind ?k_answer_kind ?a_answer_add ?l_answer_add ?q_answer_add ?k_answer_add ?a_answer_dep ?l_answer_dep ?q_answer_dep ?k_answer_dep ?a_answer_number ?l_answer_number ?q_answer_number ?k_answer_number ?a_answer_call ?l_answer_call ?q_answer_call ?k_answer_call ?a_written_answer ?l_written_answer ?q_written_answer ?k_written_answer ?a_answers ?l_answers ?q_answers ?k_answers ?a_Kind_init ?i_Kind_init ?l_Kind_init ?q_Kind_init ?k_Kind_init ?a_Instruction_init ?i_Instruction_init ?l_Instruction_init ?q_Instruction_init ?k_Instruction_init ?a_Line_init ?i_Line_init ?l_Line_init ?q_Line_init ?k_Line_init ?a_Line_begin ?i_Line_begin ?l_Line_begin ?q_Line_begin ?k_Line_begin ?a_Line_set_width ?i_Line_set_width ?l_Line_set_width ?q_Line_set_width ?k_Line_set_width ?a_Line_set_units ?i_Line_set_units ?l_Line_set_units ?q_Line_set_units ?k_Line_set_units ?a_Line_add_kind ?i_Line_add_kind ?l_Line_add_kind ?q_Line_add_kind ?k_Line_add_kind ?a_Line_add ?i_Line_add ?l_Line_add ?q_Line_add ?k_Line_add ?a_Line_clear ?i_Line_clear ?l_Line_clear ?q_Line_clear ?k_Line_clear ?a_Line_dep ?i_Line_dep ?l_Line_dep ?q_Line_dep ?k_Line_dep ?a_Line_bound ?i_Line_bound ?l_Line_bound ?q_Line_bound ?k_Line_bound ?a_Line_time ?i_Line_time ?l_Line_time ?q_Line_time ?k_Line_time ?a_Line_best ?i_Line_best ?l_Line_best ?q_Line_best ?k_Line_best ?a_Reader_init ?i_Reader_init ?l_Reader_init ?q_Reader_init ?k_Reader_init ?a_Reader_has_more ?i_Reader_has_more ?l_Reader_has_more ?q_Reader_has_more ?k_Reader_has_more ?a_Reader_number ?i_Reader_number ?l_Reader_number ?q_Reader_number ?k_Reader_number ?a_Reader_row ?i_Reader_row ?l_Reader_row ?q_Reader_row ?k_Reader_row ?pg_Kind ?hd_Kind ?po_Kind ?sa_Kind ?mk_Kind ?kc_Kind ?n_Kind_unit_class ?n_Kind_busy ?n_Kind_latency ?pg_Instruction ?hd_Instruction ?po_Instruction ?sa_Instruction ?mk_Instruction ?kc_Instruction ?n_Instruction_kind ?n_Instruction_reads ?n_Instruction_writes ?n_Instruction_mem ?n_Instruction_place ?pg_Line ?hd_Line ?po_Line ?sa_Line ?mk_Line ?kc_Line ?n_Line_width ?n_Line_units ?n_Line_kinds ?n_Line_block ?pg_Reader ?hd_Reader ?po_Reader ?sa_Reader ?mk_Reader ?kc_Reader ?n_Reader_numbers ?n_Reader_at
      (case e_CALL_INIT => k_is)
      (case e_CALL_WIDTH => k_is)
      (case e_CALL_UNITS => k_is)
      (case e_CALL_KIND => k_is)
      (case e_CALL_ADD => k_is)
      (case e_CALL_CLEAR => k_is)
      (case e_CALL_DEP => k_is)
      (case e_CALL_BOUND => k_is)
      (case e_CALL_TIME => k_is)
      (case e_CALL_BEST => k_is)
      (case e_MOST_WIDTH => k_is)
      (case e_CLASSES => k_is)
      (case e_MOST_UNITS => k_is)
      (case e_MOST_KINDS => k_is)
      (case e_MOST_BUSY => k_is)
      (case e_MOST_LATENCY => k_is)
      (case e_MOST_INSTRUCTIONS => k_is)
      (case e_MOST_READS => k_is)
      (case e_MOST_WRITES => k_is)
      (case e_REGISTERS => k_is)
      (case e_MEM_NONE => k_is)
      (case e_MEM_WRITES => k_is)
      (case e_PLACES => k_is)
      (case e_ANY_PLACE => k_is)
      (case e_BIT_READS_RESULT => k_is)
      (case e_BIT_WRITES_WHAT_IS_READ => k_is)
      (case e_BIT_BOTH_WRITE => k_is)
      (case e_BIT_MEMORY => k_is)
      (case e_DONE => k_is)
      (case e_REFUSED => k_is)
      (case e_NOT_ACCEPTED => k_is)
      (case e_all => k_is)
      (case e_any => k_is)
      (case e_dict => k_is)
      (case e_len => k_is)
      (case e_list => k_is)
      (case e_max => k_is)
      (case e_range => k_is)
      (case e_reversed => k_is)
      (case e_sorted => k_is)
      (case e_Kind => k_is)
      (case e_Instruction => k_is)
      (case e_Line => k_is)
      (case e_Reader => k_is)
      (case a_is_within => k_is)
      (case l_is_within => k_is)
      (case q_is_within => k_is)
      (case k_is_within => k_is)
      (case a_are_registers => k_is)
      (case l_are_registers => k_is)
      (case q_are_registers => k_is)
      (case k_are_registers => k_is)
      (case a_is_memory_use => k_is)
      (case l_is_memory_use => k_is)
      (case q_is_memory_use => k_is)
      (case k_is_memory_use => k_is)
      (case a_name_one_in_common => k_is)
      (case l_name_one_in_common => k_is)
      (case q_name_one_in_common => k_is)
      (case k_name_one_in_common => k_is)
      (case a_may_meet_in_memory => k_is)
      (case l_may_meet_in_memory => k_is)
      (case q_may_meet_in_memory => k_is)
      (case k_may_meet_in_memory => k_is)
      (case a_bits_between => k_is)
      (case l_bits_between => k_is)
      (case q_bits_between => k_is)
      (case k_bits_between => k_is)
      (case a_needed_cycles => k_is)
      (case l_needed_cycles => k_is)
      (case q_needed_cycles => k_is)
      (case k_needed_cycles => k_is)
      (case a_waits_of => k_is)
      (case l_waits_of => k_is)
      (case q_waits_of => k_is)
      (case k_waits_of => k_is)
      (case a_waits_in => k_is)
      (case l_waits_in => k_is)
      (case q_waits_in => k_is)
      (case k_waits_in => k_is)
      (case a_have_all_begun => k_is)
      (case l_have_all_begun => k_is)
      (case q_have_all_begun => k_is)
      (case k_have_all_begun => k_is)
      (case a_is_accepted => k_is)
      (case l_is_accepted => k_is)
      (case q_is_accepted => k_is)
      (case k_is_accepted => k_is)
      (case a_after_waits => k_is)
      (case l_after_waits => k_is)
      (case q_after_waits => k_is)
      (case k_after_waits => k_is)
      (case a_after_width => k_is)
      (case l_after_width => k_is)
      (case q_after_width => k_is)
      (case k_after_width => k_is)
      (case a_after_units => k_is)
      (case l_after_units => k_is)
      (case q_after_units => k_is)
      (case k_after_units => k_is)
      (case a_earliest_begin => k_is)
      (case l_earliest_begin => k_is)
      (case q_earliest_begin => k_is)
      (case k_earliest_begin => k_is)
      (case a_begins_in_order => k_is)
      (case l_begins_in_order => k_is)
      (case q_begins_in_order => k_is)
      (case k_begins_in_order => k_is)
      (case a_cycles_taken => k_is)
      (case l_cycles_taken => k_is)
      (case q_cycles_taken => k_is)
      (case k_cycles_taken => k_is)
      (case a_with_one_more => k_is)
      (case l_with_one_more => k_is)
      (case q_with_one_more => k_is)
      (case k_with_one_more => k_is)
      (case a_best_begins => k_is)
      (case l_best_begins => k_is)
      (case q_best_begins => k_is)
      (case k_best_begins => k_is)
      (case a_answer_width => k_is)
      (case l_answer_width => k_is)
      (case q_answer_width => k_is)
      (case k_answer_width => k_is)
      (case a_answer_units => k_is)
      (case l_answer_units => k_is)
      (case q_answer_units => k_is)
      (case k_answer_units => k_is)
      (case a_answer_kind => k_is)
      (case l_answer_kind => k_is)
      (case q_answer_kind => k_is)
      (case k_answer_kind => k_is)
      (case a_answer_add => k_is)
      (case l_answer_add => k_is)
      (case q_answer_add => k_is)
      (case k_answer_add => k_is)
      (case a_answer_dep => k_is)
      (case l_answer_dep => k_is)
      (case q_answer_dep => k_is)
      (case k_answer_dep => k_is)
      (case a_answer_number => k_is)
      (case l_answer_number => k_is)
      (case q_answer_number => k_is)
      (case k_answer_number => k_is)
      (case a_answer_call => k_is)
      (case l_answer_call => k_is)
      (case q_answer_call => k_is)
      (case k_answer_call => k_is)
      (case a_written_answer => k_is)
      (case l_written_answer => k_is)
      (case q_written_answer => k_is)
      (case k_written_answer => k_is)
      (case a_answers => k_is)
      (case l_answers => k_is)
      (case q_answers => k_is)
      (case k_answers => k_is)
      (case a_Kind_init => k_is)
      (case i_Kind_init => k_is)
      (case l_Kind_init => k_is)
      (case q_Kind_init => k_is)
      (case k_Kind_init => k_is)
      (case a_Instruction_init => k_is)
      (case i_Instruction_init => k_is)
      (case l_Instruction_init => k_is)
      (case q_Instruction_init => k_is)
      (case k_Instruction_init => k_is)
      (case a_Line_init => k_is)
      (case i_Line_init => k_is)
      (case l_Line_init => k_is)
      (case q_Line_init => k_is)
      (case k_Line_init => k_is)
      (case a_Line_begin => k_is)
      (case i_Line_begin => k_is)
      (case l_Line_begin => k_is)
      (case q_Line_begin => k_is)
      (case k_Line_begin => k_is)
      (case a_Line_set_width => k_is)
      (case i_Line_set_width => k_is)
      (case l_Line_set_width => k_is)
      (case q_Line_set_width => k_is)
      (case k_Line_set_width => k_is)
      (case a_Line_set_units => k_is)
      (case i_Line_set_units => k_is)
      (case l_Line_set_units => k_is)
      (case q_Line_set_units => k_is)
      (case k_Line_set_units => k_is)
      (case a_Line_add_kind => k_is)
      (case i_Line_add_kind => k_is)
      (case l_Line_add_kind => k_is)
      (case q_Line_add_kind => k_is)
      (case k_Line_add_kind => k_is)
      (case a_Line_add => k_is)
      (case i_Line_add => k_is)
      (case l_Line_add => k_is)
      (case q_Line_add => k_is)
      (case k_Line_add => k_is)
      (case a_Line_clear => k_is)
      (case i_Line_clear => k_is)
      (case l_Line_clear => k_is)
      (case q_Line_clear => k_is)
      (case k_Line_clear => k_is)
      (case a_Line_dep => k_is)
      (case i_Line_dep => k_is)
      (case l_Line_dep => k_is)
      (case q_Line_dep => k_is)
      (case k_Line_dep => k_is)
      (case a_Line_bound => k_is)
      (case i_Line_bound => k_is)
      (case l_Line_bound => k_is)
      (case q_Line_bound => k_is)
      (case k_Line_bound => k_is)
      (case a_Line_time => k_is)
      (case i_Line_time => k_is)
      (case l_Line_time => k_is)
      (case q_Line_time => k_is)
      (case k_Line_time => k_is)
      (case a_Line_best => k_is)
      (case i_Line_best => k_is)
      (case l_Line_best => k_is)
      (case q_Line_best => k_is)
      (case k_Line_best => k_is)
      (case a_Reader_init => k_is)
      (case i_Reader_init => k_is)
      (case l_Reader_init => k_is)
      (case q_Reader_init => k_is)
      (case k_Reader_init => k_is)
      (case a_Reader_has_more => k_is)
      (case i_Reader_has_more => k_is)
      (case l_Reader_has_more => k_is)
      (case q_Reader_has_more => k_is)
      (case k_Reader_has_more => k_is)
      (case a_Reader_number => k_is)
      (case i_Reader_number => k_is)
      (case l_Reader_number => k_is)
      (case q_Reader_number => k_is)
      (case k_Reader_number => k_is)
      (case a_Reader_row => k_is)
      (case i_Reader_row => k_is)
      (case l_Reader_row => k_is)
      (case q_Reader_row => k_is)
      (case k_Reader_row => k_is)
      (case pg_Kind => k_is)
      (case hd_Kind => k_is)
      (case po_Kind => k_is)
      (case sa_Kind => k_is)
      (case mk_Kind => k_is)
      (case kc_Kind => k_is)
      (case n_Kind_unit_class => k_is)
      (case n_Kind_busy => k_is)
      (case n_Kind_latency => k_is)
      (case pg_Instruction => k_is)
      (case hd_Instruction => k_is)
      (case po_Instruction => k_is)
      (case sa_Instruction => k_is)
      (case mk_Instruction => k_is)
      (case kc_Instruction => k_is)
      (case n_Instruction_kind => k_is)
      (case n_Instruction_reads => k_is)
      (case n_Instruction_writes => k_is)
      (case n_Instruction_mem => k_is)
      (case n_Instruction_place => k_is)
      (case pg_Line => k_is)
      (case hd_Line => k_is)
      (case po_Line => k_is)
      (case sa_Line => k_is)
      (case mk_Line => k_is)
      (case kc_Line => k_is)
      (case n_Line_width => k_is)
      (case n_Line_units => k_is)
      (case n_Line_kinds => k_is)
      (case n_Line_block => k_is)
      (case pg_Reader => k_is)
      (case hd_Reader => k_is)
      (case po_Reader => k_is)
      (case sa_Reader => k_is)
      (case mk_Reader => k_is)
      (case kc_Reader => k_is)
      (case n_Reader_numbers => k_is)
      (case n_Reader_at => k_is)

    obtain ⟨A, hA, T⟩ := T
    have e := hmg.symm.trans hA
    cases e
    have F := T.F_answers
    obtain ⟨oc, od, kV, doc, pm, an, cdv, ct, osl, e, lk, hcd⟩ := F.ex
    refine ⟨A.d_answers, fun s us hu => ?_, fun base _ _ => Bo.ok_answers T⟩
    rw [e]
    exact match us, hu with | [_], _ => .of_eq rfl
  case S =>
    intro K H xs a hO hwi hask hx
    cases hx with
    | cons h1 h2 =>
      cases h2
      cases h1 with
      | lst hs ha =>
        have e := L2.ints_dw a.1 _ ha
        subst e
        have q : ((Codec.inLen 0 16000 a.1 && a.1.all (Codec.inInt 0 18446744073709551615)) && true) = true := hwi
        rw [Bool.and_eq_true, Bool.and_eq_true] at q
        exact ⟨_, a.1, rfl, hs, (Codec.inNat_iff.mp q.1.1).2, hask, fun H' p hp => .lst (L2.SqL.of hp) (L2.dw_ints _)⟩

