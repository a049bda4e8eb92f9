import PyProof.Rows.All
import Wide.All
import OpenK.AllK
import Wide.FinOn
import Lean
import PyProof.EqAt
import PyProof.EqKinds
import PyProof.TupleCall
import KE.KRevIter
import KE.KDictList
import KE.KSortTup
import PyProof.Rows.SetFrom
import PySem.Challenge.RW_hillcut_k10_whole_rope
set_option Elab.async false
set_option linter.all false
set_option maxRecDepth 100000
namespace L2
open PySem PySem.Spec PyProof.Rows

/-- a key: an int or a str -/
abbrev Key := Sum Int Str
def keyIs : Key → Value → Bool
  | .inl k, v => Value.isInt k v
  | .inr x, v => Value.isStrOf x v
def keyH (w : World) : Key → Int
  | .inl k => hashInt k
  | .inr x => hashStr w x
theorem keyIs_shape : ∀ {k : Key} {v : Value}, keyIs k v = true → (∃ i t, k = Sum.inl i ∧ v = Value.int i t) ∨ (∃ x t, k = Sum.inr x ∧ v = Value.str x t)
  | .inl i, v, h => by
    obtain ⟨t, e⟩ := Value.isInt_shape (k := i) (v := v) h
    exact .inl ⟨i, t, rfl, e⟩
  | .inr x, v, h => by
    obtain ⟨t, e⟩ := Value.isStrOf_shape (x := x) (v := v) h
    exact .inr ⟨x, t, rfl, e⟩
theorem keyIs_int (i : Int) (t : Tok) : keyIs (.inl i) (.int i t) = true := by simp [keyIs, Value.isInt]
theorem keyIs_str (x : Str) (t : Tok) : keyIs (.inr x) (.str x t) = true := by simp [keyIs, Value.isStrOf]
theorem key_ll (a b : Int) : decide ((Sum.inl a : Key) = Sum.inl b) = (a == b) := by
  by_cases e : a = b
  · subst e; simp
  · have h : ¬ (Sum.inl a : Key) = Sum.inl b := fun q => e (Sum.inl.inj q)
    rw [decide_eq_false h]
    exact (beq_eq_false_iff_ne.mpr e).symm
theorem key_rr (a b : Str) : decide ((Sum.inr a : Key) = Sum.inr b) = decide (a = b) := by
  by_cases e : a = b
  · subst e; simp
  · have h : ¬ (Sum.inr a : Key) = Sum.inr b := fun q => e (Sum.inr.inj q)
    rw [decide_eq_false h, decide_eq_false e]
theorem key_lr (a : Int) (b : Str) : decide ((Sum.inl a : Key) = Sum.inr b) = false := decide_eq_false (fun q => nomatch q)
theorem key_rl (a : Str) (b : Int) : decide ((Sum.inr a : Key) = Sum.inl b) = false := decide_eq_false (fun q => nomatch q)

def mixKind (prog : Program) (w : World) : PySem.KeyKind prog w Key where
  is := keyIs
  hash := keyH w
  inj := fun v a b ha hb => by
    rcases keyIs_shape ha with ⟨i, t, rfl, rfl⟩ | ⟨x, t, rfl, rfl⟩
    · rcases keyIs_shape hb with ⟨j, u, rfl, e⟩ | ⟨y, u, rfl, e⟩
      · injection e with e1 _; rw [e1]
      · exact nomatch e
    · rcases keyIs_shape hb with ⟨j, u, rfl, e⟩ | ⟨y, u, rfl, e⟩
      · exact nomatch e
      · injection e with e1 _; rw [e1]
  byValue := fun k v h => by
    rcases keyIs_shape h with ⟨i, t, rfl, rfl⟩ | ⟨x, t, rfl, rfl⟩ <;> rfl
  pyHash := fun hv h => by
    rcases keyIs_shape hv with ⟨i, t, rfl, rfl⟩ | ⟨x, t, rfl, rfl⟩
    · exact wpAny_pyHash_int h
    · exact wpAny_pyHash_str h
  eqBool := fun hu hv h => by
    rcases keyIs_shape hu with ⟨i, t, rfl, rfl⟩ | ⟨x, t, rfl, rfl⟩
    · rcases keyIs_shape hv with ⟨j, u, rfl, rfl⟩ | ⟨y, u, rfl, rfl⟩
      · rw [key_ll] at h; exact wpAny_eqBool_int h
      · rw [key_lr] at h; exact SeqAt.EqAt.int_str i t y u _ _ _ _ h
    · rcases keyIs_shape hv with ⟨j, u, rfl, rfl⟩ | ⟨y, u, rfl, rfl⟩
      · rw [key_rl] at h; exact SeqAt.EqAt.str_int x t j u _ _ _ _ h
      · rw [key_rr] at h; exact wpAny_eqBool_str h
  «strs» := fun k x t v h => by
    rcases keyIs_shape h with ⟨i, u, rfl, e⟩ | ⟨y, u, rfl, e⟩
    · exact nomatch e
    · injection e with e1 _
      subst e1
      cases v <;> rfl

theorem mixKind_is (prog : Program) (w : World) (k : Key) (v : Value) : (mixKind prog w).is k v = keyIs k v := rfl
theorem mixKind_int (prog : Program) (w : World) (i : Int) (t : Tok) : (mixKind prog w).is (.inl i) (.int i t) = true := keyIs_int i t
theorem mixKind_str (prog : Program) (w : World) (x : Str) (t : Tok) : (mixKind prog w).is (.inr x) (.str x t) = true := keyIs_str x t
end L2

namespace L2
open PySem PySem.Spec PyProof.Rows

/-- a value, without the heap -/
inductive V where
  | non | bl (b : Bool) | int (i : Int) | str (x : Str) | byt (b : Array UInt8) | flt (b : UInt64) | ref (a : Addr) | ty (n : String)
  deriving DecidableEq

def RelV : V → Value → Prop
  | .non, u => u = Value.none
  | .bl b, u => u = Value.bool b
  | .int i, u => ∃ t, u = Value.int i t
  | .str x, u => ∃ t, u = Value.str x t
  | .byt b, u => ∃ t, u = Value.bytes b t
  | .flt b, u => ∃ t, u = Value.float b t
  | .ref a, u => u = Value.ref a
  | .ty n, u => u = Value.type n

abbrev Vals : List V → List Value → Prop := Paired RelV
theorem Vals.length {xs : List V} {us : List Value} (r : Vals xs us) : xs.length = us.length := Paired.length r
theorem Vals.get : ∀ {xs : List V} {us : List Value} {i : Nat} {x : V}, Vals xs us → xs[i]? = some x → ∃ u, us[i]? = some u ∧ RelV x u
  | _, _, _, _, .nil, e => by simp at e
  | _, _, 0, _, .cons r _, e => by simp at e; subst e; exact ⟨_, rfl, r⟩
  | _, _, i + 1, x, .cons _ t, e => by
    obtain ⟨u, h1, h2⟩ := Vals.get (i := i) (x := x) t (by simpa using e)
    exact ⟨u, by simpa using h1, h2⟩
theorem Vals.set {x : V} {u : Value} (r : RelV x u) : ∀ {xs : List V} {us : List Value} (i : Nat), Vals xs us → Vals (xs.set i x) (us.set i u)
  | _, _, _, .nil => .nil
  | _, _, 0, .cons _ t => .cons r t
  | _, _, i + 1, .cons q t => .cons q (Vals.set r i t)
theorem Vals.append : ∀ {xs ys : List V} {us ws : List Value}, Vals xs us → Vals ys ws → Vals (xs ++ ys) (us ++ ws)
  | _, _, _, _, .nil, s => s
  | _, _, _, _, .cons r t, s => .cons r (Vals.append t s)
theorem Vals.take : ∀ {xs : List V} {us : List Value} (n : Nat), Vals xs us → Vals (xs.take n) (us.take n)
  | _, _, 0, _ => .nil
  | _, _, _ + 1, .nil => .nil
  | _, _, n + 1, .cons r t => .cons r (Vals.take n t)
theorem Vals.drop : ∀ {xs : List V} {us : List Value} (n : Nat), Vals xs us → Vals (xs.drop n) (us.drop n)
  | _, _, 0, r => r
  | _, _, _ + 1, .nil => .nil
  | _, _, n + 1, .cons _ t => Vals.drop n t
theorem Vals.none_of : ∀ {xs : List V} {us : List Value} {i : Nat}, Vals xs us → xs[i]? = none → us[i]? = none := fun {xs us i} r e => by
  have h1 := r.length
  have h2 : xs.length ≤ i := List.getElem?_eq_none_iff.mp e
  exact List.getElem?_eq_none_iff.mpr (by omega)

def RelO : Option V → Option Value → Prop
  | some v, some u => RelV v u
  | none, none => True
  | _, _ => False
def KV {κ : Type} : List (κ × V) → List (κ × Value) → Prop := Paired fun (p : κ × V) (q : κ × Value) => p.1 = q.1 ∧ RelV p.2 q.2

/-- a key of a dict (00_mix): an int or a text -/
def kV : Key → V
  | .inl i => .int i
  | .inr x => .str x

/-- what stands at a tracked address -/
inductive HO where
  /-- a list -/
  | lst (xs : List V)
  /-- a tuple (never changes) -/
  | tup (xs : List V)
  /-- a dict whose keys are ints and texts; one whose keys are tuples of ints and texts (the empty one is both) -/
  | dK (kvs : List (Key × V)) | dT (kvs : List (List Key × V))
  /-- a set of ints: its members, its size -/
  | set (S : Int → Bool) (n : Nat)
  /-- an instance of the class at C, its dict at dx, its attributes -/
  | ins (C dx : Addr) (fs : List (Str × V))
  /-- the dict of the instance at x -/
  | own (x : Addr)
  /-- the dict of an exception -/
  | xd (fs : List (Str × V))
  /-- a bound method, f of x -/
  | met (f x : Addr)
  /-- a range object lo, lo + 1, .. below hi -/
  | rng (lo hi : Int)
  /-- a thing that is known to the object (the script; a dict while a loop walks it): read, never written while it is so -/
  | frz (o : Obj) (u : HO)
  /-- a code object's table -/
  | tbl (ps : Array Value)
  /-- any other thing, by what is true of its one object (a def of one's own: SetO a S n := HO.ext fun h => ..) -/
  | ext (φ : Heap → Prop)

abbrev Hp := Addr → Option HO
def upd (H : Hp) (a : Addr) (o : HO) : Hp := fun b => if b = a then some o else H b
theorem upd_same {H : Hp} {a : Addr} {o : HO} : upd H a o a = some o := by unfold upd; rw [if_pos rfl]
theorem upd_ne {H : Hp} {a b : Addr} {o : HO} (h : b ≠ a) : upd H a o b = H b := by unfold upd; rw [if_neg h]
theorem upd_upd {H : Hp} {a : Addr} {o u : HO} : upd (upd H a o) a u = upd H a u := by
  funext b; unfold upd; split <;> rfl
/-- two objects of different content stand apart -/
theorem ne_of {H : Hp} {a b : Addr} {o u : HO} (h : H a = some o) (h' : H b = some u) (d : o ≠ u) : a ≠ b := by
  intro e; subst e; rw [h] at h'; exact d (Option.some.inj h')
theorem ne_of_none {H : Hp} {a b : Addr} {o : HO} (h : H a = some o) (h' : H b = none) : a ≠ b := by
  intro e; subst e; rw [h] at h'; cases h'

section
variable (P : Program) (w : World)
def ObjOk (H : Hp) (h : Heap) (a : Addr) : HO → Prop
  | .lst xs => xs.length ≤ sizeLine ∧ ∃ (its : List Value) (n : Nat), Vals xs its ∧ h.get? a = some { cls := .type "list", data := .seq its.toArray n }
  | .tup xs => xs.length ≤ sizeLine ∧ ∃ its : List Value, Vals xs its ∧ IsTup h a its.toArray
  | .dK kvs => kvs.length ≤ sizeLine ∧ (a == sysModules) = false ∧ ∃ vs, KV kvs vs ∧ h.DictOf (mixKind P w) a vs
  | .dT kvs => kvs.length ≤ sizeLine ∧ (a == sysModules) = false ∧ ∃ xs : List (List Key × Addr × Value),
      Paired (fun (p : List Key × V) (q : List Key × Addr × Value) => p.1 = q.1 ∧ H q.2.1 = some (.tup (p.1.map kV)) ∧ RelV p.2 q.2.2) kvs xs ∧
      ∃ o es ep, h.get? a = some o ∧ o.ExactDict ∧ o.data = .dict es ep ∧ es.toList = xs.map (entryOfKey (tupleKind (mixKind P w))) ∧ (xs.map (·.1)).Nodup
  | .set S n => h.SetOf (intKind P w) a S n
  | .ins C dx fs => H dx = some (.own a) ∧ fs.length ≤ 1000 ∧ dx ≠ a ∧ h.get? a = some (PySem.W.instObj C dx) ∧
      ∃ mA, h.Ns1 dx mA ∧ (∀ f, RelO (fs.lookup f) (mA f)) ∧ PySem.Within mA (fs.map (·.1))
  | .own _ => ∃ o, h.get? a = some o
  | .xd fs => ∃ mA, h.Ns1 a mA ∧ ∀ f, RelO (fs.lookup f) (mA f)
  | .rng lo hi => ∃ t u v, h.get? a = some { cls := .type "range", data := .fields #[.int lo t, .int hi u, .int 1 v] }
  | .frz o u => h.get? a = some o ∧ ObjOk H h a u
  | .tbl ps => h.get? a = some { cls := .none, data := .fields ps }
  | .met f x => h.get? a = some (PySem.W.methodObj (.ref f) (.ref x))
  | .ext φ => φ h ∧ (∃ o, h.get? a = some o) ∧ ∀ h1 h2 : Heap, φ h1 → (∀ o, h1.get? a = some o → h2.get? a = some o) → φ h2
/-- the abstract heap is held -/
def HOk (H : Hp) (h : Heap) : Prop := ∀ a o, H a = some o → ObjOk P w H h a o
end

section
variable {P : Program} {w : World} {H H' : Hp} {h h' : Heap} {a : Addr} {o : HO}
theorem ObjOk.lt (x : ObjOk P w H h a o) : a < h.objs.size := by
  cases o with
  | lst xs => obtain ⟨_, _, _, _, e⟩ := x; exact Heap.lt_size e
  | tup xs => obtain ⟨_, _, _, p⟩ := x; exact p.lt
  | dK kvs => obtain ⟨_, _, _, _, o, _, _, e, _⟩ := x; exact Heap.lt_size e
  | dT kvs => obtain ⟨_, _, _, _, o, _, _, e, _⟩ := x; exact Heap.lt_size e
  | set S n => obtain ⟨o, _, _, _, e, _⟩ := x; exact Heap.lt_size e
  | ins C dx fs => obtain ⟨_, _, _, e, _⟩ := x; exact Heap.lt_size e
  | own y => obtain ⟨_, e⟩ := x; exact Heap.lt_size e
  | xd fs => obtain ⟨_, ⟨_, _, _, e, _⟩, _⟩ := x; exact Heap.lt_size e
  | rng lo hi => obtain ⟨_, _, _, e⟩ := x; exact Heap.lt_size e
  | frz ob u => obtain ⟨e, _⟩ := x; exact Heap.lt_size e
  | tbl ps => exact Heap.lt_size (show h.get? a = some _ from x)
  | met f y => exact Heap.lt_size (show h.get? a = some _ from x)
  | ext φ => obtain ⟨_, ⟨_, e⟩, _⟩ := x; exact Heap.lt_size e
theorem Paired.mapP {α β : Type} {F G : α → β → Prop} : ∀ {l₁ : List α} {l₂ : List β}, Paired F l₁ l₂ → (∀ a b, F a b → G a b) → Paired G l₁ l₂
  | _, _, .nil, _ => .nil
  | _, _, .cons r t, f => .cons (f _ _ r) (Paired.mapP t f)
theorem Paired.imp' {α β : Type} {F G : α → β → Prop} (f : ∀ a b, F a b → G a b) {l₁ : List α} {l₂ : List β} (r : Paired F l₁ l₂) : Paired G l₁ l₂ := Paired.mapP r f
/-- what an object's description leans on: its own object, its own dict, the tuples -/
theorem ObjOk.stay (x : ObjOk P w H h a o) (k : ∀ b u, (b = a ∨ H b = some (.own a)) → h.get? b = some u → h'.get? b = some u)
    (ho : ∀ b, H b = some (.own a) → H' b = some (.own a)) (ht : ∀ b xs, H b = some (.tup xs) → H' b = some (.tup xs)) : ObjOk P w H' h' a o := by
  induction o with
  | lst xs => obtain ⟨z, its, n, r, e⟩ := x; exact ⟨z, its, n, r, k _ _ (.inl rfl) e⟩
  | tup xs => obtain ⟨z, its, r, ob, e, c⟩ := x; exact ⟨z, its, r, ob, k _ _ (.inl rfl) e, c⟩
  | dK kvs => obtain ⟨z, y, vs, r, ob, es, ep, e, c⟩ := x; exact ⟨z, y, vs, r, ob, es, ep, k _ _ (.inl rfl) e, c⟩
  | dT kvs =>
    obtain ⟨z, y, xs, r, ob, es, ep, e, c⟩ := x
    exact ⟨z, y, xs, Paired.mapP r fun p q z => ⟨z.1, ht _ _ z.2.1, z.2.2⟩, ob, es, ep, k _ _ (.inl rfl) e, c⟩
  | set S n => obtain ⟨ob, es, ep, t, e, c⟩ := x; exact ⟨ob, es, ep, t, k _ _ (.inl rfl) e, c⟩
  | ins C dx fs =>
    obtain ⟨d, z, ne, e, mA, ⟨od, es, ep, e2, c⟩, r⟩ := x
    exact ⟨ho _ d, z, ne, k _ _ (.inl rfl) e, mA, ⟨od, es, ep, k _ _ (.inr d) e2, c⟩, r⟩
  | own y => obtain ⟨ob, e⟩ := x; exact ⟨ob, k _ _ (.inl rfl) e⟩
  | xd fs => obtain ⟨mA, ⟨od, es, ep, e, c⟩, r⟩ := x; exact ⟨mA, ⟨od, es, ep, k _ _ (.inl rfl) e, c⟩, r⟩
  | rng lo hi => obtain ⟨t, u, v, e⟩ := x; exact ⟨t, u, v, k _ _ (.inl rfl) e⟩
  | frz ob u ih => obtain ⟨e, q⟩ := x; exact ⟨k _ _ (.inl rfl) e, ih q⟩
  | tbl ps =>
    have e : h.get? a = some { cls := .none, data := .fields ps } := x
    show h'.get? a = some { cls := .none, data := .fields ps }
    exact k a _ (.inl rfl) e
  | met f y =>
    have e : h.get? a = some (PySem.W.methodObj (.ref f) (.ref y)) := x
    show h'.get? a = some (PySem.W.methodObj (.ref f) (.ref y))
    exact k a _ (.inl rfl) e
  | ext φ => obtain ⟨p, ⟨o, e⟩, st⟩ := x; exact ⟨st _ _ p fun o q => k _ _ (.inl rfl) q, ⟨o, k _ _ (.inl rfl) e⟩, st⟩
theorem HOk.lt (x : HOk P w H h) (e : H a = some o) : a < h.objs.size := (x a o e).lt
theorem HOk.fresh (x : HOk P w H h) (e : h.objs.size ≤ a) : H a = none := by
  cases q : H a with
  | none => rfl
  | some u => exact absurd (Nat.lt_of_lt_of_le (x.lt q) e) (Nat.lt_irrefl _)
/-- every object of the heap is kept -/
theorem HOk.kept (x : HOk P w H h) (k : ∀ b u, h.get? b = some u → h'.get? b = some u) : HOk P w H h' := fun a o e =>
  (x a o e).stay (fun b u _ q => k b u q) (fun _ q => q) fun _ _ q => q
/-- a new object is laid and tracked -/
theorem HOk.laid (x : HOk P w H h) (k : ∀ b u, h.get? b = some u → h'.get? b = some u) (hp : h.objs.size ≤ a) (new : ObjOk P w (upd H a o) h' a o) : HOk P w (upd H a o) h' := fun b u e => by
  have hn := x.fresh hp
  by_cases hb : b = a
  · subst hb; rw [upd_same] at e; cases e; exact new
  · rw [upd_ne hb] at e
    exact (x b u e).stay (fun c v _ q => k c v q) (fun c q => by rw [upd_ne (ne_of_none q hn)]; exact q) fun c xs q => by rw [upd_ne (ne_of_none q hn)]; exact q
end

/-- what may be read as u: it is u, or a known u -/
def Rd (H : Hp) (a : Addr) (u : HO) : Prop := H a = some u ∨ ∃ o, H a = some (.frz o u)
theorem Rd.of {H : Hp} {a : Addr} {u : HO} (h : H a = some u) : Rd H a u := .inl h
theorem Rd.ok {P : Program} {w : World} {H : Hp} {h : Heap} {a : Addr} {u : HO} (r : Rd H a u) (x : HOk P w H h) : ObjOk P w H h a u := by
  rcases r with r | ⟨o, r⟩
  · exact x a u r
  · obtain ⟨_, q⟩ := x a _ r
    exact q
/-- what may be written -/
def Mut : Option HO → Prop
  | some (.lst _) => True
  | some (.dK _) => True
  | some (.dT _) => True
  | some (.set _ _) => True
  | some (.ins _ _ _) => True
  | some (.ext _) => True
  | _ => False
section
variable {P : Program} {w : World} {H : Hp} {h h' : Heap} {x e : Addr} {o' : HO}
/-- the object at e is changed: x itself, or the dict of the instance x -/
theorem HOk.write (ok : HOk P w H h) (mu : Mut (H x)) (he : e = x ∨ H e = some (.own x)) (k : ∀ b u, b ≠ e → h.get? b = some u → h'.get? b = some u) (heo : ∃ u, h'.get? e = some u)
    (new : ObjOk P w (upd H x o') h' x o') : HOk P w (upd H x o') h' := fun b u q => by
  have nown : ∀ c y, H c = some (.own y) → c ≠ x := fun c y r z => by subst z; rw [r] at mu; exact mu
  have ntup : ∀ c xs, H c = some (.tup xs) → c ≠ x := fun c xs r z => by subst z; rw [r] at mu; exact mu
  by_cases hb : b = x
  · subst hb; rw [upd_same] at q; cases q; exact new
  · rw [upd_ne hb] at q
    by_cases hbe : b = e
    · have q' : H b = some (.own x) := by
        rcases he with z | z
        · exact absurd (hbe.trans z) hb
        · rw [hbe]; exact z
      rw [q] at q'; cases q'
      obtain ⟨v, hv⟩ := heo
      exact ⟨v, by rw [hbe]; exact hv⟩
    · refine (ok b u q).stay (fun c v hc r => k c v ?_ r) (fun c r => by rw [upd_ne (nown c b r)]; exact r) fun c xs r => by rw [upd_ne (ntup c xs r)]; exact r
      rcases hc with rfl | hc
      · exact hbe
      · rintro rfl
        rcases he with z | z
        · exact nown c b hc z
        · rw [hc] at z; cases z; exact hb rfl
end

/-! ### kept unless tracked; of the frames at fs (the callers') the slots may change (an exception that passes writes there); of the records at ex (iterators) nothing is said -/
structure Un (fs ex : List Addr) (H H' : Hp) (h h' : Heap) : Prop where
  keep : ∀ b o, h.get? b = some o → H b = none → b ∉ fs → b ∉ ex → h'.get? b = some o
  slot : ∀ b o, h.get? b = some o → H b = none → b ∈ fs → b ∉ ex → ∃ sl, h'.get? b = some { o with slots := sl }
  free : ∀ b o, h.get? b = some o → H b = none → b ∉ ex → H' b = none
  there : ∀ b o, h.get? b = some o → b ∉ ex → ∃ o', h'.get? b = some o'
  tups : ∀ b xs, H b = some (.tup xs) → H' b = some (.tup xs)
  frzs : ∀ b o u, H b = some (.frz o u) → H' b = some (.frz o u)
  tbls : ∀ b ps, H b = some (.tbl ps) → ∃ more, H' b = some (.tbl (ps ++ more))
section
variable {fs fs' ex ex' : List Addr} {H H1 H2 : Hp} {h h1 h2 h' : Heap} {a x e : Addr} {o : HO}
theorem Un.any (u : Un fs ex H H1 h h1) {b : Addr} {ob : Obj} (q : h.get? b = some ob) (n : H b = none) (hx : b ∉ ex) : ∃ sl, h1.get? b = some { ob with slots := sl } := by
  by_cases hb : b ∈ fs
  · exact u.slot b ob q n hb hx
  · exact ⟨ob.slots, u.keep b ob q n hb hx⟩
theorem Un.trans (a : Un fs ex H H1 h h1) (b : Un fs ex H1 H2 h1 h2) : Un fs ex H H2 h h2 where
  keep := fun c ob q n hc hx => b.keep c ob (a.keep c ob q n hc hx) (a.free c ob q n hx) hc hx
  slot := fun c ob q n hc hx => by
    obtain ⟨sl, e1⟩ := a.slot c ob q n hc hx
    obtain ⟨sl', e2⟩ := b.slot c _ e1 (a.free c ob q n hx) hc hx
    exact ⟨sl', e2⟩
  free := fun c ob q n hx => by
    obtain ⟨o', e1⟩ := a.there c ob q hx
    exact b.free c o' e1 (a.free c ob q n hx) hx
  there := fun c ob q hx => by
    obtain ⟨o', e1⟩ := a.there c ob q hx
    exact b.there c o' e1 hx
  tups := fun c xs q => b.tups c xs (a.tups c xs q)
  frzs := fun c ob xs q => b.frzs c ob xs (a.frzs c ob xs q)
  tbls := fun c ps q => by
    obtain ⟨m1, e1⟩ := a.tbls c ps q
    obtain ⟨m2, e2⟩ := b.tbls c _ e1
    exact ⟨m1 ++ m2, by rw [e2, Array.append_assoc]⟩
theorem Un.kept (k : ∀ b u, h.get? b = some u → h'.get? b = some u) : Un fs ex H H h h' :=
  ⟨fun b ob q _ _ _ => k b ob q, fun b ob q _ _ _ => ⟨ob.slots, k b ob q⟩, fun _ _ _ n _ => n, fun b ob q _ => ⟨ob, k b ob q⟩, fun _ _ q => q, fun _ _ _ q => q, fun _ ps q => ⟨#[], by rw [q]; simp⟩⟩
theorem Un.refl : Un fs ex H H h h := Un.kept fun _ _ q => q
theorem Un.laid (k : ∀ b u, h.get? b = some u → h'.get? b = some u) (hp : h.objs.size ≤ a) (hn : H a = none) : Un fs ex H (upd H a o) h h' where
  keep := fun b u q _ _ _ => k b u q
  slot := fun b u q _ _ _ => ⟨u.slots, k b u q⟩
  free := fun b u q n _ => by rw [upd_ne (Nat.ne_of_lt (Nat.lt_of_lt_of_le (Heap.lt_size q) hp))]; exact n
  there := fun b u q _ => ⟨u, k b u q⟩
  tups := fun b xs q => by rw [upd_ne (ne_of_none q hn)]; exact q
  frzs := fun b u xs q => by rw [upd_ne (ne_of_none q hn)]; exact q
  tbls := fun b ps q => ⟨#[], by rw [upd_ne (ne_of_none q hn), q]; simp⟩
theorem Un.write (mu : Mut (H x)) (he : e = x ∨ H e = some (.own x)) (k : ∀ b u, b ≠ e → h.get? b = some u → h'.get? b = some u) (heo : ∃ u, h'.get? e = some u) : Un fs ex H (upd H x o) h h' := by
  have hx : ∀ b, H b = none → b ≠ x := fun b n z => by subst z; rw [n] at mu; exact mu
  have hb : ∀ b, H b = none → b ≠ e := fun b n z => by
    subst z
    rcases he with r | r
    · exact hx b n r
    · rw [n] at r; cases r
  have hm : ∀ b u, H b = some u → ¬ Mut (some u) → b ≠ x := fun b u q nm z => by subst z; rw [q] at mu; exact nm mu
  refine ⟨fun b u q n _ _ => k b u (hb b n) q, fun b u q n _ _ => ⟨u.slots, k b u (hb b n) q⟩, fun b u q n _ => by rw [upd_ne (hx b n)]; exact n, fun b u q _ => ?_,
    fun b xs q => by rw [upd_ne (hm b _ q fun z => z)]; exact q, fun b u xs q => by rw [upd_ne (hm b _ q fun z => z)]; exact q, fun b ps q => ⟨#[], by rw [upd_ne (hm b _ q fun z => z), q]; simp⟩⟩
  by_cases hbe : b = e
  · subst hbe; exact heo
  · exact ⟨u, k b u hbe q⟩
theorem Un.mono (u : Un fs ex H H1 h h1) (hs : ∀ b ∈ fs, b ∈ fs') (hx : ∀ b ∈ ex, b ∈ ex') : Un fs' ex' H H1 h h1 :=
  ⟨fun b ob q n hb he => u.keep b ob q n (fun z => hb (hs b z)) fun z => he (hx b z), fun _ _ q n _ he => u.any q n fun z => he (hx _ z), fun b ob q n he => u.free b ob q n fun z => he (hx b z), fun b ob q he => u.there b ob q fun z => he (hx b z), u.tups, u.frzs, u.tbls⟩
end

/-! ### the heap without what is tracked -/
def trk (h : Heap) (H : Hp) : List Addr := (List.range h.objs.size).filter fun a => (H a).isSome
def hidT (h : Heap) (H : Hp) : Heap := PySem.W.hideAll h (trk h H)
theorem hidT_size (h : Heap) (H : Hp) : (hidT h H).objs.size = h.objs.size := PySem.W.hideAll_size _ _
theorem hidT_get {h : Heap} {H : Hp} {b : Addr} {o : Obj} (e : h.get? b = some o) (n : H b = none) : (hidT h H).get? b = some o :=
  PySem.W.hideAll_get _ e fun hm => by
    have q : (H b).isSome = true := (List.mem_filter.mp hm).2
    rw [n] at q; simp at q
theorem of_hidT {h : Heap} {H : Hp} {b : Addr} {o : Obj} (e : (hidT h H).get? b = some o) : h.get? b = some o ∧ H b = none := by
  have e' : h.get? b = some o := PySem.W.of_hideAll (trk h H) e
  refine ⟨e', ?_⟩
  cases q : H b with
  | none => rfl
  | some x =>
    have hm : b ∈ trk h H := List.mem_filter.mpr ⟨List.mem_range.mpr (Heap.lt_size e'), by simp [q]⟩
    have z : (hidT h H).get? b = none := PySem.W.hideAll_none (trk h H) hm
    rw [z] at e; cases e

/-! ### OpenK's ledger, filled with every new object but one -/
def allNews (g h : Heap) (L : Addr) : List (Addr × Obj) := (List.range h.objs.size).filterMap fun a => if a = L ∨ (g.get? a).isSome = true then none else (h.get? a).map fun o => (a, o)
theorem mem_allNews {g h : Heap} {L a : Addr} {o : Obj} (h1 : a ≠ L) (h2 : g.get? a = none) (h3 : h.get? a = some o) : (a, o) ∈ allNews g h L :=
  List.mem_filterMap.mpr ⟨a, List.mem_range.mpr (Heap.lt_size h3), by simp [h1, h2, h3]⟩
theorem of_mem_allNews {g h : Heap} {L : Addr} {p : Addr × Obj} (hp : p ∈ allNews g h L) : p.1 ≠ L ∧ g.get? p.1 = none ∧ h.get? p.1 = some p.2 := by
  obtain ⟨b, _, e⟩ := List.mem_filterMap.mp hp
  split at e
  · cases e
  · rename_i hn
    cases q : h.get? b with
    | none => rw [q] at e; simp at e
    | some u =>
      rw [q] at e
      simp only [Option.map_some, Option.some.injEq] at e
      subst e
      refine ⟨fun z => hn (.inl z), ?_, q⟩
      show g.get? b = none
      cases r : g.get? b with
      | none => rfl
      | some v => exact (hn (.inr (by simp [r]))).elim
def rest (g h : Heap) (L d : Addr) : List (Addr × Obj) := (allNews g h L).filter fun p => decide (p.1 ≠ d)
theorem rest_ne {g h : Heap} {L d : Addr} : ∀ p ∈ rest g h L d, p.1 ≠ d := fun p hp => of_decide_eq_true (List.mem_filter.mp hp).2
theorem mem_rest {g h : Heap} {L d a : Addr} {o : Obj} (h1 : a ≠ L) (h2 : g.get? a = none) (h3 : h.get? a = some o) (h4 : a ≠ d) : (a, o) ∈ rest g h L d :=
  List.mem_filter.mpr ⟨mem_allNews h1 h2 h3, decide_eq_true h4⟩
theorem news_all {g h : Heap} {L : Addr} : News g L h (allNews g h L) := fun p hp => let ⟨a, b, c⟩ := of_mem_allNews hp; ⟨c, a, b⟩
theorem news_at {g h : Heap} {L d : Addr} {o : Obj} (h1 : d ≠ L) (h2 : g.get? d = none) (h3 : h.get? d = some o) : News g L h ((d, o) :: rest g h L d) := fun p hp => by
  rcases List.mem_cons.mp hp with rfl | hp
  · exact ⟨h3, h1, h2⟩
  · exact news_all p (List.mem_filter.mp hp).1
/-- behind a rule that changed d alone: all else but the frame is kept -/
theorem kept_of_news {g h h' : Heap} {L d : Addr} {m : Str → Option Value} (k : ∀ b o, g.get? b = some o → h.get? b = some o) (F : Fr g L h' m) (N : News g L h' (rest g h L d)) :
    ∀ b o, b ≠ L → b ≠ d → h.get? b = some o → h'.get? b = some o := fun b o h1 h2 e => by
  cases q : g.get? b with
  | some u =>
    have := k b u q
    rw [e] at this; cases this
    exact F.keep b _ q
  | none => exact (N (b, o) (mem_rest h1 q e h2)).1
end L2

namespace L2
open PySem PySem.Spec PyProof.Rows

/-- the module's facts, over the base: the heap at the law's entry without what is tracked there -/
structure Mod (K : PySem.W.Frag) (mg : Str → Option Value) (base : Heap) : Prop where
  kin : K.In base
  glob : base.Ns mainGlobals mg
  blt : ∃ mb, base.Ns builtinsNs mb ∧ ∀ x : Str, x ≠ "__name__" → mb x = bootBuiltins x
  nolimit : base.NoLimit

/-- the context: a def's body (or a comprehension's block) running. base: fixed through the whole law; s₀, H₀: the entry; outer: the frames whose slots others may change (a def's callers); stack: all frames that run;
   ex: iterators that were made ahead of the entry and are walked here (a comprehension's); fn: the names whose cells were made at the entry (a def: all; a comprehension's block: its own); calm: not within an except suite; pn: pins that every state bears; xe: what is wanted of an exception that leaves the code -/
structure Cx where
  prog : Program
  w : World
  K : PySem.W.Frag
  mg : Str → Option Value
  base : Heap
  A : Around
  N : List Str
  s₀ : Shared
  H₀ : Hp
  env : Env
  outer : List Env
  stack : List Env
  ex : List Addr
  fn : Str → Bool
  calm : Bool
  pn : List (Addr × Obj)
  xe : Value → Shared → Prop
/-- the callers' frames -/
def frs (l : List Env) : List Addr := l.filterMap (·.frame)
abbrev Cx.fs (X : Cx) : List Addr := frs X.outer

def Vis (sc : Scope) (x : Str) : Prop := sc.names.lookup x = some .local ∨ sc.names.lookup x = some .cell ∨ sc.names.lookup x = some .free
def Loc (sc : Scope) (x : Str) : Prop := sc.names.lookup x = some .local ∨ sc.names.lookup x = some .cell
def Look (env : Env) (h : Heap) (m : Str → Option Value) (x : Str) (u : Value) : Prop :=
  (env.kindOf x = some .local ∧ m x = some u) ∨ ((env.kindOf x = some .cell ∨ env.kindOf x = some .free) ∧ ∃ c, env.cells.lookup x = some c ∧ h.IsCell c (some u))

structure Cx.Ok (X : Cx) : Prop where
  mod : Mod X.K X.mg X.base
  kind : X.env.scope.kind = .function
  glob : X.env.globals = mainGlobals
  blt : X.env.builtins = builtinsNs
  above : X.s₀.heap.objs.size ≤ X.env.locals
  inj : ∀ x y c, X.env.cells.lookup x = some c → X.env.cells.lookup y = some c → x = y
  has : ∀ x, (X.env.kindOf x = some .cell ∨ X.env.kindOf x = some .free) → ∃ c, X.env.cells.lookup x = some c
  cab : ∀ x c, X.fn x = true → X.env.cells.lookup x = some c → X.s₀.heap.objs.size ≤ c
  hd : X.calm = true → X.A.handled = none
  frames : X.A.frames = some X.stack
  stk : X.stack = X.outer ∨ (X.stack = X.env :: X.outer ∧ X.env.frame = some X.env.locals)
  exf : ∀ b ∈ X.ex, b ≠ X.env.locals ∧ ∀ x c, X.env.cells.lookup x = some c → c ≠ b
  bs : ∀ b o, X.base.get? b = some o → X.s₀.heap.get? b = some o ∧ X.H₀ b = none
  bsz : X.base.objs.size ≤ X.s₀.heap.objs.size
  noex : ∀ b o, X.base.get? b = some o → b ∉ X.ex
  exfs : ∀ b ∈ X.ex, b ∉ X.fs
  funs : X.s₀.heap.FunFrames X.base X.outer
  frf : ∀ b ∈ X.fs, X.H₀ b = none

structure Inv (X : Cx) (pins : List (Addr × Obj)) (σ : List (Option V)) (H : Hp) (s : Shared) : Prop where
  ok : X.Ok
  os : s.os = X.s₀.os
  bare : AllBare s.gens
  base : Un X.fs X.ex X.H₀ H X.s₀.heap s.heap
  loc : ∃ m, s.heap.Ns X.env.locals m ∧ ∀ (i : Nat) (x : Str) (v : V), X.N[i]? = some x → σ[i]? = some (some v) → Vis X.env.scope x → ∃ u, RelV v u ∧ Look X.env s.heap m x u
  cell : ∀ x c, X.env.cells.lookup x = some c → ∃ v, s.heap.IsCell c v
  free : H X.env.locals = none
  freeC : ∀ x c, X.env.cells.lookup x = some c → H c = none
  pin : ∀ p ∈ X.pn ++ pins, s.heap.get? p.1 = some p.2 ∧ H p.1 = none ∧ p.1 ≠ X.env.locals ∧ p.1 ∉ X.fs ∧ ∀ v, p.2.data ≠ .cell v
  hok : HOk X.prog X.w H s.heap
  len : σ.length = X.N.length

section
variable {X : Cx} {pins : List (Addr × Obj)} {σ : List (Option V)} {H H' : Hp} {s : Shared} {h' : Heap}

theorem Cx.Ok.nofr (ok : X.Ok) {b : Addr} {o : Obj} (e : X.base.get? b = some o) : b ∉ X.fs := fun hb => by
  have := (ok.funs.mem hb).1
  rw [e] at this; cases this
theorem Inv.bs (I : Inv X pins σ H s) : ∀ b o, X.base.get? b = some o → s.heap.get? b = some o ∧ H b = none := fun b o e =>
  ⟨I.base.keep b o (I.ok.bs b o e).1 (I.ok.bs b o e).2 (I.ok.nofr e) (I.ok.noex b o e), I.base.free b o (I.ok.bs b o e).1 (I.ok.bs b o e).2 (I.ok.noex b o e)⟩
theorem Inv.bk (I : Inv X pins σ H s) : ∀ b o, X.base.get? b = some o → s.heap.get? b = some o := fun b o e => (I.bs b o e).1
theorem Inv.mod (I : Inv X pins σ H s) : Mod X.K X.mg X.base := I.ok.mod
theorem Inv.kIn (I : Inv X pins σ H s) : X.K.In s.heap := I.ok.mod.kin.keeps I.bk
theorem Inv.nolimit (I : Inv X pins σ H s) : s.heap.NoLimit := I.ok.mod.nolimit.keeps I.bk
/-- the frame over the base: for OpenK's rules (K.In X.base is I.mod.kin) -/
theorem Inv.fr (I : Inv X pins σ H s) : ∃ m, Fr X.base X.env.locals s.heap m :=
  let ⟨m, hn, _⟩ := I.loc
  ⟨m, hn, I.bk, Nat.le_trans I.ok.bsz I.ok.above⟩
theorem Inv.lt (I : Inv X pins σ H s) : X.env.locals < s.heap.objs.size := let ⟨_, hn, _⟩ := I.loc; hn.lt
theorem Inv.sz (I : Inv X pins σ H s) : X.s₀.heap.objs.size ≤ s.heap.objs.size := Nat.le_trans I.ok.above (Nat.le_of_lt I.lt)
theorem Inv.nofs (I : Inv X pins σ H s) {a : Addr} (h : s.heap.objs.size ≤ a) : a ∉ X.fs := fun hb => by
  obtain ⟨_, o, ho, _⟩ := I.ok.funs.mem hb
  exact absurd (Nat.lt_of_lt_of_le (Heap.lt_size ho) (Nat.le_trans I.sz h)) (Nat.lt_irrefl _)
theorem Inv.cne (I : Inv X pins σ H s) : ∀ x c, X.env.cells.lookup x = some c → c ≠ X.env.locals := fun x c e z => by
  obtain ⟨v, o, ho, hd⟩ := I.cell x c e
  obtain ⟨m, ⟨o', es, ep, ho', hd', _⟩, _⟩ := I.loc
  rw [z, ho'] at ho; cases ho; rw [hd'] at hd; cases hd
theorem Inv.funs (I : Inv X pins σ H s) : s.heap.FunFrames X.base X.outer := by
  have all : ∀ (l : List Env), (∀ b ∈ frs l, b ∈ X.fs) → X.s₀.heap.FunFrames X.base l → s.heap.FunFrames X.base l := by
    intro l
    induction l with
    | nil => intro _ _; trivial
    | cons env r ih =>
      intro hs hl
      obtain ⟨hk, ⟨L, o, hf, hn, ho, hd⟩, hr⟩ := hl
      have hL : L ∈ X.fs := hs L (by unfold frs; rw [List.filterMap_cons, hf]; exact List.mem_cons_self)
      obtain ⟨sl, e⟩ := I.base.slot L o ho (I.ok.frf L hL) hL fun z => I.ok.exfs L z hL
      exact ⟨hk, ⟨L, _, hf, hn, e, hd⟩, ih (fun b hb => hs b (by unfold frs; rw [List.filterMap_cons, hf]; exact List.mem_cons_of_mem _ hb)) hr⟩
  exact all X.outer (fun _ hb => hb) I.ok.funs

/-- the frames that run, for a call -/
theorem Inv.stack (I : Inv X pins σ H s) : s.heap.FunFrames X.base X.stack := by
  rcases I.ok.stk with e | ⟨e, hf⟩
  · rw [e]; exact I.funs
  · rw [e]
    obtain ⟨m, hn, _⟩ := I.loc
    refine .cons (by rw [I.ok.kind]; decide) hf hn ?_ I.funs
    exact Heap.get?_none_of_le (Nat.le_trans I.ok.bsz I.ok.above)
theorem Inv.stkSub (I : Inv X pins σ H s) : ∀ b ∈ frs X.stack, b ∈ X.env.locals :: X.fs := fun b hb => by
  rcases I.ok.stk with e | ⟨e, hf⟩
  · rw [e] at hb; exact List.mem_cons_of_mem _ hb
  · rw [e] at hb
    unfold frs at hb
    rw [List.filterMap_cons, hf] at hb
    exact hb
theorem Inv.stkFree (I : Inv X pins σ H s) : ∀ b ∈ frs X.stack, H b = none := fun b hb => by
  rcases List.mem_cons.mp (I.stkSub b hb) with e | hb
  · rw [e]; exact I.free
  · obtain ⟨_, o, ho, _⟩ := I.ok.funs.mem hb
    exact I.base.free b o ho (I.ok.frf b hb) fun z => I.ok.exfs b z hb

/-- THE STEP: the untracked objects but the frame and the records at ch are kept (the callers' frames up to slots), the frame's map is kept, the new abstract heap is held -/
theorem Inv.step {g' : Array GenState} {t' : Nat} {d' : Drawn} {ch : List Addr} (I : Inv X pins σ H s)
    (hch : ∀ b ∈ ch, (b ∈ X.ex ∨ X.s₀.heap.objs.size ≤ b) ∧ b ≠ X.env.locals ∧ (∀ x c, X.env.cells.lookup x = some c → c ≠ b) ∧ ∀ p ∈ X.pn ++ pins, p.1 ≠ b)
    (keep : ∀ b o, b ≠ X.env.locals → b ∉ X.fs → b ∉ ch → s.heap.get? b = some o → H b = none → h'.get? b = some o)
    (slot : ∀ b o, b ≠ X.env.locals → b ∈ X.fs → b ∉ ch → s.heap.get? b = some o → H b = none → ∃ sl, h'.get? b = some { o with slots := sl }) (free : ∀ b o, b ∉ ch → s.heap.get? b = some o → H b = none → H' b = none)
    (there : ∀ b o, b ∉ ch → s.heap.get? b = some o → ∃ o', h'.get? b = some o')
    (tups : ∀ b xs, H b = some (.tup xs) → H' b = some (.tup xs)) (frzs : ∀ b o u, H b = some (.frz o u) → H' b = some (.frz o u)) (tbls : ∀ b ps, H b = some (.tbl ps) → ∃ more, H' b = some (.tbl (ps ++ more)))
    (ns : ∀ m, s.heap.Ns X.env.locals m → h'.Ns X.env.locals m) (hok : HOk X.prog X.w H' h') (hg : AllBare g') :
    Inv X pins σ H' { s with heap := h', gens := g', drawn := d', toks := t' } := by
  have neL : ∀ b o, X.s₀.heap.get? b = some o → b ≠ X.env.locals := fun b o e => Nat.ne_of_lt (Nat.lt_of_lt_of_le (Heap.lt_size e) I.ok.above)
  have neC : ∀ b o, X.s₀.heap.get? b = some o → b ∉ X.ex → b ∉ ch := fun b o e hx hb => by
    rcases (hch b hb).1 with z | z
    · exact hx z
    · exact absurd (Nat.lt_of_lt_of_le (Heap.lt_size e) z) (Nat.lt_irrefl _)
  have cellK : ∀ x c, X.env.cells.lookup x = some c → ∀ v, s.heap.IsCell c v → h'.IsCell c v := fun x c e v ⟨o, ho, hd⟩ => by
    have nch : c ∉ ch := fun z => (hch c z).2.2.1 x c e rfl
    by_cases hc : c ∈ X.fs
    · obtain ⟨sl, q⟩ := slot c o (I.cne x c e) hc nch ho (I.freeC x c e)
      exact ⟨_, q, hd⟩
    · exact ⟨o, keep c o (I.cne x c e) hc nch ho (I.freeC x c e), hd⟩
  refine ⟨I.ok, I.os, hg, ⟨fun b o e n hb hx => ?_, fun b o e n hb hx => ?_, fun b o e n hx => ?_, fun b o e hx => ?_, fun b xs e => tups b xs (I.base.tups b xs e), fun b o xs e => frzs b o xs (I.base.frzs b o xs e), fun b ps e => ?_⟩, ?_, fun x c e => ?_, ?_, fun x c e => ?_, fun p hp => ?_, hok, I.len⟩
  · exact keep b o (neL b o e) hb (neC b o e hx) (I.base.keep b o e n hb hx) (I.base.free b o e n hx)
  · obtain ⟨sl, e1⟩ := I.base.slot b o e n hb hx
    obtain ⟨sl', e2⟩ := slot b _ (neL b o e) hb (neC b o e hx) e1 (I.base.free b o e n hx)
    exact ⟨sl', e2⟩
  · obtain ⟨o', e1⟩ := I.base.there b o e hx
    exact free b o' (neC b o e hx) e1 (I.base.free b o e n hx)
  · obtain ⟨o', e1⟩ := I.base.there b o e hx
    exact there b o' (neC b o e hx) e1
  · obtain ⟨m1, e1⟩ := I.base.tbls b ps e
    obtain ⟨m2, e2⟩ := tbls b _ e1
    exact ⟨m1 ++ m2, by rw [e2, Array.append_assoc]⟩
  · obtain ⟨m, hn, hl⟩ := I.loc
    refine ⟨m, ns m hn, fun i x v e1 e2 e3 => ?_⟩
    obtain ⟨u, r, l⟩ := hl i x v e1 e2 e3
    refine ⟨u, r, ?_⟩
    rcases l with l | ⟨k, c, e, z⟩
    · exact .inl l
    · exact .inr ⟨k, c, e, cellK x c e _ z⟩
  · obtain ⟨v, z⟩ := I.cell x c e
    exact ⟨v, cellK x c e v z⟩
  · obtain ⟨m, ⟨o, _, _, ho, _⟩, _⟩ := I.loc
    exact free _ o (fun z => (hch _ z).2.1 rfl) ho I.free
  · obtain ⟨v, o, ho, hd⟩ := I.cell x c e
    exact free c o (fun z => (hch c z).2.2.1 x c e rfl) ho (I.freeC x c e)
  · obtain ⟨e, n, ne, nf, d⟩ := I.pin p hp
    have nch : p.1 ∉ ch := fun z => (hch p.1 z).2.2.2 p hp rfl
    exact ⟨keep p.1 p.2 ne nf nch e n, free p.1 p.2 nch e n, ne, nf, d⟩
/-- .. where the frame's own object is kept too -/
theorem Inv.un {t' : Nat} (I : Inv X pins σ H s) (u : Un X.fs [] H H' s.heap h') (hok : HOk X.prog X.w H' h') : Inv X pins σ H' { s with heap := h', toks := t' } := by
  obtain ⟨m, ⟨o, es, ep, ho, r⟩, _⟩ := id I.loc
  obtain ⟨sl, hL⟩ := u.any ho I.free (by simp)
  exact I.step (g' := s.gens) (d' := s.drawn) (ch := []) (fun _ z => nomatch z) (fun b o _ hb _ e n => u.keep b o e n hb (by simp)) (fun b o _ hb _ e n => u.slot b o e n hb (by simp)) (fun b o _ e n => u.free b o e n (by simp)) (fun b o _ e => u.there b o e (by simp)) u.tups u.frzs u.tbls (fun m' hm => by
    obtain ⟨o', es', ep', ho', r'⟩ := hm
    rw [ho] at ho'; cases ho'
    exact ⟨_, es', ep', hL, r'⟩) hok I.bare
/-- behind a call (or a comprehension's block): the slots of this frame may have changed too, the records at ch may have turned -/
theorem Inv.call {g' : Array GenState} {t' : Nat} {d' : Drawn} {ch : List Addr} (I : Inv X pins σ H s) (u : Un (frs X.stack) ch H H' s.heap h') (hok : HOk X.prog X.w H' h') (hg : AllBare g')
    (hch : ∀ b ∈ ch, (b ∈ X.ex ∨ X.s₀.heap.objs.size ≤ b) ∧ b ≠ X.env.locals ∧ (∀ x c, X.env.cells.lookup x = some c → c ≠ b) ∧ ∀ p ∈ X.pn ++ pins, p.1 ≠ b) :
    Inv X pins σ H' { s with heap := h', gens := g', drawn := d', toks := t' } := by
  obtain ⟨m, ⟨o, es, ep, ho, r⟩, _⟩ := id I.loc
  obtain ⟨sl, hL⟩ := u.any ho I.free fun z => (hch _ z).2.1 rfl
  exact I.step (ch := ch) hch (fun b o hL hb hc e n => u.keep b o e n (fun z => (List.mem_cons.mp (I.stkSub b z)).elim hL hb) hc) (fun b o _ _ hc e n => u.any e n hc) (fun b o hc e n => u.free b o e n hc) (fun b o hc e => u.there b o e hc) u.tups u.frzs u.tbls (fun m' hm => by
    obtain ⟨o', es', ep', ho', r'⟩ := hm
    rw [ho] at ho'; cases ho'
    exact ⟨_, es', ep', hL, r'⟩) hok hg
/-- an untracked record of ours (an iterator) has turned -/
theorem Inv.turned {t' : Nat} {it : Addr} (I : Inv X pins σ H s) (k : ∀ b o, b ≠ it → s.heap.get? b = some o → h'.get? b = some o) (hn : H it = none) (hL : it ≠ X.env.locals)
    (h1 : it ∈ X.ex ∨ X.s₀.heap.objs.size ≤ it) (h2 : ∀ x c, X.env.cells.lookup x = some c → c ≠ it) (h3 : ∀ p ∈ X.pn ++ pins, p.1 ≠ it) : Inv X pins σ H { s with heap := h', toks := t' } := by
  have nit : ∀ b u, H b = some u → b ≠ it := fun b u e z => by rw [z, hn] at e; cases e
  refine I.step (g' := s.gens) (d' := s.drawn) (ch := [it]) (fun b hb => ?_) (fun b o _ _ hc e _ => k b o (fun z => hc (by simp [z])) e) (fun b o _ _ hc e _ => ⟨o.slots, k b o (fun z => hc (by simp [z])) e⟩) (fun _ _ _ _ n => n)
    (fun b o hc e => ⟨o, k b o (fun z => hc (by simp [z])) e⟩) (fun _ _ e => e) (fun _ _ _ e => e) (fun b ps e => ⟨#[], by rw [e]; simp⟩) (fun m hm => ?_) (fun b u e => ?_) I.bare
  · have e : b = it := by simpa using hb
    subst e
    exact ⟨h1, hL, h2, h3⟩
  · obtain ⟨o, es, ep, ho, r⟩ := hm
    exact ⟨o, es, ep, k _ o (Ne.symm hL) ho, r⟩
  · refine (I.hok b u e).stay (fun c v hc q => k c v ?_ q) (fun _ q => q) fun _ _ q => q
    rcases hc with z | z
    · rw [z]; exact nit b u e
    · exact nit c _ z
theorem Inv.tok (I : Inv X pins σ H s) (t : Nat) : Inv X pins σ H { s with toks := t } := I.un (h' := s.heap) (t' := t) Un.refl I.hok
/-- all objects kept -/
theorem Inv.kept {t' : Nat} (I : Inv X pins σ H s) (k : ∀ b u, s.heap.get? b = some u → h'.get? b = some u) : Inv X pins σ H { s with heap := h', toks := t' } := I.un (Un.kept k) (I.hok.kept k)
/-- a new object laid and tracked -/
theorem Inv.laid {a : Addr} {o : HO} {t' : Nat} (I : Inv X pins σ H s) (k : ∀ b u, s.heap.get? b = some u → h'.get? b = some u) (hp : s.heap.objs.size ≤ a) (new : ObjOk X.prog X.w (upd H a o) h' a o) :
    Inv X pins σ (upd H a o) { s with heap := h', toks := t' } := I.un (Un.laid k hp (I.hok.fresh hp)) (I.hok.laid k hp new)
/-- an object written -/
theorem Inv.write {x e : Addr} {o : HO} {t' : Nat} (I : Inv X pins σ H s) (mu : Mut (H x)) (he : e = x ∨ H e = some (.own x)) (k : ∀ b u, b ≠ e → s.heap.get? b = some u → h'.get? b = some u) (heo : ∃ u, h'.get? e = some u)
    (new : ObjOk X.prog X.w (upd H x o) h' x o) : Inv X pins σ (upd H x o) { s with heap := h', toks := t' } := I.un (Un.write mu he k heo) (I.hok.write mu he k heo new)
/-- forgetting slots, pins -/
theorem Inv.weak {σ' : List (Option V)} (I : Inv X pins σ H s) (hl : σ'.length = σ.length) (w : ∀ (i : Nat) v, σ'[i]? = some (some v) → σ[i]? = some (some v)) : Inv X pins σ' H s :=
  ⟨I.ok, I.os, I.bare, I.base, let ⟨m, hn, hl'⟩ := I.loc; ⟨m, hn, fun i x v e1 e2 e3 => hl' i x v e1 (w i v e2) e3⟩, I.cell, I.free, I.freeC, I.pin, I.hok, hl.trans I.len⟩
theorem Inv.pins_of {pins' : List (Addr × Obj)} (I : Inv X pins σ H s) (h : ∀ p ∈ pins', s.heap.get? p.1 = some p.2 ∧ H p.1 = none ∧ p.1 ≠ X.env.locals ∧ p.1 ∉ X.fs ∧ ∀ v, p.2.data ≠ .cell v) : Inv X pins' σ H s :=
  ⟨I.ok, I.os, I.bare, I.base, I.loc, I.cell, I.free, I.freeC, fun p hp => (List.mem_append.mp hp).elim (fun z => I.pin p (List.mem_append_left _ z)) (h p), I.hok, I.len⟩

theorem nodup_ix {N : List Str} (hN : N.Nodup) {i j : Nat} {x : Str} (a : N[i]? = some x) (b : N[j]? = some x) : i = j := by
  obtain ⟨h1, e1⟩ := List.getElem?_eq_some_iff.mp a
  obtain ⟨h2, e2⟩ := List.getElem?_eq_some_iff.mp b
  exact (List.getElem_inj hN).mp (e1.trans e2.symm)

/-- a name is stored; what changed -/
theorem store_ok2 {M : Model} {A : Around} {E : Value → Shared → Prop} {i : Nat} {x : Str} {v : V} {u : Value} {Q : Unit → Shared → Prop} (I : Inv X pins σ H s) (hN : X.N.Nodup) (hi : X.N[i]? = some x) (hx : Loc X.env.scope x) (r : RelV v u)
    (h : ∀ s', Inv X pins (σ.set i (some v)) H s' → (∃ a, Heap.SameBut a s.heap s'.heap ∧ (a = X.env.locals ∨ X.env.cells.lookup x = some a)) → Q () s') (hf : X.fn x = true ∨ X.env.scope.names.lookup x = some .local := by first | exact .inl rfl | exact .inr rfl | assumption) : wpAny M A (storeName X.env x u) Q E s := by
  obtain ⟨m, hn, hl⟩ := id I.loc
  have hcls : (X.env.scope.kind == .class || (X.env.scope.kind == .module && X.env.locals != X.env.globals)) = false := by rw [I.ok.kind]; rfl
  have hiσ : i < σ.length := by rw [I.len]; exact (List.getElem?_eq_some_iff.mp hi).1
  have cne := I.cne
  have tracked : ∀ {a : Addr} {h' : Heap}, (∃ o, s.heap.get? a = some o ∧ H a = none) → Heap.SameBut a s.heap h' → HOk X.prog X.w H h' := fun {a h'} ha hs b ob e => by
    obtain ⟨_, _, hfree⟩ := ha
    refine (I.hok b ob e).stay (fun c w' hc q => (hs.2 c ?_).trans q) (fun _ q => q) fun _ _ q => q
    rintro rfl
    rcases hc with rfl | hc
    · rw [hfree] at e; cases e
    · rw [hfree] at hc; cases hc
  rcases hx with hk | hk
  · refine wpAny_storeName_local hk hn (fun h' hn' hs => ?_) hcls
    obtain ⟨oL, _, _, hoL, _⟩ := id hn
    refine h _ ⟨I.ok, I.os, I.bare, ⟨fun b o e n hb hx => ?_, fun b o e n hb hx => ?_, I.base.free, fun b o e hx => ?_, I.base.tups, I.base.frzs, I.base.tbls⟩, ⟨_, hn', fun j y v' e1 e2 e3 => ?_⟩, fun y c e => ?_, I.free, I.freeC, fun p hp => ?_, tracked ⟨oL, hoL, I.free⟩ hs, by simpa using I.len⟩ ⟨_, hs, .inl rfl⟩
    · exact (hs.2 b (Nat.ne_of_lt (Nat.lt_of_lt_of_le (Heap.lt_size e) I.ok.above))).trans (I.base.keep b o e n hb hx)
    · obtain ⟨sl, e1⟩ := I.base.slot b o e n hb hx
      exact ⟨sl, (hs.2 b (Nat.ne_of_lt (Nat.lt_of_lt_of_le (Heap.lt_size e) I.ok.above))).trans e1⟩
    · obtain ⟨o', e1⟩ := I.base.there b o e hx
      exact ⟨o', (hs.2 b (Nat.ne_of_lt (Nat.lt_of_lt_of_le (Heap.lt_size e) I.ok.above))).trans e1⟩
    · by_cases hj : j = i
      · subst hj
        rw [hi] at e1; cases e1
        rw [List.getElem?_set_self hiσ] at e2
        cases e2
        exact ⟨u, r, .inl ⟨hk, by simp⟩⟩
      · rw [List.getElem?_set_ne (Ne.symm hj)] at e2
        obtain ⟨u', r', q⟩ := hl j y v' e1 e2 e3
        refine ⟨u', r', ?_⟩
        rcases q with ⟨k, e⟩ | ⟨k, c, e, z⟩
        · refine .inl ⟨k, ?_⟩
          have : y ≠ x := fun e => hj (nodup_ix hN e1 (e ▸ hi))
          simp [this, e]
        · exact .inr ⟨k, c, e, z.sameBut hs (cne y c e)⟩
    · obtain ⟨w', z⟩ := I.cell y c e
      exact ⟨w', z.sameBut hs (cne y c e)⟩
    · obtain ⟨e, n, ne, nf, d⟩ := I.pin p hp
      exact ⟨(hs.2 p.1 ne).trans e, n, ne, nf, d⟩
  · have hfn : X.fn x = true := by
      rcases hf with z | z
      · exact z
      · rw [z] at hk; cases hk
    obtain ⟨c, hc⟩ := I.ok.has x (.inl hk)
    obtain ⟨w', z⟩ := I.cell x c hc
    refine wpAny_storeName_cell I.ok.kind hk hc z (fun h' hc' hs => ?_)
    obtain ⟨oc, hoc, hocd⟩ := id z
    refine h { s with heap := h' } ⟨I.ok, I.os, I.bare, ⟨fun b o e n hb hx => ?_, fun b o e n hb hx => ?_, I.base.free, fun b o e hx => ?_, I.base.tups, I.base.frzs, I.base.tbls⟩, ⟨m, hn.sameBut hs (Ne.symm (cne x c hc)), fun j y v' e1 e2 e3 => ?_⟩, fun y c' e => ?_, I.free, I.freeC, fun p hp => ?_, tracked ⟨oc, hoc, I.freeC x c hc⟩ hs, by simpa using I.len⟩ ⟨c, hs, .inr hc⟩
    · exact (hs.2 b (Nat.ne_of_lt (Nat.lt_of_lt_of_le (Heap.lt_size e) (I.ok.cab x c hfn hc)))).trans (I.base.keep b o e n hb hx)
    · obtain ⟨sl, e1⟩ := I.base.slot b o e n hb hx
      exact ⟨sl, (hs.2 b (Nat.ne_of_lt (Nat.lt_of_lt_of_le (Heap.lt_size e) (I.ok.cab x c hfn hc)))).trans e1⟩
    · obtain ⟨o', e1⟩ := I.base.there b o e hx
      exact ⟨o', (hs.2 b (Nat.ne_of_lt (Nat.lt_of_lt_of_le (Heap.lt_size e) (I.ok.cab x c hfn hc)))).trans e1⟩
    · by_cases hj : j = i
      · subst hj
        rw [hi] at e1; cases e1
        rw [List.getElem?_set_self hiσ] at e2
        cases e2
        exact ⟨u, r, .inr ⟨.inl hk, c, hc, hc'⟩⟩
      · rw [List.getElem?_set_ne (Ne.symm hj)] at e2
        obtain ⟨u', r', q⟩ := hl j y v' e1 e2 e3
        refine ⟨u', r', ?_⟩
        rcases q with q | ⟨k, c', e, z'⟩
        · exact .inl q
        · refine .inr ⟨k, c', e, z'.sameBut hs ?_⟩
          rintro rfl
          exact hj (nodup_ix hN e1 (I.ok.inj _ _ _ e hc ▸ hi))
    · by_cases hcc : c' = c
      · subst hcc; exact ⟨_, hc'⟩
      · obtain ⟨w2, z2⟩ := I.cell y c' e
        exact ⟨w2, z2.sameBut hs hcc⟩
    · obtain ⟨e, n, ne, nf, d⟩ := I.pin p hp
      refine ⟨(hs.2 p.1 ?_).trans e, n, ne, nf, d⟩
      intro q
      rw [q, hoc] at e
      have q' : oc = p.2 := Option.some.inj e
      exact d w' (by rw [← q']; exact hocd)
theorem store_ok {M : Model} {A : Around} {E : Value → Shared → Prop} {i : Nat} {x : Str} {v : V} {u : Value} {Q : Unit → Shared → Prop} (I : Inv X pins σ H s) (hN : X.N.Nodup) (hi : X.N[i]? = some x) (hx : Loc X.env.scope x) (r : RelV v u)
    (h : ∀ s', Inv X pins (σ.set i (some v)) H s' → Q () s') (hf : X.fn x = true ∨ X.env.scope.names.lookup x = some .local := by first | exact .inl rfl | exact .inr rfl | assumption) : wpAny M A (storeName X.env x u) Q E s :=
  store_ok2 I hN hi hx r (fun s' I' _ => h s' I') hf
/-- behind a call or a block, the state as it is -/
theorem Inv.call' {s' : Shared} {ch : List Addr} (I : Inv X pins σ H s) (ho : s'.os = s.os) (u : Un (frs X.stack) ch H H' s.heap s'.heap) (hok : HOk X.prog X.w H' s'.heap) (hg : AllBare s'.gens)
    (hch : ∀ b ∈ ch, (b ∈ X.ex ∨ X.s₀.heap.objs.size ≤ b) ∧ b ≠ X.env.locals ∧ (∀ x c, X.env.cells.lookup x = some c → c ≠ b) ∧ ∀ p ∈ X.pn ++ pins, p.1 ≠ b) : Inv X pins σ H' s' := by
  obtain ⟨h', g', d', t', o'⟩ := s'
  have e : o' = s.os := ho
  subst e
  exact I.call (g' := g') (t' := t') (d' := d') u hok hg hch
end

/-! ### the judgements -/
/-- an exception: its class, its own dict's address (where it has one), the abstract heap behind it -/
abbrev XK := Value → Option Addr → Hp → Prop
abbrev St := List (Option V)
abbrev VK := V → Hp → Prop
/-- an expression's reading; a test's; an argument list's -/
abbrev TE := St → Hp → VK → Prop
abbrev TT := St → Hp → (Bool → Hp → Prop) → Prop
abbrev TA := St → Hp → (List V → Hp → Prop) → Prop
/-- what is wanted behind a statement -/
structure Ends where
  nx : St → Hp → Prop
  rt : VK
  bk : St → Hp → Prop := fun _ _ => False
  ct : St → Hp → Prop := fun _ _ => False
abbrev TS := Ends → St → Hp → Prop

def EP (X : Cx) (pins : List (Addr × Obj)) (σ : St) (Q : VK) (u : Value) (s' : Shared) : Prop := ∃ v H', Inv X pins σ H' s' ∧ RelV v u ∧ Q v H'
def TP (X : Cx) (pins : List (Addr × Obj)) (σ : St) (Q : Bool → Hp → Prop) (b : Bool) (s' : Shared) : Prop := ∃ H', Inv X pins σ H' s' ∧ Q b H'
def AP (X : Cx) (pins : List (Addr × Obj)) (σ : St) (Q : List V → Hp → Prop) (us : List Value) (s' : Shared) : Prop := ∃ vs H', Inv X pins σ H' s' ∧ Vals vs us ∧ Q vs H'
def SP (X : Cx) (pins : List (Addr × Obj)) (D : Ends) (f : Flow) (s' : Shared) : Prop :=
  match f with
  | .next => ∃ σ' H', Inv X pins σ' H' s' ∧ D.nx σ' H'
  | .brk => ∃ σ' H', Inv X pins σ' H' s' ∧ D.bk σ' H'
  | .cont => ∃ σ' H', Inv X pins σ' H' s' ∧ D.ct σ' H'
  | .ret u => ∃ v σ' H', Inv X pins σ' H' s' ∧ RelV v u ∧ D.rt v H'

def PE (X : Cx) (e : Expr) (t : TE) : Prop :=
  ∀ (pins : List (Addr × Obj)) (s : Shared) (σ : St) (H : Hp) (Q : VK), Inv X pins σ H s → t σ H Q → wpAny (model X.prog X.w) X.A (eval e X.env) (EP X pins σ Q) X.xe s
def PT (X : Cx) (e : Expr) (t : TT) : Prop :=
  ∀ (pins : List (Addr × Obj)) (s : Shared) (σ : St) (H : Hp) (Q : Bool → Hp → Prop), Inv X pins σ H s → t σ H Q → wpAny (model X.prog X.w) X.A (isTrue e X.env (eval e X.env)) (TP X pins σ Q) X.xe s
/-- a test whatever its 'whole' is (and, or) -/
def PW (X : Cx) (e : Expr) (t : TT) : Prop :=
  ∀ (whole : Sem Value) (pins : List (Addr × Obj)) (s : Shared) (σ : St) (H : Hp) (Q : Bool → Hp → Prop), Inv X pins σ H s → t σ H Q → wpAny (model X.prog X.w) X.A (isTrue e X.env whole) (TP X pins σ Q) X.xe s
theorem PW.pt {X : Cx} {e : Expr} {t : TT} (h : PW X e t) : PT X e t := h _
/-- an argument list (no star), from the left -/
def PA (X : Cx) (es : List Expr) (t : TA) : Prop :=
  ∀ (pos : Pos) (pins : List (Addr × Obj)) (s : Shared) (σ : St) (H : Hp) (Q : List V → Hp → Prop), Inv X pins σ H s → t σ H Q → wpAny (model X.prog X.w) X.A (spliced (backTo pos (starEach es X.env))) (AP X pins σ Q) X.xe s
def PS (X : Cx) (st : Stmt) (t : TS) : Prop :=
  ∀ (pins : List (Addr × Obj)) (s : Shared) (σ : St) (H : Hp) (D : Ends), Inv X pins σ H s → t D σ H → wpAny (model X.prog X.w) X.A (exec st X.env) (SP X pins D) X.xe s
def PSs (X : Cx) (st : List Stmt) (t : TS) : Prop :=
  ∀ (pins : List (Addr × Obj)) (s : Shared) (σ : St) (H : Hp) (D : Ends), Inv X pins σ H s → t D σ H → wpAny (model X.prog X.w) X.A (execs st X.env) (SP X pins D) X.xe s
/-- weaken the end -/
theorem thn {α : Type} {t : Sem α} {Q Q' : α → Shared → Prop} {M : Model} {A : Around} {E : Value → Shared → Prop} {s : Shared} (h : wpAny M A t Q E s) (hQ : ∀ a s, Q a s → Q' a s) : wpAny M A t Q' E s := wpAny_mono h hQ fun _ _ x => x
end L2

namespace L2
open PySem PySem.Spec PyProof.Rows
section
variable {X : Cx}

/-- two expressions in a row -/
theorem bin {a b : Expr} {ta tb : TE} (ha : PE X a ta) (hb : PE X b tb) {pins : List (Addr × Obj)} {s : Shared} {σ : St} {H : Hp} {R : V → V → Hp → Prop} (I : Inv X pins σ H s) (h : ta σ H fun x H1 => tb σ H1 fun y H2 => R x y H2)
    {α : Type} {Q : α → Shared → Prop} {f : Value → Value → Sem α}
    (hf : ∀ v u s2 x y H2, Inv X pins σ H2 s2 → RelV x v → RelV y u → R x y H2 → wpAny (model X.prog X.w) X.A (f v u) Q X.xe s2) :
    wpAny (model X.prog X.w) X.A (eval a X.env) (fun v s₁ => wpAny (model X.prog X.w) X.A (eval b X.env) (fun u s₂ => wpAny (model X.prog X.w) X.A (f v u) Q X.xe s₂) X.xe s₁) X.xe s := by
  refine thn (ha pins s σ H _ I h) fun v s1 ⟨x, H1, I1, r1, q1⟩ => ?_
  refine thn (hb pins s1 σ H1 _ I1 q1) fun u s2 ⟨y, H2, I2, r2, q2⟩ => ?_
  exact hf v u s2 x y H2 I2 r1 r2 q2

/-! ### names and constants -/
def tVar (i : Nat) : TE := fun σ H Q => ∃ v, σ[i]? = some (some v) ∧ Q v H
def tC (v : V) : TE := fun _ H Q => Q v H
theorem pe_var {i : Nat} {x : Str} {pos : Pos} (hN : X.N[i]? = some x) (hv : Vis X.env.scope x) (hd : (x == ("__debug__" : Str)) = false := by decide) (hcd : (x == ("__classdict__" : Str)) = false := by decide) : PE X (.Name x pos) (tVar i) := by
  intro pins s σ H Q I h
  obtain ⟨v, e, h⟩ := h
  obtain ⟨m, hn, hl⟩ := I.loc
  obtain ⟨u, r, l⟩ := hl i x v hN e hv
  have fin : EP X pins σ Q u s := ⟨v, H, I, r, h⟩
  rcases l with ⟨hk, hm⟩ | ⟨hk, c, hc, hcell⟩
  · exact wpAny_Name (wpAny_loadName_local I.ok.kind hk hn hm fin) hd
  · rcases hk with hk | hk
    · exact wpAny_Name (wpAny_loadName_cell I.ok.kind hk hc hcell fin) hd
    · exact wpAny_Name (wpAny_loadName_free I.ok.kind hk hc hcell fin hcd) hd
theorem pe_int {i j pos} : PE X (.Constant (.int i) j pos) (tC (.int i)) := fun _ _ _ H _ I h => wpAny_Constant_int ⟨.int i, H, I.tok _, ⟨_, rfl⟩, h⟩
theorem pe_bl {b j pos} : PE X (.Constant (.bool b) j pos) (tC (.bl b)) := fun _ _ _ H _ I h => Constant_bool ⟨.bl b, H, I, rfl, h⟩
theorem pe_non {j pos} : PE X (.Constant .none j pos) (tC .non) := fun _ _ _ H _ I h => Constant_none ⟨.non, H, I, rfl, h⟩
theorem pe_str {x j pos} : PE X (.Constant (.str x) j pos) (tC (.str x)) := fun _ _ _ H _ I h => Calls.Constant_str ⟨.str x, H, I.tok _, ⟨_, rfl⟩, h⟩

/-- a global name of the def -/
def Gl (X : Cx) (x : Str) : Prop := X.env.kindOf x = some .globalImplicit
theorem ld_glob {E : Value → Shared → Prop} {pins : List (Addr × Obj)} {s : Shared} {σ : St} {H : Hp} {x : Str} {u : Value} {pos : Pos} {Q : Value → Shared → Prop} (I : Inv X pins σ H s) (hg : Gl X x) (hm : X.mg x = some u) (h : Q u s)
    (hd : (x == ("__debug__" : Str)) = false := by decide) : wpAny (model X.prog X.w) X.A (eval (.Name x pos) X.env) Q E s :=
  Calls.Name_function_global I.ok.kind hg (Calls.loadGlobal_global (by rw [I.ok.glob]; exact I.mod.glob.keeps I.bk) hm h) hd
theorem ld_blt {E : Value → Shared → Prop} {pins : List (Addr × Obj)} {s : Shared} {σ : St} {H : Hp} {x : Str} {u : Value} {pos : Pos} {Q : Value → Shared → Prop} (I : Inv X pins σ H s) (hg : Gl X x) (hm : X.mg x = none) (hv : bootBuiltins x = some u) (h : Q u s)
    (hn : x ≠ "__name__" := by decide) (hd : (x == ("__debug__" : Str)) = false := by decide) : wpAny (model X.prog X.w) X.A (eval (.Name x pos) X.env) Q E s := by
  obtain ⟨mb, h1, h2⟩ := I.mod.blt
  exact Calls.Name_function_global I.ok.kind hg (Calls.loadGlobal_builtin (by rw [I.ok.glob]; exact I.mod.glob.keeps I.bk) hm (by rw [I.ok.blt]; exact h1.keeps I.bk) ((h2 x hn).trans hv) h) hd
/-- a module's constant, a class, a function, as a value -/
theorem pe_glob {x : Str} {v : V} {u : Value} {pos : Pos} (hg : Gl X x) (hm : X.mg x = some u) (r : RelV v u) (hd : (x == ("__debug__" : Str)) = false := by decide) : PE X (.Name x pos) (tC v) :=
  fun _ _ _ H _ I h => ld_glob I hg hm ⟨v, H, I, r, h⟩ hd
theorem pe_bltn {x : Str} {v : V} {u : Value} {pos : Pos} (hg : Gl X x) (hm : X.mg x = none) (hv : bootBuiltins x = some u) (r : RelV v u) (hn : x ≠ "__name__" := by decide) (hd : (x == ("__debug__" : Str)) = false := by decide) : PE X (.Name x pos) (tC v) :=
  fun _ _ _ H _ I h => ld_blt I hg hm hv ⟨v, H, I, r, h⟩ hn hd

/-! ### arithmetic -/
/-- two ints -/
def t2I (ta tb : TE) (k : Int → Int → Hp → Prop) : St → Hp → Prop := fun σ H => ta σ H fun x H1 => tb σ H1 fun y H2 => ∃ i j, x = .int i ∧ y = .int j ∧ k i j H2
def tAdd (ta tb : TE) : TE := fun σ H Q => t2I ta tb (fun i j H2 => Q (.int (i + j)) H2) σ H
def tSub (ta tb : TE) : TE := fun σ H Q => t2I ta tb (fun i j H2 => Q (.int (i - j)) H2) σ H
/-- the left factor below 2^64 -/
def tMul (ta tb : TE) : TE := fun σ H Q => t2I ta tb (fun i j H2 => (-(2 ^ 64) < i ∧ i < 2 ^ 64) ∧ Q (.int (i * j)) H2) σ H
variable {a b : Expr} {ta tb : TE} {pos : Pos}
theorem pe_add (ha : PE X a ta) (hb : PE X b tb) : PE X (.BinOp a .Add b pos) (tAdd ta tb) := by
  intro pins s σ H Q I h
  refine wpAny_BinOp (bin ha hb I h fun v u s2 x y H2 I2 rx ry q => ?_)
  obtain ⟨i, j, rfl, rfl, q⟩ := q
  obtain ⟨t, rfl⟩ := rx
  obtain ⟨t', rfl⟩ := ry
  exact add_int ⟨.int _, H2, I2.tok _, ⟨_, rfl⟩, q⟩
theorem pe_sub (ha : PE X a ta) (hb : PE X b tb) : PE X (.BinOp a .Sub b pos) (tSub ta tb) := by
  intro pins s σ H Q I h
  refine wpAny_BinOp (bin ha hb I h fun v u s2 x y H2 I2 rx ry q => ?_)
  obtain ⟨i, j, rfl, rfl, q⟩ := q
  obtain ⟨t, rfl⟩ := rx
  obtain ⟨t', rfl⟩ := ry
  exact sub_int ⟨.int _, H2, I2.tok _, ⟨_, rfl⟩, q⟩
theorem pe_mul (ha : PE X a ta) (hb : PE X b tb) : PE X (.BinOp a .Mult b pos) (tMul ta tb) := by
  intro pins s σ H Q I h
  refine wpAny_BinOp (bin ha hb I h fun v u s2 x y H2 I2 rx ry q => ?_)
  obtain ⟨i, j, rfl, rfl, ⟨q1, q2⟩, q⟩ := q
  obtain ⟨t, rfl⟩ := rx
  obtain ⟨t', rfl⟩ := ry
  exact mul_int ⟨.int _, H2, I2.tok _, ⟨_, rfl⟩, q⟩ (.of_left (intBits_le_64 q1 q2))

/-! ### comparisons -/
def PC (X : Cx) (op : CmpOp) (a b : Expr) (t : TE) : Prop :=
  ∀ (pins : List (Addr × Obj)) (s : Shared) (σ : St) (H : Hp) (Q : VK), Inv X pins σ H s → t σ H Q →
    wpAny (model X.prog X.w) X.A (eval a X.env) (fun v s₁ => wpAny (model X.prog X.w) X.A (eval b X.env) (fun u s₂ => wpAny (model X.prog X.w) X.A (compareOp op v u) (EP X pins σ Q) X.xe s₂) X.xe s₁) X.xe s
theorem nobehind (b : Expr) {op : CmpOp} (h : op ≠ .In) (h2 : op ≠ .NotIn) : behindInMarks op b = false := by
  have e1 : (op == CmpOp.In) = false := by cases op <;> first | rfl | exact absurd rfl h
  have e2 : (op == CmpOp.NotIn) = false := by cases op <;> first | rfl | exact absurd rfl h2
  cases b <;> simp [behindInMarks, e1, e2]
def tCmp (p : Int → Int → Bool) (ta tb : TE) : TE := fun σ H Q => t2I ta tb (fun i j H2 => Q (.bl (p i j)) H2) σ H
abbrev tLt : TE → TE → TE := tCmp fun i j => decide (i < j)
abbrev tLe : TE → TE → TE := tCmp fun i j => decide (i ≤ j)
abbrev tGt : TE → TE → TE := tCmp fun i j => decide (j < i)
abbrev tGe : TE → TE → TE := tCmp fun i j => decide (j ≤ i)
abbrev tEqI : TE → TE → TE := tCmp fun i j => decide (i = j)
abbrev tNeI : TE → TE → TE := tCmp fun i j => !decide (i = j)
/-- a comparison of two ints, by its rule -/
theorem pc_int {op : CmpOp} {p : Int → Int → Bool} (ha : PE X a ta) (hb : PE X b tb)
    (rule : ∀ (i j : Int) (t u : Tok) (Q : Value → Shared → Prop) (s : Shared), Q (.bool (p i j)) s → wpAny (model X.prog X.w) X.A (compareOp op (.int i t) (.int j u)) Q X.xe s) : PC X op a b (tCmp p ta tb) := by
  intro pins s σ H Q I h
  refine bin ha hb I h fun v u s2 x y H2 I2 rx ry q => ?_
  obtain ⟨i, j, rfl, rfl, q⟩ := q
  obtain ⟨t, rfl⟩ := rx
  obtain ⟨t', rfl⟩ := ry
  exact rule i j t t' _ s2 ⟨.bl _, H2, I2, rfl, q⟩
theorem pc_lt (ha : PE X a ta) (hb : PE X b tb) : PC X .Lt a b (tLt ta tb) := pc_int ha hb fun _ _ _ _ _ _ h => lt_int h
theorem pc_le (ha : PE X a ta) (hb : PE X b tb) : PC X .LtE a b (tLe ta tb) := pc_int ha hb fun _ _ _ _ _ _ h => le_int h
theorem pc_gt (ha : PE X a ta) (hb : PE X b tb) : PC X .Gt a b (tGt ta tb) := pc_int ha hb fun _ _ _ _ _ _ h => gt_int h
theorem pc_ge (ha : PE X a ta) (hb : PE X b tb) : PC X .GtE a b (tGe ta tb) := pc_int ha hb fun _ _ _ _ _ _ h => ge_int h
theorem pc_eqI (ha : PE X a ta) (hb : PE X b tb) : PC X .Eq a b (tEqI ta tb) := pc_int ha hb fun _ _ _ _ _ _ h => eq_int (by rw [Bool.beq_eq_decide_eq]; exact h)
theorem pc_neI (ha : PE X a ta) (hb : PE X b tb) : PC X .NotEq a b (tNeI ta tb) := pc_int ha hb fun _ _ _ _ _ _ h => ne_int (by rw [bne, Bool.beq_eq_decide_eq]; exact h)
/-- is None -/
def tIsN (ta : TE) : TE := fun σ H Q => ta σ H fun x H1 => Q (.bl (decide (x = .non))) H1
def tNotN (ta : TE) : TE := fun σ H Q => ta σ H fun x H1 => Q (.bl (!decide (x = .non))) H1
theorem RelV.none_iff {x : V} {v : Value} (r : RelV x v) : (v == Value.none) = decide (x = .non) := by
  cases x with
  | non => cases r; rfl
  | bl _ => cases r; rfl
  | int _ => obtain ⟨t, rfl⟩ := r; rfl
  | str _ => obtain ⟨t, rfl⟩ := r; rfl
  | byt _ => obtain ⟨t, rfl⟩ := r; rfl
  | flt _ => obtain ⟨t, rfl⟩ := r; rfl
  | ref _ => cases r; rfl
  | ty _ => cases r; rfl
theorem pc_isN {j pos'} (ha : PE X a ta) : PC X .Is a (.Constant .none j pos') (tIsN ta) := by
  intro pins s σ H Q I h
  refine thn (ha pins s σ H _ I h) fun v s1 ⟨x, H1, I1, r1, q1⟩ => ?_
  exact Constant_none (is_none_gen ⟨.bl _, H1, I1, by rw [r1.none_iff]; rfl, q1⟩)
theorem pc_notN {j pos'} (ha : PE X a ta) : PC X .IsNot a (.Constant .none j pos') (tNotN ta) := by
  intro pins s σ H Q I h
  refine thn (ha pins s σ H _ I h) fun v s1 ⟨x, H1, I1, r1, q1⟩ => ?_
  exact Constant_none (isnot_none_gen ⟨.bl _, H1, I1, by rw [r1.none_iff]; rfl, q1⟩)
/-- a comparison as a value, as a test -/
def tB (t : TE) : TT := fun σ H Q => t σ H fun x H1 => ∃ c, x = .bl c ∧ Q c H1
theorem pe_cmp {op : CmpOp} {t : TE} (h : PC X op a b t) (h1 : behindInMarks op b = false := by first | exact nobehind _ (by decide) (by decide) | rfl) : PE X (.Compare a [op] [b] pos) t := fun pins s σ H Q I hw => wpAny_Compare1 (h pins s σ H Q I hw) h1
theorem pt_cmp {op : CmpOp} {t : TE} (h : PC X op a b t) (h1 : behindInMarks op b = false := by first | exact nobehind _ (by decide) (by decide) | rfl) : PT X (.Compare a [op] [b] pos) (tB t) := by
  intro pins s σ H Q I hw
  refine wpAny_isTrue_Compare1 (thn (h pins s σ H _ I hw) fun v s1 h1 => thn h1 fun u s2 h2 => thn h2 fun c s3 ⟨x, H1, I1, r1, q1⟩ => ?_) h1
  obtain ⟨d, rfl, q⟩ := q1
  cases r1
  exact wpAny_truthy_bool ⟨H1, I1, q⟩
/-- an expression whose value is a bool, as a test -/
theorem pt_val {e : Expr} {t : TE} (h : PE X e t) (he : ∀ whole, isTrue e X.env whole = (do let v ← whole; standAt e.pos; holding [v] (truthy v)) := by intro _; rfl) : PT X e (tB t) := by
  intro pins s σ H Q I hw
  refine isTrue_plain (thn (h pins s σ H _ I hw) fun v s1 ⟨x, H1, I1, r1, q1⟩ => ?_) (he _)
  obtain ⟨d, rfl, q⟩ := q1
  cases r1
  exact wpAny_truthy_bool ⟨H1, I1, q⟩

/-! ### and, or, not -/
variable {tA tB' : TT} {rest : List Expr}
def tAnd (t u : TT) : TT := fun σ H Q => t σ H fun c H1 => if c = true then u σ H1 Q else Q false H1
def tOr (t u : TT) : TT := fun σ H Q => t σ H fun c H1 => if c = true then Q true H1 else u σ H1 Q
def tNot (t : TT) : TT := fun σ H Q => t σ H fun c H1 => Q (!c) H1
theorem pw_and1 (ha : PT X a tA) : PW X (.BoolOp .And [a] pos) tA := by
  intro wh pins s σ H Q I h
  refine isTrue_and (thn (ha pins s σ H Q I h) fun c s1 e => ?_)
  cases c with
  | true => exact isTrue_and_nil e
  | false => exact e
theorem pw_or1 (ha : PT X a tA) : PW X (.BoolOp .Or [a] pos) tA := by
  intro wh pins s σ H Q I h
  refine isTrue_or (thn (ha pins s σ H Q I h) fun c s1 e => ?_)
  cases c with
  | false => exact isTrue_or_nil e
  | true => exact e
theorem pw_and (ha : PT X a tA) (hb : PW X (.BoolOp .And (b :: rest) pos) tB') : PW X (.BoolOp .And (a :: b :: rest) pos) (tAnd tA tB') := by
  intro wh pins s σ H Q I h
  refine isTrue_and (thn (ha pins s σ H _ I h) fun c s1 ⟨H1, I1, q1⟩ => ?_)
  cases c with
  | true => exact hb wh pins s1 σ H1 Q I1 q1
  | false => exact ⟨H1, I1, q1⟩
theorem pw_or (ha : PT X a tA) (hb : PW X (.BoolOp .Or (b :: rest) pos) tB') : PW X (.BoolOp .Or (a :: b :: rest) pos) (tOr tA tB') := by
  intro wh pins s σ H Q I h
  refine isTrue_or (thn (ha pins s σ H _ I h) fun c s1 ⟨H1, I1, q1⟩ => ?_)
  cases c with
  | true => exact ⟨H1, I1, q1⟩
  | false => exact hb wh pins s1 σ H1 Q I1 q1
theorem pt_not (ha : PT X a tA) : PT X (.UnaryOp .Not a pos) (tNot tA) := by
  intro pins s σ H Q I h
  exact isTrue_not (ha pins s σ H (fun c H1 => Q (!c) H1) I h)
/-- .. as values (bools) -/
def tAndV (ta tb : TE) : TE := fun σ H Q => ta σ H fun x H1 => ∃ c, x = .bl c ∧ if c = true then tb σ H1 Q else Q (.bl false) H1
def tOrV (ta tb : TE) : TE := fun σ H Q => ta σ H fun x H1 => ∃ c, x = .bl c ∧ if c = true then Q (.bl true) H1 else tb σ H1 Q
def tNotV (ta : TE) : TE := fun σ H Q => ta σ H fun x H1 => ∃ c, x = .bl c ∧ Q (.bl (!c)) H1
theorem pe_one {op} {t : TE} (h : PE X a t) : PE X (.BoolOp op [a] pos) t := fun pins s σ H Q I hw => BoolOp_one (h pins s σ H Q I hw)
theorem pe_and (ha : PE X a ta) (hb : PE X (.BoolOp .And (b :: rest) pos) tb) : PE X (.BoolOp .And (a :: b :: rest) pos) (tAndV ta tb) := by
  intro pins s σ H Q I h
  refine BoolOp_and (thn (ha pins s σ H _ I h) fun v s1 ⟨x, H1, I1, r1, q1⟩ => ?_)
  obtain ⟨c, rfl, q1⟩ := q1
  cases r1
  refine wpAny_truthy_bool ?_
  cases c with
  | true => exact hb pins s1 σ H1 Q I1 q1
  | false => exact ⟨.bl false, H1, I1, rfl, q1⟩
theorem pe_or (ha : PE X a ta) (hb : PE X (.BoolOp .Or (b :: rest) pos) tb) : PE X (.BoolOp .Or (a :: b :: rest) pos) (tOrV ta tb) := by
  intro pins s σ H Q I h
  refine BoolOp_or (thn (ha pins s σ H _ I h) fun v s1 ⟨x, H1, I1, r1, q1⟩ => ?_)
  obtain ⟨c, rfl, q1⟩ := q1
  cases r1
  refine wpAny_truthy_bool ?_
  cases c with
  | false => exact hb pins s1 σ H1 Q I1 q1
  | true => exact ⟨.bl true, H1, I1, rfl, q1⟩
theorem pe_not (ha : PE X a ta) : PE X (.UnaryOp .Not a pos) (tNotV ta) := by
  intro pins s σ H Q I h
  refine UnaryOp_ (thn (ha pins s σ H _ I h) fun v s1 ⟨x, H1, I1, r1, q1⟩ => ?_)
  obtain ⟨c, rfl, q1⟩ := q1
  cases r1
  exact not_of (wpAny_truthy_bool ⟨.bl (!c), H1, I1, rfl, q1⟩)
/-- a if t else b -/
def tIf (t : TT) (ta tb : TE) : TE := fun σ H Q => t σ H fun c H1 => if c = true then ta σ H1 Q else tb σ H1 Q
theorem pe_ifExp {c : Expr} (hc : PT X c tA) (ha : PE X a ta) (hb : PE X b tb) : PE X (.IfExp c a b pos) (tIf tA ta tb) := by
  intro pins s σ H Q I h
  refine wpAny_IfExp (thn (hc pins s σ H _ I h) fun d s1 ⟨H1, I1, q1⟩ => ?_)
  cases d with
  | true => exact ha pins s1 σ H1 Q I1 q1
  | false => exact hb pins s1 σ H1 Q I1 q1
end
end L2

namespace L2
open PySem PySem.Spec PyProof.Rows

/-! ### a list, a tuple that is read: tracked, frozen, or an object of the module -/
def SqL (K : PySem.W.Frag) (H : Hp) (a : Addr) (xs : List V) : Prop :=
  Rd H a (.lst xs) ∨
    ∃ (o : Obj) (its : Array Value) (n : Nat), K.lookup a = some o ∧ o.cls = .type "list" ∧ o.dict = none ∧ o.data = .seq its n ∧ its.size ≤ sizeLine ∧ Vals xs its.toList
def SqT (K : PySem.W.Frag) (H : Hp) (a : Addr) (xs : List V) : Prop :=
  Rd H a (.tup xs) ∨
    ∃ (o : Obj) (its : Array Value) (n : Nat), K.lookup a = some o ∧ o.cls = .type "tuple" ∧ o.data = .seq its n ∧ its.size ≤ sizeLine ∧ Vals xs its.toList
def absV : Value → Option V
  | .none => some .non
  | .bool b => some (.bl b)
  | .int i _ => some (.int i)
  | .str x _ => some (.str x)
  | .bytes b _ => some (.byt b)
  | .float b _ => some (.flt b)
  | .ref a => some (.ref a)
  | .type n => some (.ty n)
  | _ => none
theorem RelV.abs {x : V} {u : Value} (r : RelV x u) : absV u = some x := by
  cases x with
  | non => cases r; rfl
  | bl _ => cases r; rfl
  | int _ => obtain ⟨t, rfl⟩ := r; rfl
  | str _ => obtain ⟨t, rfl⟩ := r; rfl
  | byt _ => obtain ⟨t, rfl⟩ := r; rfl
  | flt _ => obtain ⟨t, rfl⟩ := r; rfl
  | ref _ => cases r; rfl
  | ty _ => cases r; rfl
theorem RelV.inj {x y : V} {u : Value} (r : RelV x u) (q : RelV y u) : x = y := Option.some.inj (r.abs.symm.trans q.abs)
theorem Vals.inj : ∀ {xs ys : List V} {us : List Value}, Vals xs us → Vals ys us → xs = ys
  | _, _, _, .nil, .nil => rfl
  | _, _, _, .cons r t, .cons r' t' => by rw [r.inj r', Vals.inj t t']
section
variable {X : Cx} {pins : List (Addr × Obj)} {σ : St} {H : Hp} {s : Shared} {a : Addr} {xs ys : List V}
theorem SqL.of {K : PySem.W.Frag} (h : H a = some (.lst xs)) : SqL K H a xs := .inl (.inl h)
theorem SqT.of {K : PySem.W.Frag} (h : H a = some (.tup xs)) : SqT K H a xs := .inl (.inl h)
theorem Inv.list (I : Inv X pins σ H s) (h : SqL X.K H a xs) : ∃ its : List Value, Vals xs its ∧ PlainL s.heap a its.toArray ∧ xs.length ≤ sizeLine := by
  rcases h with h | ⟨o, its, n, hk, hc, hd, hs, hz, r⟩
  · obtain ⟨z, its, n, r, e⟩ := h.ok I.hok
    exact ⟨its, r, ⟨_, n, e, rfl, rfl, rfl⟩, z⟩
  · refine ⟨its.toList, r, ⟨o, n, I.kIn a o hk, hc, hd, by simpa using hs⟩, ?_⟩
    have e := r.length
    simp only [Array.length_toList] at e
    omega
theorem Inv.tuple (I : Inv X pins σ H s) (h : SqT X.K H a xs) : ∃ its : List Value, Vals xs its ∧ IsTup s.heap a its.toArray ∧ xs.length ≤ sizeLine := by
  rcases h with h | ⟨o, its, n, hk, hc, hs, hz, r⟩
  · obtain ⟨z, its, r, p⟩ := h.ok I.hok
    exact ⟨its, r, p, z⟩
  · refine ⟨its.toList, r, ⟨o, I.kIn a o hk, hc, n, by simpa using hs⟩, ?_⟩
    have e := r.length
    simp only [Array.length_toList] at e
    omega
theorem Inv.list_inj (I : Inv X pins σ H s) (h : SqL X.K H a xs) (h' : SqL X.K H a ys) : xs = ys := by
  obtain ⟨its, r, ⟨o, n, e, _, _, d⟩, _⟩ := I.list h
  obtain ⟨its', r', ⟨o', n', e', _, _, d'⟩, _⟩ := I.list h'
  rw [e] at e'; cases e'
  rw [d] at d'
  injection d' with d1 _
  have : its = its' := by simpa using congrArg Array.toList d1
  subst this
  exact r.inj r'
theorem Inv.tuple_inj (I : Inv X pins σ H s) (h : SqT X.K H a xs) (h' : SqT X.K H a ys) : xs = ys := by
  obtain ⟨its, r, ⟨o, e, _, n, d⟩, _⟩ := I.tuple h
  obtain ⟨its', r', ⟨o', e', _, n', d'⟩, _⟩ := I.tuple h'
  rw [e] at e'; cases e'
  rw [d] at d'
  injection d' with d1 _
  have : its = its' := by simpa using congrArg Array.toList d1
  subst this
  exact r.inj r'
end

/-! ### another wish about exceptions -/
abbrev Cx.wish (X : Cx) (E : Value → Shared → Prop) : Cx := { X with xe := E }
/-- no exception leaves -/
abbrev Cx.nox (X : Cx) : Cx := X.wish fun _ _ => False
theorem Cx.Ok.wish {X : Cx} (ok : X.Ok) (E : Value → Shared → Prop) : (X.wish E).Ok :=
  ⟨ok.mod, ok.kind, ok.glob, ok.blt, ok.above, ok.inj, ok.has, ok.cab, ok.hd, ok.frames, ok.stk, ok.exf, ok.bs, ok.bsz, ok.noex, ok.exfs, ok.funs, ok.frf⟩
theorem Cx.Ok.unwish {X : Cx} {E : Value → Shared → Prop} (ok : (X.wish E).Ok) : X.Ok :=
  ⟨ok.mod, ok.kind, ok.glob, ok.blt, ok.above, ok.inj, ok.has, ok.cab, ok.hd, ok.frames, ok.stk, ok.exf, ok.bs, ok.bsz, ok.noex, ok.exfs, ok.funs, ok.frf⟩
section
variable {X : Cx} {pins : List (Addr × Obj)} {σ : St} {H : Hp} {s : Shared} {E : Value → Shared → Prop}
theorem Inv.wish (I : Inv X pins σ H s) (E : Value → Shared → Prop) : Inv (X.wish E) pins σ H s := ⟨I.ok.wish E, I.os, I.bare, I.base, I.loc, I.cell, I.free, I.freeC, I.pin, I.hok, I.len⟩
theorem Inv.unwish (I : Inv (X.wish E) pins σ H s) : Inv X pins σ H s := ⟨I.ok.unwish, I.os, I.bare, I.base, I.loc, I.cell, I.free, I.freeC, I.pin, I.hok, I.len⟩
theorem SP.unwish {D : Ends} {f : Flow} {s' : Shared} (h : SP (X.wish E) pins D f s') : SP X pins D f s' := by
  cases f with
  | next => obtain ⟨σ', H', I, q⟩ := h; exact ⟨σ', H', I.unwish, q⟩
  | brk => obtain ⟨σ', H', I, q⟩ := h; exact ⟨σ', H', I.unwish, q⟩
  | cont => obtain ⟨σ', H', I, q⟩ := h; exact ⟨σ', H', I.unwish, q⟩
  | ret u => obtain ⟨v, σ', H', I, r, q⟩ := h; exact ⟨v, σ', H', I.unwish, r, q⟩
theorem PE.nox {e : Expr} {t : TE} (h : PE X.nox e t) : PE X e t := fun pins s σ H Q I hw =>
  wpAny_mono (h pins s σ H Q (I.wish _) hw) (fun _ _ ⟨v, H', I', r, q⟩ => ⟨v, H', I'.unwish, r, q⟩) fun _ _ z => False.elim z
theorem PT.nox {e : Expr} {t : TT} (h : PT X.nox e t) : PT X e t := fun pins s σ H Q I hw =>
  wpAny_mono (h pins s σ H Q (I.wish _) hw) (fun _ _ ⟨H', I', q⟩ => ⟨H', I'.unwish, q⟩) fun _ _ z => False.elim z
theorem PSs.nox {st : List Stmt} {t : TS} (h : PSs X.nox st t) : PSs X st t := fun pins s σ H D I hw =>
  wpAny_mono (h pins s σ H D (I.wish _) hw) (fun _ _ q => q.unwish) fun _ _ z => False.elim z
end

/-! ### blocks and small statements -/
section
variable {X : Cx} {st : Stmt} {rest : List Stmt} {t u : TS} {e : Expr} {te : TE} {pos : Pos}
def tNext : TS := fun D σ H => D.nx σ H
def tSeq (t u : TS) : TS := fun D σ H => t { D with nx := u D } σ H
theorem pss_nil : PSs X [] tNext := fun _ _ σ H _ I h => wpAny_execs_nil ⟨σ, H, I, h⟩
theorem pss_cons (h1 : PS X st t) (h2 : PSs X rest u) : PSs X (st :: rest) (tSeq t u) := by
  intro pins s σ H D I h
  refine wpAny_execs_cons (thn (h1 pins s σ H { D with nx := u D } I h) fun f s1 q => ?_)
  cases f with
  | next =>
    obtain ⟨σ', H', I', q⟩ := q
    exact h2 pins s1 σ' H' D I' q
  | ret v => exact q
  | brk => exact q
  | cont => exact q
theorem pss_one (h1 : PS X st t) : PSs X [st] t := by
  intro pins s σ H D I h
  refine wpAny_execs_cons (thn (h1 pins s σ H D I h) fun f s1 q => ?_)
  cases f with
  | next => exact wpAny_execs_nil q
  | ret v => exact q
  | brk => exact q
  | cont => exact q
def tBreak : TS := fun D σ H => D.bk σ H
def tCont : TS := fun D σ H => D.ct σ H
theorem ps_pass : PS X (.Pass pos) tNext := fun _ _ σ H _ I h => wpAny_Pass ⟨σ, H, I, h⟩
theorem ps_break : PS X (.Break pos) tBreak := fun _ _ σ H _ I h => wpAny_Break ⟨σ, H, I, h⟩
theorem ps_continue : PS X (.Continue pos) tCont := fun _ _ σ H _ I h => wpAny_Continue ⟨σ, H, I, h⟩
/-- in a def's body nothing is shown -/
theorem Inv.quiet {pins : List (Addr × Obj)} {σ : St} {H : Hp} {s : Shared} (I : Inv X pins σ H s) : interactive X.env = false := by simp [interactive, I.ok.kind]
/-- a docstring -/
theorem ps_doc {x j pos pos'} : PS X (.Expr (.Constant (.str x) j pos) pos') tNext := fun _ s σ H _ I h => wpAny_Expr (Calls.Constant_str (show SP X _ _ .next { s with toks := s.toks + 1 } from ⟨σ, H, I.tok _, h⟩)) I.quiet
/-- an expression whose value is dropped -/
def tDrop (te : TE) : TS := fun D σ H => te σ H fun _ H1 => D.nx σ H1
theorem ps_expr (he : PE X e te) (hs : swapsWith e none pos.line X.env = pure false := by rfl) : PS X (.Expr e pos) (tDrop te) := by
  intro pins s σ H D I h
  exact wpAny_Expr_any (thn (he pins s σ H _ I h) fun v s1 ⟨x, H1, I1, r1, q1⟩ => ⟨σ, H1, I1, q1⟩) I.quiet hs
def tRet (te : TE) : TS := fun D σ H => te σ H D.rt
theorem ps_ret (he : PE X e te) : PS X (.Return (some e) pos) (tRet te) := by
  intro pins s σ H D I h
  exact wpAny_Return_some (thn (he pins s σ H _ I h) fun v s1 ⟨x, H1, I1, r1, q1⟩ => ⟨x, σ, H1, I1, r1, q1⟩)
def tRetN : TS := fun D _ H => D.rt .non H
theorem ps_retN : PS X (.Return none pos) tRetN := fun _ _ σ H _ I h => wpAny_Return_none ⟨.non, σ, H, I, rfl, h⟩
def tIfS (c : TT) (t u : TS) : TS := fun D σ H => c σ H fun b H1 => if b = true then t D σ H1 else u D σ H1
theorem ps_if {c : Expr} {a b : List Stmt} {tc : TT} (hc : PT X c tc) (ha : PSs X a t) (hb : PSs X b u) : PS X (.If c a b pos) (tIfS tc t u) := by
  intro pins s σ H D I h
  refine wpAny_If (thn (hc pins s σ H _ I h) fun d s1 ⟨H1, I1, q1⟩ => ?_)
  cases d with
  | true => exact ha pins s1 σ H1 D I1 q1
  | false => exact hb pins s1 σ H1 D I1 q1
/-- code that the proof never comes to -/
def tNever : TS := fun _ _ _ => False
theorem ps_never : PS X st tNever := fun _ _ _ _ _ _ h => h.elim
theorem pss_never {sts : List Stmt} : PSs X sts tNever := fun _ _ _ _ _ _ h => h.elim
end

/-! ### targets -/
abbrev TG := V → St → Hp → (St → Hp → Prop) → Prop
abbrev TGs := List V → St → Hp → (St → Hp → Prop) → Prop
def PG (X : Cx) (target : Expr) (t : TG) : Prop :=
  ∀ (pins : List (Addr × Obj)) (s : Shared) (σ : St) (H : Hp) (v : V) (u : Value) (Q : St → Hp → Prop), Inv X pins σ H s → RelV v u → t v σ H Q →
    wpAny (model X.prog X.w) X.A (assign target X.env u) (fun _ s' => ∃ σ' H', Inv X pins σ' H' s' ∧ Q σ' H') X.xe s
/-- several targets, one after another -/
def PGs (X : Cx) (ts : List Expr) (t : TGs) : Prop :=
  ∀ (pins : List (Addr × Obj)) (s : Shared) (σ : St) (H : Hp) (vs : List V) (us : List Value) (Q : St → Hp → Prop), Inv X pins σ H s → Vals vs us → t vs σ H Q →
    wpAny (model X.prog X.w) X.A (assignInOrder ((assignEach ts X.env).map (·.2)) us) (fun _ s' => ∃ σ' H', Inv X pins σ' H' s' ∧ Q σ' H') X.xe s
/-- o[i] = v, by values -/
abbrev TSet := V → V → V → Hp → (Hp → Prop) → Prop
def PSet (X : Cx) (t : TSet) : Prop :=
  ∀ (pins : List (Addr × Obj)) (s : Shared) (σ : St) (H : Hp) (o i v : V) (ov iv u : Value) (Q : Hp → Prop), Inv X pins σ H s → RelV o ov → RelV i iv → RelV v u → t o i v H Q →
    wpAny (model X.prog X.w) X.A (setItem ov iv u) (fun _ s' => ∃ H', Inv X pins σ H' s' ∧ Q H') X.xe s
/-- a op= b, by values -/
abbrev TIp := V → V → Hp → VK → Prop
def PIp (X : Cx) (op : Operator) (t : TIp) : Prop :=
  ∀ (pins : List (Addr × Obj)) (s : Shared) (σ : St) (H : Hp) (x y : V) (v u : Value) (Q : VK), Inv X pins σ H s → RelV x v → RelV y u → t x y H Q →
    wpAny (model X.prog X.w) X.A (inplaceOp op v u) (EP X pins σ Q) X.xe s
section
variable {X : Cx} {pos : Pos}
def gName (i : Nat) : TG := fun v σ H Q => Q (σ.set i (some v)) H
theorem pg_name {i : Nat} {x : Str} (hN : X.N.Nodup) (hi : X.N[i]? = some x) (hx : Loc X.env.scope x) (hf : X.fn x = true ∨ X.env.scope.names.lookup x = some .local := by first | exact .inl rfl | exact .inr rfl | assumption) : PG X (.Name x pos) (gName i) := by
  intro pins s σ H v u Q I r h
  exact wpAny_assign_Name (store_ok I hN hi hx r (fun s' I' => ⟨_, H, I', h⟩) hf)
def gNil : TGs := fun vs σ H Q => vs = [] ∧ Q σ H
def gCons (t : TG) (u : TGs) : TGs := fun vs σ H Q => ∃ v r, vs = v :: r ∧ t v σ H fun σ' H' => u r σ' H' Q
theorem pgs_nil : PGs X [] gNil := by
  intro pins s σ H vs us Q I r h
  obtain ⟨e, h⟩ := h
  subst e
  cases r
  exact assignInOrder_nil ⟨σ, H, I, h⟩
theorem pgs_cons {e : Expr} {es : List Expr} {t : TG} {u : TGs} (h1 : PG X e t) (h2 : PGs X es u)
    (hs : (assignEach (e :: es) X.env).map (·.2) = assign e X.env :: (assignEach es X.env).map (·.2) := by rfl) : PGs X (e :: es) (gCons t u) := by
  intro pins s σ H vs us Q I r h
  obtain ⟨v, vr, e1, h⟩ := h
  subst e1
  cases r with
  | cons r rr =>
    rw [hs]
    refine assignInOrder_cons (thn (h1 pins s σ H _ _ _ I r h) fun _ s1 ⟨σ1, H1, I1, q1⟩ => ?_)
    exact h2 pins s1 σ1 H1 _ _ Q I1 rr q1
/-- (a, b, ..) = a tuple of that length -/
def gTup (K : PySem.W.Frag) (n : Nat) (t : TGs) : TG := fun v σ H Q => ∃ a xs, v = .ref a ∧ SqT K H a xs ∧ xs.length = n ∧ t xs σ H Q
theorem pg_tup {es : List Expr} {k : Nat} {t : TGs} {n : Nat} (hc : X.calm = true) (h : PGs X es t)
    (hn : (assignEach es X.env).length = n := by rfl) (hst : (assignEach es X.env).findIdx? (·.1) = none := by rfl) : PG X (.Tuple es k pos) (gTup X.K n t) := by
  intro pins s σ H v u Q I r hw
  obtain ⟨a, xs, e1, hq, hl, hw⟩ := hw
  subst e1
  cases r
  obtain ⟨its, rv, ht, hz⟩ := I.tuple hq
  refine assign_Tuple_tuple (I.ok.hd hc) ht (by simp [hn, ← hl, rv.length]) hst fun h' hx => ?_
  have I1 : Inv X pins σ H { s with heap := h' } := I.kept (t' := s.toks) fun b o e => hx b o (Nat.ne_of_lt (Heap.lt_size e)) e
  exact h pins _ σ H xs _ Q I1 (by simpa using rv) hw
/-- o[i] = .. -/
def gSub (to ti : TE) (t : TSet) : TG := fun v σ H Q => to σ H fun o H1 => ti σ H1 fun i H2 => t o i v H2 fun H3 => Q σ H3
theorem pg_sub {o i : Expr} {to ti : TE} {t : TSet} (ho : PE X o to) (hi : PE X i ti) (hs : PSet X t)
    (ha : ∀ v, assign (.Subscript o i pos) X.env v = (do
      let ov ← holding [v] (eval o X.env)
      let iv ← holding [v, ov] (eval i X.env)
      standAt pos
      holding [v, ov, iv] (setItem ov iv v)
      release [v, ov, iv] []) := by intro _; rfl) : PG X (.Subscript o i pos) (gSub to ti t) := by
  intro pins s σ H v u Q I r h
  rw [ha]
  refine wpAny_bind (wpAny_holding (thn (ho pins s σ H _ I h) fun ov s1 ⟨x, H1, I1, r1, q1⟩ => ?_))
  refine wpAny_bind (wpAny_holding (thn (hi pins s1 σ H1 _ I1 q1) fun iv s2 ⟨y, H2, I2, r2, q2⟩ => ?_))
  refine wpAny_bind (wpAny_standAt (wpAny_bind (wpAny_holding (thn (hs pins s2 σ H2 x y v ov iv u _ I2 r1 r2 r q2) fun _ s3 ⟨H3, I3, q3⟩ => ?_))))
  exact wpAny_release ⟨σ, H3, I3, q3⟩
/-- target = value -/
def tAsg (te : TE) (g : TG) : TS := fun D σ H => te σ H fun x H1 => g x σ H1 D.nx
theorem ps_asg {tg e : Expr} {te : TE} {g : TG} (he : PE X e te) (hg : PG X tg g) (hs : swapsWithSole [tg] e pos.line X.env = pure false := by rfl) (hw : swappedStores [tg] e X.env = pure none := by rfl)
    (h1 : (assignEach [tg] X.env).map (·.2) = [assign tg X.env] := by rfl) : PS X (.Assign [tg] e pos) (tAsg te g) := by
  intro pins s σ H D I h
  refine wpAny_Assign_stores (thn (he pins s σ H _ I h) fun v s1 ⟨x, H1, I1, r1, q1⟩ => ?_) hs hw
  rw [h1]
  exact thn (hg pins s1 σ H1 x v _ I1 r1 q1) fun _ s2 q => q
/-- name = value -/
theorem ps_set {i : Nat} {x : Str} {e : Expr} {te : TE} {pos' : Pos} (hN : X.N.Nodup) (hi : X.N[i]? = some x) (hx : Loc X.env.scope x) (he : PE X e te) (hs : swapsWith e (some (.Name x pos')) pos.line X.env = pure false := by rfl) (hf : X.fn x = true ∨ X.env.scope.names.lookup x = some .local := by first | exact .inl rfl | exact .inr rfl | assumption) :
    PS X (.Assign [.Name x pos'] e pos) (tAsg te (gName i)) := by
  intro pins s σ H D I h
  refine wpAny_Assign_Name (thn (he pins s σ H _ I h) fun v s1 ⟨y, H1, I1, r1, q1⟩ => ?_) hs
  exact store_ok I1 hN hi hx r1 (fun s2 I2 => ⟨_, H1, I2, q1⟩) hf
/-- a, b = x, y with plain local names: stored from the right; the pair itself is not tracked (the opening rows as in PyProof/Rows/TupAssign.lean:23) -/
def tPar (i j : Nat) (ta : TA) : TS := fun D σ H => ta σ H fun vs H1 => ∃ v w, vs = [v, w] ∧ D.nx ((σ.set i (some v)).set j (some w)) H1
theorem ps_par {i j : Nat} {x y : Str} {a b : Expr} {ta : TA} {px py pt : Pos} {kt k2 pt2} (hc : X.calm = true) (hN : X.N.Nodup) (hi : X.N[i]? = some x) (hj : X.N[j]? = some y) (hij : i ≠ j)
    (hx : X.env.scope.names.lookup x = some .local) (hy : X.env.scope.names.lookup y = some .local) (ha : PA X [a, b] ta)
    (hw : swappedStores [.Tuple [.Name x px, .Name y py] kt pt] (.Tuple [a, b] k2 pt2) X.env = pure (some [x, y]))
    (hs : swapsWithSole [.Tuple [.Name x px, .Name y py] kt pt] (.Tuple [a, b] k2 pt2) pos.line X.env = pure false := by rfl) :
    PS X (.Assign [.Tuple [.Name x px, .Name y py] kt pt] (.Tuple [a, b] k2 pt2) pos) (tPar i j ta) := by
  intro pins s σ H D I h
  rw [exec_Assign_arm]
  refine wpAny_bind (wpAny_standAt ?_)
  rw [hs]
  refine wpAny_bind (wpAny_pure ?_)
  rw [if_neg (by decide)]
  refine wpAny_bind (Tuple_ (thn (ha _ pins s σ H _ I h) fun us s1 ⟨vs, H1, I1, r1, q1⟩ => ?_))
  obtain ⟨v, w, e1, q1⟩ := q1
  subst e1
  obtain ⟨u1, u2, rfl, rv, rw'⟩ : ∃ u1 u2, us = [u1, u2] ∧ RelV v u1 ∧ RelV w u2 := by
    cases r1 with
    | cons p q =>
      cases q with
      | cons p' q' =>
        cases q'
        exact ⟨_, _, rfl, p, p'⟩
  refine wpAny_newObj_type ?_ (by show 2 ≤ sizeLine; decide)
  have I2 : Inv X pins σ H1 { s1 with heap := s1.heap.push { cls := .type "tuple", data := .seq [u1, u2].toArray } } := I1.kept (t' := s1.toks) fun b o e => Heap.get?_push_of_some _ e
  rw [hw]
  refine wpAny_bind (wpAny_pure ?_)
  show wpAny (model X.prog X.w) X.A (do rule "assign.swapped-stores"; let items ← unpackItems (.ref s1.heap.objs.size) 2 none; assignInOrder [fun v => bindName X.env y v, fun v => bindName X.env x v] items.reverse; pure Flow.next) _ _ _
  refine wpAny_bind (wpAny_rule (wpAny_bind (unpackItems_tuple (items := #[u1, u2]) (I.ok.hd hc) (IsTup.new s1.heap _) fun h' hx' => ?_)))
  have I3 := I2.kept (h' := h') (t' := s1.toks) fun b o e => hx' b o (Nat.ne_of_lt (Heap.lt_size e)) e
  show wpAny _ _ (assignInOrder [fun v => bindName X.env y v, fun v => bindName X.env x v] [u2, u1] >>= fun _ => pure Flow.next) _ _ _
  refine wpAny_bind (assignInOrder_cons (wpAny_bindName (store_ok I3 hN hj (.inl hy) rw' (fun s2 I4 => ?_) (.inr hy))))
  refine assignInOrder_cons (wpAny_bindName (store_ok I4 hN hi (.inl hx) rv (fun s3 I5 => assignInOrder_nil (wpAny_pure ?_)) (.inr hx)))
  rw [List.set_comm _ _ (Ne.symm hij)] at I5
  exact ⟨_, H1, I5, q1⟩
/-- name op= e -/
def tAug (i : Nat) (te : TE) (ti : TIp) : TS := fun D σ H => ∃ x, σ[i]? = some (some x) ∧ te σ H fun y H1 => ti x y H1 fun z H2 => D.nx (σ.set i (some z)) H2
theorem ps_aug {i : Nat} {x : Str} {e : Expr} {te : TE} {op : Operator} {ti : TIp} {pos' : Pos} (hN : X.N.Nodup) (hi : X.N[i]? = some x) (hx : Loc X.env.scope x) (he : PE X e te) (ho : PIp X op ti) (hf : X.fn x = true ∨ X.env.scope.names.lookup x = some .local := by first | exact .inl rfl | exact .inr rfl | assumption) :
    PS X (.AugAssign (.Name x pos') op e pos) (tAug i te ti) := by
  intro pins s σ H D I h
  obtain ⟨v, e1, h⟩ := h
  obtain ⟨m, hn, hl⟩ := I.loc
  have vis : Vis X.env.scope x := by rcases hx with k | k; exact .inl k; exact .inr (.inl k)
  obtain ⟨u, r, l⟩ := hl i x v hi e1 vis
  refine wpAny_AugAssign_Name ?_
  have go : wpAny (model X.prog X.w) X.A (eval e X.env) (fun w s₂ => wpAny (model X.prog X.w) X.A (inplaceOp op u w) (fun r s₃ => wpAny (model X.prog X.w) X.A (storeName X.env x r) (fun _ => SP X pins D .next) X.xe s₃) X.xe s₂) X.xe s := by
    refine thn (he pins s σ H _ I h) fun w s1 ⟨y, H1, I1, r1, q1⟩ => ?_
    refine thn (ho pins s1 σ H1 v y u w _ I1 r r1 q1) fun z s2 ⟨zv, H2, I2, r2, q2⟩ => ?_
    exact store_ok I2 hN hi hx r2 (fun s3 I3 => ⟨_, H2, I3, q2⟩) hf
  rcases l with ⟨hk, hm⟩ | ⟨hk, c, hc, hcell⟩
  · exact wpAny_loadName_local I.ok.kind hk hn hm go
  · rcases hk with hk | hk
    · exact wpAny_loadName_cell I.ok.kind hk hc hcell go
    · rcases hx with k | k
      · have : X.env.scope.names.lookup x = some .free := hk
        rw [k] at this; cases this
      · have : X.env.scope.names.lookup x = some .free := hk
        rw [k] at this; cases this
/-- o[i] op= e -/
def tAugS (to ti te : TE) (tget : V → V → Hp → VK → Prop) (tip : TIp) (tset : TSet) : TS := fun D σ H => to σ H fun o H1 => ti σ H1 fun i H2 => tget o i H2 fun x H3 => te σ H3 fun y H4 => tip x y H4 fun z H5 => tset o i z H5 fun H6 => D.nx σ H6
/-- o[i], by values -/
def PGet (X : Cx) (t : V → V → Hp → VK → Prop) : Prop :=
  ∀ (pins : List (Addr × Obj)) (s : Shared) (σ : St) (H : Hp) (o i : V) (ov iv : Value) (Q : VK), Inv X pins σ H s → RelV o ov → RelV i iv → t o i H Q →
    wpAny (model X.prog X.w) X.A (getItem ov iv) (EP X pins σ Q) X.xe s
theorem ps_augS {o i e : Expr} {to ti te : TE} {tget : V → V → Hp → VK → Prop} {tip : TIp} {tset : TSet} {op : Operator} {tpos : Pos} (ho : PE X o to) (hi : PE X i ti) (hg : PGet X tget) (he : PE X e te) (hp : PIp X op tip) (hs : PSet X tset)
    (ha : ∀ ov iv new, augStore i ov iv new = (do holding [new, ov, iv] (setItem ov iv new); release [new, ov, iv] []; pure .next) := by intros; rfl) : PS X (.AugAssign (.Subscript o i tpos) op e pos) (tAugS to ti te tget tip tset) := by
  intro pins s σ H D I h
  refine wpAny_AugAssign_SubscriptAny (thn (ho pins s σ H _ I h) fun ov s1 ⟨x1, H1, I1, r1, q1⟩ => ?_) ha
  refine thn (hi pins s1 σ H1 _ I1 q1) fun iv s2 ⟨x2, H2, I2, r2, q2⟩ => ?_
  refine thn (hg pins s2 σ H2 x1 x2 ov iv _ I2 r1 r2 q2) fun old s3 ⟨x3, H3, I3, r3, q3⟩ => ?_
  refine thn (he pins s3 σ H3 _ I3 q3) fun v s4 ⟨x4, H4, I4, r4, q4⟩ => ?_
  refine thn (hp pins s4 σ H4 x3 x4 old v _ I4 r3 r4 q4) fun new s5 ⟨x5, H5, I5, r5, q5⟩ => ?_
  exact thn (hs pins s5 σ H5 x1 x2 x5 ov iv new _ I5 r1 r2 r5 q5) fun _ s6 ⟨H6, I6, q6⟩ => ⟨σ, H6, I6, q6⟩
/-- ints -/
def ipI (f : Int → Int → Int) : TIp := fun x y H Q => ∃ i j, x = .int i ∧ y = .int j ∧ Q (.int (f i j)) H
theorem ip_add : PIp X .Add (ipI fun i j => i + j) := by
  intro pins s σ H x y v u Q I r1 r2 h
  obtain ⟨i, j, e1, e2, q⟩ := h
  subst e1; subst e2
  obtain ⟨t, rfl⟩ := r1
  obtain ⟨t', rfl⟩ := r2
  exact iadd_int ⟨.int _, H, I.tok _, ⟨_, rfl⟩, q⟩
theorem ip_sub : PIp X .Sub (ipI fun i j => i - j) := by
  intro pins s σ H x y v u Q I r1 r2 h
  obtain ⟨i, j, e1, e2, q⟩ := h
  subst e1; subst e2
  obtain ⟨t, rfl⟩ := r1
  obtain ⟨t', rfl⟩ := r2
  exact isub_int ⟨.int _, H, I.tok _, ⟨_, rfl⟩, q⟩
end

/-! ### while -/
section
variable {X : Cx} {pos : Pos}
/-- the invariant W with its measure -/
def tWhile (c : TT) (tb : TS) : TS := fun D σ H => ∃ W : Nat → St → Hp → Prop, (∃ m, W m σ H) ∧ ∀ m σ H, W m σ H →
  c σ H fun b H1 => if b = true then ∃ N : St → Hp → Prop, (∀ σ' H', N σ' H' → ∃ m', m' < m ∧ W m' σ' H') ∧ tb { D with nx := N, ct := N, bk := D.nx } σ H1 else D.nx σ H1
theorem ps_while {c : Expr} {body : List Stmt} {tc : TT} {tb : TS} (hp : PassesOwn (model X.prog X.w) X.A X.env X.xe) (hc : PT X c tc) (hb : PSs X body tb) : PS X (.While c body [] pos) (tWhile tc tb) := by
  intro pins s σ H D I h
  obtain ⟨W, ⟨m0, w0⟩, turn⟩ := h
  refine wpAny_While (codeAny_whileLoop (fun n s' => ∃ σ' H', Inv X pins σ' H' s' ∧ W n σ' H') ?_ m0 ⟨σ, H, I, w0⟩)
  rintro n s1 ⟨σ1, H1, I1, w1⟩
  refine wpAny_passesOwn hp (thn (hc pins s1 σ1 H1 _ I1 (turn n σ1 H1 w1)) fun b s2 ⟨H2, I2, q2⟩ => ?_)
  cases b with
  | true =>
    obtain ⟨N, hN, q2⟩ := q2
    rw [if_pos rfl]
    refine wpAny_passesOwn hp (thn (hb pins s2 σ1 H2 _ I2 q2) fun f s3 q3 => ?_)
    cases f with
    | next =>
      obtain ⟨σ3, H3, I3, n3⟩ := q3
      obtain ⟨m', hm, w3⟩ := hN σ3 H3 n3
      exact ⟨m', hm, σ3, H3, I3, w3⟩
    | cont =>
      obtain ⟨σ3, H3, I3, n3⟩ := q3
      obtain ⟨m', hm, w3⟩ := hN σ3 H3 n3
      exact ⟨m', hm, σ3, H3, I3, w3⟩
    | brk => exact q3
    | ret v => exact q3
  | false =>
    rw [if_neg Bool.false_ne_true]
    exact wpAny_execs_nil ⟨σ1, H2, I2, q2⟩
end

/-! ### what a loop or a comprehension walks -/
/-- at turn i: it yields x (the heap may grow), or it stops -/
structure It where
  go : Nat → Hp → Prop
  yld : Nat → Hp → V → Hp → Prop
  stop : Nat → Hp → Prop
/-- the iterator's own objects may turn: they are not the frame's, not pinned, younger than the entry (or a comprehension's own) -/
def FpOk (X : Cx) (pins : List (Addr × Obj)) (H : Hp) (b : Addr) : Prop :=
  H b = none ∧ b ≠ X.env.locals ∧ b ∉ X.fs ∧ (b ∈ X.ex ∨ X.s₀.heap.objs.size ≤ b) ∧ (∀ x c, X.env.cells.lookup x = some c → c ≠ b) ∧ ∀ p ∈ X.pn ++ pins, p.1 ≠ b
theorem Inv.fpOk {X : Cx} {pins : List (Addr × Obj)} {σ : St} {H H' : Hp} {s : Shared} {b : Addr} (I : Inv X pins σ H s) (hb : s.heap.objs.size ≤ b) (hn : H' b = none) : FpOk X pins H' b := by
  refine ⟨hn, Nat.ne_of_gt (Nat.lt_of_lt_of_le I.lt hb), I.nofs hb, .inr (Nat.le_trans I.sz hb), fun x c e z => ?_, fun p hp z => ?_⟩
  · obtain ⟨v, q⟩ := I.cell x c e
    exact absurd (Nat.lt_of_lt_of_le q.lt (by rw [z]; exact hb)) (Nat.lt_irrefl _)
  · exact absurd (Nat.lt_of_lt_of_le (Heap.lt_size (I.pin p hp).1) (by rw [z]; exact hb)) (Nat.lt_irrefl _)
structure Turn (P : Program) (w : World) (K : PySem.W.Frag) (tg : Expr) (J : It) (fp : List Addr) (it : Addr) (tn : Nat → Heap → Prop) : Prop where
  mem : it ∈ fp
  obj : ∀ i h, tn i h → ∀ b ∈ fp, ∃ o, h.get? b = some o ∧ ∀ v, o.data ≠ .cell v
  keep : ∀ i h h', tn i h → (∀ b ∈ fp, ∀ o, h.get? b = some o → h'.get? b = some o) → tn i h'
  item : ∀ (X : Cx), X.prog = P → X.w = w → X.K = K → X.calm = true → ∀ (i : Nat) (pins : List (Addr × Obj)) (s : Shared) (σ : St) (H : Hp) (E : Value → Shared → Prop), Inv X pins σ H s → (∀ b ∈ fp, FpOk X pins H b) → tn i s.heap → J.go i H →
    wpAny (model P w) X.A (pyNext (.ref it)) (fun r s1 => ∃ u, r = some u ∧
      wpAny (model P w) X.A (letOwnedTupleGo tg (.ref it) u) (fun _ s2 => ∃ x H', Inv X pins σ H' s2 ∧ RelV x u ∧ J.yld i H x H' ∧ tn (i + 1) s2.heap ∧ ∀ b ∈ fp, H' b = none) E s1) E s
  done : ∀ (X : Cx), X.prog = P → X.w = w → X.K = K → X.calm = true → ∀ (i : Nat) (pins : List (Addr × Obj)) (s : Shared) (σ : St) (H : Hp) (E : Value → Shared → Prop), Inv X pins σ H s → (∀ b ∈ fp, FpOk X pins H b) → tn i s.heap → J.stop i H →
    wpAny (model P w) X.A (pyNext (.ref it)) (fun r s1 => r = none ∧ Inv X pins σ H s1) E s
  self : ∀ (A : Around) (i : Nat) (s : Shared) (Q : Value → Shared → Prop) (E : Value → Shared → Prop), tn i s.heap → Q (.ref it) s → wpAny (model P w) A (pyIter (.ref it)) Q E s
abbrev TI := St → Hp → (It → Hp → Prop) → Prop
/-- an iterator has come -/
def PIE (X : Cx) (pins : List (Addr × Obj)) (σ : St) (tg : Expr) (R : It → Hp → Prop) (itv : Value) (s2 : Shared) : Prop :=
  ∃ (it : Addr) (fp : List Addr) (tn : Nat → Heap → Prop) (J : It) (H' : Hp), itv = .ref it ∧ Inv X pins σ H' s2 ∧ Turn X.prog X.w X.K tg J fp it tn ∧ tn 0 s2.heap ∧ (∀ b ∈ fp, FpOk X pins H' b) ∧ R J H'
def PI (X : Cx) (tg iter : Expr) (wi : TI) : Prop :=
  ∀ (pins : List (Addr × Obj)) (s : Shared) (σ : St) (H : Hp) (R : It → Hp → Prop), Inv X pins σ H s → wi σ H R →
    wpAny (model X.prog X.w) X.A (eval iter X.env) (fun v s1 => wpAny (model X.prog X.w) X.A (pyIter v) (PIE X pins σ tg R) X.xe s1) X.xe s

/-- the step ahead of the store is nothing for an iterator that keeps no tuple -/
theorem go_of {M : Model} {A : Around} {E : Value → Shared → Prop} {s : Shared} {tg : Expr} {it : Addr} {u : Value} {o : Obj} {n : String} {vs : Array Value} {Q : Unit → Shared → Prop} (ho : s.heap.get? it = some o) (hc : o.cls = .type n) (hd : o.data = .fields vs)
    (hn : ["enumerate", "zip", "dict_itemiterator", "dict_reverseitemiterator", "odict_iterator", "itertools.zip_longest", "itertools.pairwise"].contains n = false) (hQ : Q () s) : wpAny M A (letOwnedTupleGo tg (.ref it) u) Q E s := by
  unfold letOwnedTupleGo
  cases tg <;> first
    | exact wpAny_pure hQ
    | (cases u <;> first
        | exact wpAny_pure hQ
        | (refine wpAny_bind (wpAny_load ho ?_)
           rw [hc, hd]
           show wpAny M A (if (["enumerate", "zip", "dict_itemiterator", "dict_reverseitemiterator", "odict_iterator", "itertools.zip_longest", "itertools.pairwise"].contains n && vs[0]? == some (rawInt _)) = true then _ else _) Q E s
           rw [if_neg (by intro h; rw [hn, Bool.false_and] at h; cases h)]
           exact wpAny_pure hQ))

/-- the list at a, as it stands at each turn (a loop may append to it) -/
def Itl (K : PySem.W.Frag) (a : Addr) : It :=
  ⟨fun i H => ∃ xs x, SqL K H a xs ∧ xs[i]? = some x, fun i H x H' => H' = H ∧ ∀ xs, SqL K H a xs → xs[i]? = some x, fun i H => ∃ xs, SqL K H a xs ∧ xs.length ≤ i⟩
def Itt (K : PySem.W.Frag) (a : Addr) : It :=
  ⟨fun i H => ∃ xs x, SqT K H a xs ∧ xs[i]? = some x, fun i H x H' => H' = H ∧ ∀ xs, SqT K H a xs → xs[i]? = some x, fun i H => ∃ xs, SqT K H a xs ∧ xs.length ≤ i⟩
/-- lo, lo + 1, .. (n of them) -/
def Itr (lo : Int) (n : Nat) : It := ⟨fun i _ => i < n, fun i H x H' => H' = H ∧ x = .int (lo + i), fun i _ => n ≤ i⟩
theorem turn_list {P : Program} {w : World} {K : PySem.W.Frag} {tg : Expr} (a it : Addr) : Turn P w K tg (Itl K a) [it] it (fun i h => h.IsListIter it a i) where
  mem := by simp
  obj := fun i h st b hb => by
    have e : b = it := by simpa using hb
    subst e
    obtain ⟨o, e, c, d⟩ := st
    exact ⟨o, e, fun v z => by rw [d] at z; cases z⟩
  keep := fun i h h' st k => st.at fun o e => k it (by simp) o e
  item := by
    intro X hP hw hK hc i pins s σ H E I hf st hg
    subst hP hw hK
    obtain ⟨xs, x, hq, hx⟩ := hg
    obtain ⟨its, rv, p, hz⟩ := I.list hq
    obtain ⟨u, hu, ru⟩ := rv.get hx
    obtain ⟨f0, f1, f2, f3, f4, f5⟩ := hf it (by simp)
    refine wpAny_pyNext_list_item st p.isList (x := u) (by simpa using hu) fun h' st' sb => ?_
    have I1 : Inv X pins σ H { s with heap := h' } := I.turned (t' := s.toks) (fun b o hb e => (sb.2 b hb).trans e) f0 f1 f3 f4 f5
    obtain ⟨o, e, c, d⟩ := id st'
    exact ⟨u, rfl, go_of (s := { s with heap := h' }) e c d (by decide) ⟨x, H, I1, ru, ⟨rfl, fun ys hy => by rw [I.list_inj hy hq]; exact hx⟩, st', fun b hb => (hf b hb).1⟩⟩
  done := by
    intro X hP hw hK hc i pins s σ H E I hf st hg
    subst hP hw hK
    obtain ⟨xs, hq, hx⟩ := hg
    obtain ⟨its, rv, p, hz⟩ := I.list hq
    obtain ⟨f0, f1, f2, f3, f4, f5⟩ := hf it (by simp)
    have hl := rv.length
    exact wpAny_pyNext_list_end (I.ok.hd hc) st p.isList (by simp; omega) fun h' eb => ⟨rfl, I.turned (t' := s.toks) (fun b o hb e => eb b o hb e) f0 f1 f3 f4 f5⟩
  self := fun _ _ _ _ _ st h => wpAny_pyIter_listiter st h
theorem turn_tuple {P : Program} {w : World} {K : PySem.W.Frag} {tg : Expr} (a it : Addr) : Turn P w K tg (Itt K a) [it] it (fun i h => h.IsTupleIter it a i) where
  mem := by simp
  obj := fun i h st b hb => by
    have e : b = it := by simpa using hb
    subst e
    obtain ⟨o, e, c, d⟩ := st
    exact ⟨o, e, fun v z => by rw [d] at z; cases z⟩
  keep := fun i h h' st k => st.at fun o e => k it (by simp) o e
  item := by
    intro X hP hw hK hc i pins s σ H E I hf st hg
    subst hP hw hK
    obtain ⟨xs, x, hq, hx⟩ := hg
    obtain ⟨its, rv, p, hz⟩ := I.tuple hq
    obtain ⟨u, hu, ru⟩ := rv.get hx
    obtain ⟨f0, f1, f2, f3, f4, f5⟩ := hf it (by simp)
    refine wpAny_pyNext_tuple_item st (show s.heap.IsTuple a its.toArray from p) (x := u) (by simpa using hu) fun h' st' sb => ?_
    have I1 : Inv X pins σ H { s with heap := h' } := I.turned (t' := s.toks) (fun b o hb e => (sb.2 b hb).trans e) f0 f1 f3 f4 f5
    obtain ⟨o, e, c, d⟩ := id st'
    exact ⟨u, rfl, go_of (s := { s with heap := h' }) e c d (by decide) ⟨x, H, I1, ru, ⟨rfl, fun ys hy => by rw [I.tuple_inj hy hq]; exact hx⟩, st', fun b hb => (hf b hb).1⟩⟩
  done := by
    intro X hP hw hK hc i pins s σ H E I hf st hg
    subst hP hw hK
    obtain ⟨xs, hq, hx⟩ := hg
    obtain ⟨its, rv, p, hz⟩ := I.tuple hq
    obtain ⟨f0, f1, f2, f3, f4, f5⟩ := hf it (by simp)
    have hl := rv.length
    exact wpAny_pyNext_tuple_end (I.ok.hd hc) st (show s.heap.IsTuple a its.toArray from p) (by simp; omega) fun h' eb => ⟨rfl, I.turned (t' := s.toks) (fun b o hb e => eb b o hb e) f0 f1 f3 f4 f5⟩
  self := fun _ _ _ _ _ st h => wpAny_pyIter_tupleiter st h
theorem turn_range {P : Program} {w : World} {K : PySem.W.Frag} {tg : Expr} (it : Addr) (lo : Int) (n : Nat) : Turn P w K tg (Itr lo n) [it] it (fun i h => IsRangeIter h it (lo + (i : Nat) * 1) ((n : Int) - (i : Nat)) 1) where
  mem := by simp
  obj := fun i h st b hb => by
    have e : b = it := by simpa using hb
    subst e
    exact ⟨_, st, fun v z => by
      have z' : Data.fields _ = Data.cell v := z
      cases z'⟩
  keep := fun i h h' st k => k it (by simp) _ st
  item := by
    intro X hP hw hK hc i pins s σ H E I hf st hg
    subst hP hw hK
    obtain ⟨f0, f1, f2, f3, f4, f5⟩ := hf it (by simp)
    have W := Walks.range (prog := X.prog) (w := X.w) (I.ok.hd hc) it lo 1 n
    refine W.item i s _ _ hg st fun v h' tk hv st' kk => ?_
    obtain ⟨t, rfl⟩ := hv
    have I1 : Inv X pins σ H { s with heap := h', toks := tk } := I.turned (fun b o hb e => kk b o (by simpa using hb) e) f0 f1 f3 f4 f5
    refine ⟨_, rfl, go_of (s := { s with heap := h', toks := tk }) (n := "range_iterator") st' rfl rfl (by decide) ⟨.int (lo + i), H, I1, ⟨t, ?_⟩, ⟨rfl, rfl⟩, st', fun b hb => (hf b hb).1⟩⟩
    rw [Int.mul_one]
  done := by
    intro X hP hw hK hc i pins s σ H E I hf st hg
    subst hP hw hK
    obtain ⟨f0, f1, f2, f3, f4, f5⟩ := hf it (by simp)
    exact wpAny_pyNext_range_end (I.ok.hd hc) st (by have : n ≤ i := hg; omega) fun h' eb => ⟨rfl, I.turned (t' := s.toks) (fun b o hb e => eb b o hb e) f0 f1 f3 f4 f5⟩
  self := fun _ _ _ _ _ st h => wpAny_pyIter_rangeiter st h
end L2

namespace L2
open PySem PySem.Spec PyProof.Rows
section
variable {X : Cx} {tg : Expr}
def iList (K : PySem.W.Frag) (tl : TE) : TI := fun σ H R => tl σ H fun x H1 => ∃ a, x = .ref a ∧ (∃ xs, SqL K H1 a xs) ∧ R (Itl K a) H1
def iTup (K : PySem.W.Frag) (tl : TE) : TI := fun σ H R => tl σ H fun x H1 => ∃ a, x = .ref a ∧ (∃ xs, SqT K H1 a xs) ∧ R (Itt K a) H1
theorem pi_list {l : Expr} {tl : TE} (hl : PE X l tl) : PI X tg l (iList X.K tl) := by
  intro pins s σ H R I h
  refine thn (hl pins s σ H _ I h) fun v s1 ⟨x, H1, I1, r1, q1⟩ => ?_
  obtain ⟨a, e, ⟨xs, hq⟩, q⟩ := q1
  subst e
  cases r1
  obtain ⟨its, rv, p, hz⟩ := I1.list hq
  refine wpAny_pyIter_list p.isList ?_
  refine ⟨s1.heap.objs.size, [s1.heap.objs.size], _, _, H1, rfl, I1.kept (t' := s1.toks) fun b o e => Heap.get?_push_of_some _ e, turn_list a _, ⟨_, Heap.get?_push_size _ rfl, rfl, rfl⟩, fun b hb => ?_, q⟩
  have e : b = s1.heap.objs.size := by simpa using hb
  subst e
  exact I1.fpOk (Nat.le_refl _) (I1.hok.fresh (Nat.le_refl _))
theorem pi_tup {l : Expr} {tl : TE} (hl : PE X l tl) : PI X tg l (iTup X.K tl) := by
  intro pins s σ H R I h
  refine thn (hl pins s σ H _ I h) fun v s1 ⟨x, H1, I1, r1, q1⟩ => ?_
  obtain ⟨a, e, ⟨xs, hq⟩, q⟩ := q1
  subst e
  cases r1
  obtain ⟨its, rv, p, hz⟩ := I1.tuple hq
  refine wpAny_pyIter_tuple (show s1.heap.IsTuple a its.toArray from p) ?_
  refine ⟨s1.heap.objs.size, [s1.heap.objs.size], _, _, H1, rfl, I1.kept (t' := s1.toks) fun b o e => Heap.get?_push_of_some _ e, turn_tuple a _, ⟨_, Heap.get?_push_size _ rfl, rfl, rfl⟩, fun b hb => ?_, q⟩
  have e : b = s1.heap.objs.size := by simpa using hb
  subst e
  exact I1.fpOk (Nat.le_refl _) (I1.hok.fresh (Nat.le_refl _))
/-- a range object just made, walked -/
theorem range_it {pins : List (Addr × Obj)} {σ : St} {H : Hp} {s : Shared} {R : It → Hp → Prop} {E : Value → Shared → Prop} {lo hi : Int} {t u v : Tok} {tk : Nat} (I : Inv X pins σ H s) (h1 : -(2 ^ 62) ≤ lo) (h2 : lo < 2 ^ 62) (h3 : -(2 ^ 62) ≤ hi) (h4 : hi < 2 ^ 62)
    (q : R (Itr lo (hi - lo).toNat) H) : wpAny (model X.prog X.w) X.A (pyIter (.ref s.heap.objs.size)) (PIE X pins σ tg R) E { s with heap := s.heap.push { cls := .type "range", data := .fields #[.int lo t, .int hi u, .int 1 v] }, toks := tk } := by
  refine wpAny_pyIter_range (IsRange.new ..) (small_one h1 h2 h3 h4) ?_
  have I1 : Inv X pins σ H { s with heap := s.heap.push { cls := .type "range", data := .fields #[.int lo t, .int hi u, .int 1 v] }, toks := tk } := I.kept fun b o e => Heap.get?_push_of_some _ e
  refine ⟨(s.heap.push { cls := .type "range", data := .fields #[.int lo t, .int hi u, .int 1 v] }).objs.size, [(s.heap.push { cls := .type "range", data := .fields #[.int lo t, .int hi u, .int 1 v] }).objs.size], _, _, H, rfl,
    I1.kept (t' := tk) fun b o e => Heap.get?_push_of_some _ e, turn_range _ lo (hi - lo).toNat, ?_, fun b hb => ?_, q⟩
  · have e1 : lo + ((0 : Nat) : Int) * 1 = lo := by simp
    have e2 : (((hi - lo).toNat : Nat) : Int) - ((0 : Nat) : Int) = Builtin.Range.rangeSize lo hi 1 := by rw [rangeSize_one]; split <;> omega
    show IsRangeIter _ _ (lo + ((0 : Nat) : Int) * 1) ((((hi - lo).toNat : Nat) : Int) - ((0 : Nat) : Int)) 1
    rw [e1, e2]
    exact Heap.get?_push_size _ rfl
  · have e : b = (s.heap.push { cls := .type "range", data := .fields #[.int lo t, .int hi u, .int 1 v] }).objs.size := by simpa using hb
    subst e
    exact I1.fpOk (Nat.le_refl _) (I1.hok.fresh (Nat.le_refl _))
def iRng1 (ta : TA) : TI := fun σ H R => ta σ H fun vs H1 => ∃ j : Int, vs = [.int j] ∧ -(2 ^ 62) ≤ j ∧ j < 2 ^ 62 ∧ R (Itr 0 j.toNat) H1
def iRng2 (ta : TA) : TI := fun σ H R => ta σ H fun vs H1 => ∃ i j : Int, vs = [.int i, .int j] ∧ (-(2 ^ 62) ≤ i ∧ i < 2 ^ 62 ∧ -(2 ^ 62) ≤ j ∧ j < 2 ^ 62) ∧ R (Itr i (j - i).toNat) H1
theorem pi_range1 {a : Expr} {ta : TA} {p pos : Pos} (hg : Gl X "range") (hm : X.mg "range" = none) (ha : PA X [a] ta) (hs : starEach [a] X.env = [(false, eval a X.env)] := by rfl) : PI X tg (.Call (.Name "range" p) [a] [] pos) (iRng1 ta) := by
  intro pins s σ H R I h
  refine Call_ (ld_blt I hg hm boot_range (PyProof.Rows.callWith_type1 (thn (ha pos pins s σ H _ I h) fun us s1 ⟨vs, H1, I1, r1, q1⟩ => ?_) hs rfl))
  obtain ⟨j, e, q1, q2, q⟩ := q1
  subst e
  cases r1 with
  | cons r rr =>
    cases rr
    obtain ⟨t, rfl⟩ := r
    exact call_range_1 (range_it I1 (by omega) (by omega) q1 q2 (by simpa using q))
theorem pi_range2 {a b : Expr} {ta : TA} {p pos : Pos} (hg : Gl X "range") (hm : X.mg "range" = none) (ha : PA X [a, b] ta) (hs : starEach [a, b] X.env = [(false, eval a X.env), (false, eval b X.env)] := by rfl) (hs2 : starEach [b] X.env = [(false, eval b X.env)] := by rfl) :
    PI X tg (.Call (.Name "range" p) [a, b] [] pos) (iRng2 ta) := by
  intro pins s σ H R I h
  refine Call_ (ld_blt I hg hm boot_range (PyProof.Rows.callWith_type1 (thn (ha pos pins s σ H _ I h) fun us s1 ⟨vs, H1, I1, r1, q1⟩ => ?_) (by rw [hs, hs2]) (by rw [hs2]; rfl)))
  obtain ⟨i, j, e, ⟨q1, q2, q3, q4⟩, q⟩ := q1
  subst e
  cases r1 with
  | cons r rr =>
    cases rr with
    | cons r' rr =>
      cases rr
      obtain ⟨t, rfl⟩ := r
      obtain ⟨t', rfl⟩ := r'
      exact call_range_2 (range_it I1 q1 q2 q3 q4 q)

/-! ### for -/
/-- W: the invariant by the turn and a measure; N: what the body is to reach -/
def tFor (wi : TI) (g : TG) (tb : TS) : TS := fun D σ H => wi σ H fun J H1 => ∃ W : Nat → Nat → St → Hp → Prop, (∃ m, W 0 m σ H1) ∧ ∀ i m σ H, W i m σ H →
  (J.stop i H ∧ D.nx σ H) ∨ (J.go i H ∧ ∃ N : St → Hp → Prop, (∀ σ' H', N σ' H' → ∃ m', m' < m ∧ W (i + 1) m' σ' H') ∧ ∀ x H', J.yld i H x H' → g x σ H' fun σ2 H2 => tb { D with nx := N, ct := N, bk := D.nx } σ2 H2)
/-- the records at fp as they stand -/
def pinsAt (fp : List Addr) (h : Heap) : List (Addr × Obj) := fp.filterMap fun b => (h.get? b).map fun o => (b, o)
theorem mem_pinsAt {fp : List Addr} {h : Heap} {b : Addr} {o : Obj} (hb : b ∈ fp) (e : h.get? b = some o) : (b, o) ∈ pinsAt fp h := List.mem_filterMap.mpr ⟨b, hb, by rw [e]; rfl⟩
theorem of_pinsAt {fp : List Addr} {h : Heap} {p : Addr × Obj} (hp : p ∈ pinsAt fp h) : p.1 ∈ fp ∧ h.get? p.1 = some p.2 := by
  obtain ⟨b, hb, e⟩ := List.mem_filterMap.mp hp
  cases q : h.get? b with
  | none => rw [q] at e; cases e
  | some o =>
    rw [q] at e
    have e' : (b, o) = p := Option.some.inj e
    subst e'
    exact ⟨hb, q⟩
theorem Inv.pinned {pins : List (Addr × Obj)} {σ : St} {H : Hp} {s : Shared} {fp : List Addr} (I : Inv X pins σ H s) (hf : ∀ b ∈ fp, FpOk X pins H b) (ho : ∀ b ∈ fp, ∃ o, s.heap.get? b = some o ∧ ∀ v, o.data ≠ .cell v) : Inv X (pins ++ pinsAt fp s.heap) σ H s :=
  I.pins_of fun p hp => (List.mem_append.mp hp).elim (fun z => I.pin p (List.mem_append_right _ z)) fun z => by
    obtain ⟨hb, e⟩ := of_pinsAt z
    obtain ⟨f0, f1, f2, _⟩ := hf p.1 hb
    obtain ⟨o, e', d⟩ := ho p.1 hb
    rw [e] at e'; cases e'
    exact ⟨e, f0, f1, f2, d⟩
theorem Inv.unpinned {pins pl : List (Addr × Obj)} {σ : St} {H : Hp} {s : Shared} (I : Inv X (pins ++ pl) σ H s) : Inv X pins σ H s := I.pins_of fun p hp => I.pin p (List.mem_append_right _ (List.mem_append_left _ hp))
theorem ps_for {iter : Expr} {body : List Stmt} {wi : TI} {g : TG} {tb : TS} {pos : Pos} (hp : PassesOwn (model X.prog X.w) X.A X.env X.xe) (hc : X.calm = true) (hi : PI X tg iter wi) (hg : PG X tg g) (hb : PSs X body tb)
    (hs : ∀ x, foldedSetIterable iter X.env x = pure x := by intro _; rfl) : PS X (.For tg iter body [] pos) (tFor wi g tb) := by
  intro pins s σ H D I h
  refine wpAny_For (thn (hi pins s σ H _ I h) fun v s1 h1 => thn h1 fun itv s2 h2 => ?_) hs
  obtain ⟨it, fp, tn, J, H2, e, I2, T, st2, f2, W, ⟨m0, w0⟩, turn⟩ := h2
  subst e
  -- what stays true of the iterator's objects through the loop
  have stat : ∀ {H' : Hp}, (∀ b ∈ fp, H' b = none) → ∀ b ∈ fp, FpOk X pins H' b := fun hn b hb => ⟨hn b hb, (f2 b hb).2⟩
  refine codeAny_forLoop_any (fun n s' => ∃ i σ' H', Inv X pins σ' H' s' ∧ tn i s'.heap ∧ (∀ b ∈ fp, H' b = none) ∧ W i n σ' H') ?_ m0 ⟨0, σ, H2, I2, st2, fun b hb => (f2 b hb).1, w0⟩
  rintro n s3 ⟨i, σ3, H3, I3, st3, fr3, w3⟩
  rcases turn i n σ3 H3 w3 with ⟨stop, qn⟩ | ⟨go, N, hN, step⟩
  · refine wpAny_passesOwn hp (thn (T.done X rfl rfl rfl hc i pins s3 σ3 H3 X.xe I3 (stat fr3) st3 stop) fun r s4 ⟨hr, I4⟩ => ?_)
    subst hr
    exact wpAny_execs_nil ⟨σ3, H3, I4, qn⟩
  · refine wpAny_passesOwn hp (thn (T.item X rfl rfl rfl hc i pins s3 σ3 H3 X.xe I3 (stat fr3) st3 go) fun r s4 ⟨u, hr, h4⟩ => ?_)
    subst hr
    refine wpAny_passesOwn hp (thn h4 fun _ s5 ⟨x, H5, I5, r5, y5, st5, fr5⟩ => ?_)
    have I5' := I5.pinned (stat fr5) (T.obj _ _ st5)
    refine wpAny_passesOwn hp (thn (hg _ s5 σ3 H5 x u _ I5' r5 (step x H5 y5)) fun _ s6 ⟨σ6, H6, I6, q6⟩ => ?_)
    refine wpAny_passesOwn hp (thn (hb _ s6 σ6 H6 _ I6 q6) fun f s7 q7 => ?_)
    have again : ∀ {σ7 : St} {H7 : Hp}, Inv X (pins ++ pinsAt fp s5.heap) σ7 H7 s7 → N σ7 H7 → ∃ m, m < n ∧ ∃ i σ' H', Inv X pins σ' H' s7 ∧ tn i s7.heap ∧ (∀ b ∈ fp, H' b = none) ∧ W i m σ' H' := fun {σ7 H7} I7 n7 => by
      obtain ⟨m', hm, w7⟩ := hN σ7 H7 n7
      refine ⟨m', hm, i + 1, σ7, H7, I7.unpinned, T.keep _ _ _ st5 fun b hb o e => (I7.pin (b, o) (List.mem_append_right _ (List.mem_append_right _ (mem_pinsAt hb e)))).1, fun b hb => ?_, w7⟩
      obtain ⟨o, e, d⟩ := T.obj _ _ st5 b hb
      exact (I7.pin (b, o) (List.mem_append_right _ (List.mem_append_right _ (mem_pinsAt hb e)))).2.1
    cases f with
    | next => obtain ⟨σ7, H7, I7, n7⟩ := q7; exact again I7 n7
    | cont => obtain ⟨σ7, H7, I7, n7⟩ := q7; exact again I7 n7
    | brk => obtain ⟨σ7, H7, I7, q7⟩ := q7; exact ⟨σ7, H7, I7.unpinned, q7⟩
    | ret v => obtain ⟨x7, σ7, H7, I7, r7, q7⟩ := q7; exact ⟨x7, σ7, H7, I7.unpinned, r7, q7⟩
end

/-! ### the forms one uses -/
/-- over a list that the body leaves as it is -/
theorem for_list {K : PySem.W.Frag} {a : Addr} {xs : List V} {g : TG} {tb : TS} {D : Ends} {σ : St} {H : Hp} (Pv : Nat → St → Hp → Prop) (h0 : Pv 0 σ H) (hl : ∀ i σ H, i ≤ xs.length → Pv i σ H → SqL K H a xs)
    (hs : ∀ i x σ H, xs[i]? = some x → Pv i σ H → g x σ H fun σ2 H2 => tb { D with nx := Pv (i + 1), ct := Pv (i + 1), bk := D.nx } σ2 H2) (hd : ∀ σ H, Pv xs.length σ H → D.nx σ H) :
    ∃ W : Nat → Nat → St → Hp → Prop, (∃ m, W 0 m σ H) ∧ ∀ i m σ H, W i m σ H →
      ((Itl K a).stop i H ∧ D.nx σ H) ∨ ((Itl K a).go i H ∧ ∃ N : St → Hp → Prop, (∀ σ' H', N σ' H' → ∃ m', m' < m ∧ W (i + 1) m' σ' H') ∧ ∀ x H', (Itl K a).yld i H x H' → g x σ H' fun σ2 H2 => tb { D with nx := N, ct := N, bk := D.nx } σ2 H2) := by
  refine ⟨fun i m σ H => m = xs.length - i ∧ i ≤ xs.length ∧ Pv i σ H, ⟨xs.length, by simp, Nat.zero_le _, h0⟩, ?_⟩
  rintro i m σ H ⟨rfl, hi, p⟩
  have q := hl i σ H hi p
  by_cases hlt : i < xs.length
  · refine .inr ⟨⟨xs, xs[i], q, by simp [hlt]⟩, Pv (i + 1), fun σ' H' p' => ⟨xs.length - (i + 1), by omega, rfl, hlt, p'⟩, fun x H' y => ?_⟩
    obtain ⟨e, y⟩ := y
    subst e
    exact hs i x σ _ (y xs q) p
  · have e : i = xs.length := by omega
    subst e
    exact .inl ⟨⟨xs, q, Nat.le_refl _⟩, hd σ H p⟩
theorem for_tup {K : PySem.W.Frag} {a : Addr} {xs : List V} {g : TG} {tb : TS} {D : Ends} {σ : St} {H : Hp} (Pv : Nat → St → Hp → Prop) (h0 : Pv 0 σ H) (hl : ∀ i σ H, i ≤ xs.length → Pv i σ H → SqT K H a xs)
    (hs : ∀ i x σ H, xs[i]? = some x → Pv i σ H → g x σ H fun σ2 H2 => tb { D with nx := Pv (i + 1), ct := Pv (i + 1), bk := D.nx } σ2 H2) (hd : ∀ σ H, Pv xs.length σ H → D.nx σ H) :
    ∃ W : Nat → Nat → St → Hp → Prop, (∃ m, W 0 m σ H) ∧ ∀ i m σ H, W i m σ H →
      ((Itt K a).stop i H ∧ D.nx σ H) ∨ ((Itt K a).go i H ∧ ∃ N : St → Hp → Prop, (∀ σ' H', N σ' H' → ∃ m', m' < m ∧ W (i + 1) m' σ' H') ∧ ∀ x H', (Itt K a).yld i H x H' → g x σ H' fun σ2 H2 => tb { D with nx := N, ct := N, bk := D.nx } σ2 H2) := by
  refine ⟨fun i m σ H => m = xs.length - i ∧ i ≤ xs.length ∧ Pv i σ H, ⟨xs.length, by simp, Nat.zero_le _, h0⟩, ?_⟩
  rintro i m σ H ⟨rfl, hi, p⟩
  have q := hl i σ H hi p
  by_cases hlt : i < xs.length
  · refine .inr ⟨⟨xs, xs[i], q, by simp [hlt]⟩, Pv (i + 1), fun σ' H' p' => ⟨xs.length - (i + 1), by omega, rfl, hlt, p'⟩, fun x H' y => ?_⟩
    obtain ⟨e, y⟩ := y
    subst e
    exact hs i x σ _ (y xs q) p
  · have e : i = xs.length := by omega
    subst e
    exact .inl ⟨⟨xs, q, Nat.le_refl _⟩, hd σ H p⟩
theorem for_range {lo : Int} {n : Nat} {g : TG} {tb : TS} {D : Ends} {σ : St} {H : Hp} (Pv : Nat → St → Hp → Prop) (h0 : Pv 0 σ H)
    (hs : ∀ i σ H, i < n → Pv i σ H → g (.int (lo + i)) σ H fun σ2 H2 => tb { D with nx := Pv (i + 1), ct := Pv (i + 1), bk := D.nx } σ2 H2) (hd : ∀ σ H, Pv n σ H → D.nx σ H) :
    ∃ W : Nat → Nat → St → Hp → Prop, (∃ m, W 0 m σ H) ∧ ∀ i m σ H, W i m σ H →
      ((Itr lo n).stop i H ∧ D.nx σ H) ∨ ((Itr lo n).go i H ∧ ∃ N : St → Hp → Prop, (∀ σ' H', N σ' H' → ∃ m', m' < m ∧ W (i + 1) m' σ' H') ∧ ∀ x H', (Itr lo n).yld i H x H' → g x σ H' fun σ2 H2 => tb { D with nx := N, ct := N, bk := D.nx } σ2 H2) := by
  refine ⟨fun i m σ H => m = n - i ∧ i ≤ n ∧ Pv i σ H, ⟨n, by simp, Nat.zero_le _, h0⟩, ?_⟩
  rintro i m σ H ⟨rfl, hi, p⟩
  by_cases hlt : i < n
  · refine .inr ⟨hlt, Pv (i + 1), fun σ' H' p' => ⟨n - (i + 1), by omega, rfl, hlt, p'⟩, fun x H' y => ?_⟩
    obtain ⟨e, y⟩ := y
    subst e y
    exact hs i σ _ hlt p
  · have e : i = n := by omega
    subst e
    exact .inl ⟨Nat.le_refl _, hd σ H p⟩
/-- while, by a word and a measure of the state -/
theorem while_by {c : TT} {tb : TS} {D : Ends} {σ : St} {H : Hp} (Pv : St → Hp → Prop) (μ : St → Hp → Nat) (h0 : Pv σ H)
    (hs : ∀ σ H, Pv σ H → c σ H fun b H1 => if b = true then tb { D with nx := fun σ' H' => Pv σ' H' ∧ μ σ' H' < μ σ H, ct := fun σ' H' => Pv σ' H' ∧ μ σ' H' < μ σ H, bk := D.nx } σ H1 else D.nx σ H1)
    (mono : ∀ σ H Q Q', (∀ b H1, Q b H1 → Q' b H1) → c σ H Q → c σ H Q') : tWhile c tb D σ H := by
  refine ⟨fun m σ H => m = μ σ H ∧ Pv σ H, ⟨_, rfl, h0⟩, ?_⟩
  rintro m σ H ⟨rfl, p⟩
  refine mono σ H _ _ (fun b H1 q => ?_) (hs σ H p)
  cases b with
  | true => exact ⟨_, fun σ' H' ⟨p', l⟩ => ⟨_, l, rfl, p'⟩, q⟩
  | false => exact q
end L2

namespace L2
open PySem PySem.Spec PyProof.Rows

abbrev R2 := V → V → Hp → VK → Prop
/-- a two-place operation on values: f is binaryOp op, inplaceOp op or compareOp op -/
def OpR (X : Cx) (f : Value → Value → Sem Value) (r : R2) : Prop :=
  ∀ (pins : List (Addr × Obj)) (s : Shared) (σ : St) (H : Hp) (x y : V) (v u : Value) (Q : VK), Inv X pins σ H s → RelV x v → RelV y u → r x y H Q →
    wpAny (model X.prog X.w) X.A (f v u) (EP X pins σ Q) X.xe s
/-- a one-place operation -/
def UnR (X : Cx) (f : Value → Sem Value) (r : V → Hp → VK → Prop) : Prop :=
  ∀ (pins : List (Addr × Obj)) (s : Shared) (σ : St) (H : Hp) (x : V) (v : Value) (Q : VK), Inv X pins σ H s → RelV x v → r x H Q →
    wpAny (model X.prog X.w) X.A (f v) (EP X pins σ Q) X.xe s
/-- a call of a value that is known (a builtin, a type) with values -/
def CallR (X : Cx) (f : Value) (r : List V → Hp → VK → Prop) : Prop :=
  ∀ (pins : List (Addr × Obj)) (s : Shared) (σ : St) (H : Hp) (xs : List V) (us : List Value) (Q : VK), Inv X pins σ H s → Vals xs us → r xs H Q →
    wpAny (model X.prog X.w) X.A (call f us) (EP X pins σ Q) X.xe s
/-- a value's truth -/
def TruR (X : Cx) (r : V → Hp → (Bool → Hp → Prop) → Prop) : Prop :=
  ∀ (pins : List (Addr × Obj)) (s : Shared) (σ : St) (H : Hp) (x : V) (v : Value) (Q : Bool → Hp → Prop), Inv X pins σ H s → RelV x v → r x H Q →
    wpAny (model X.prog X.w) X.A (truthy v) (TP X pins σ Q) X.xe s

def tOp (r : R2) (ta tb : TE) : TE := fun σ H Q => ta σ H fun x H1 => tb σ H1 fun y H2 => r x y H2 Q
def tUn (r : V → Hp → VK → Prop) (ta : TE) : TE := fun σ H Q => ta σ H fun x H1 => r x H1 Q
/-- ints in, under C, and a value out -/
def rI (C : Int → Int → Prop) (g : Int → Int → V) : R2 := fun x y H Q => ∃ i j, x = .int i ∧ y = .int j ∧ C i j ∧ Q (g i j) H
def rI0 (g : Int → Int → V) : R2 := fun x y H Q => ∃ i j, x = .int i ∧ y = .int j ∧ Q (g i j) H
def rU (g : Int → V) : V → Hp → VK → Prop := fun x H Q => ∃ i, x = .int i ∧ Q (g i) H

section
variable {X : Cx} {a b c : Expr} {ta tb tc : TE} {pos : Pos}

theorem binT (ha : PE X a ta) (hb : PE X b tb) {pins : List (Addr × Obj)} {s : Shared} {σ : St} {H : Hp} {R : V → V → Hp → Prop} (I : Inv X pins σ H s)
    (h : ta σ H fun x H1 => tb σ H1 fun y H2 => R x y H2) {Q : Value → Shared → Prop} {f : Value → Value → Sem Value}
    (hf : ∀ v u s2 x y H2, Inv X pins σ H2 s2 → RelV x v → RelV y u → R x y H2 → wpAny (model X.prog X.w) X.A (f v u) Q X.xe s2) :
    wpAny (model X.prog X.w) X.A (eval a X.env) (fun v s₁ => wpAny (model X.prog X.w) X.A (eval b X.env) (fun u s₂ => wpAny (model X.prog X.w) X.A (f v u) Q X.xe s₂) X.xe s₁) X.xe s := by
  refine thn (ha pins s σ H _ I h) fun v s1 ⟨x, H1, I1, r1, q1⟩ => ?_
  refine thn (hb pins s1 σ H1 _ I1 q1) fun u s2 ⟨y, H2, I2, r2, q2⟩ => ?_
  exact hf v u s2 x y H2 I2 r1 r2 q2

theorem pe_op {op : Operator} {r : R2} (ho : OpR X (binaryOp op) r) (ha : PE X a ta) (hb : PE X b tb) : PE X (.BinOp a op b pos) (tOp r ta tb) := by
  intro pins s σ H Q I h
  exact wpAny_BinOp (binT ha hb I h fun v u s2 x y H2 I2 rx ry q => ho pins s2 σ H2 x y v u Q I2 rx ry q)
theorem pe_un {op : UnaryOp} {r : V → Hp → VK → Prop} (ho : UnR X (unaryOp op) r) (ha : PE X a ta) : PE X (.UnaryOp op a pos) (tUn r ta) := by
  intro pins s σ H Q I h
  exact UnaryOp_ (thn (ha pins s σ H _ I h) fun v s1 ⟨x, H1, I1, r1, q1⟩ => ho pins s1 σ H1 x v Q I1 r1 q1)
/-- a op= e at a name: the name's slot i -/
theorem augR {op : Operator} {r : R2} (ho : OpR X (inplaceOp op) r) {pins : List (Addr × Obj)} {s : Shared} {σ : St} {H : Hp} {x y : V} {v u : Value} {Q : VK} (I : Inv X pins σ H s)
    (rx : RelV x v) (ry : RelV y u) (q : r x y H Q) : wpAny (model X.prog X.w) X.A (inplaceOp op v u) (EP X pins σ Q) X.xe s := ho pins s σ H x y v u Q I rx ry q

/-! ### ints -/
theorem opI {f : Value → Value → Sem Value} {C : Int → Int → Prop} {g : Int → Int → Int}
    (rule : ∀ (i j : Int) (t u : Tok) (s : Shared) (Q : Value → Shared → Prop) (E : Value → Shared → Prop), C i j → Q (.int (g i j) s.toks) { s with toks := s.toks + 1 } → wpAny (model X.prog X.w) X.A (f (.int i t) (.int j u)) Q E s) :
    OpR X f (rI C fun i j => .int (g i j)) := by
  intro pins s σ H x y v u Q I rx ry h
  obtain ⟨i, j, rfl, rfl, hc, q⟩ := h
  obtain ⟨t, rfl⟩ := rx
  obtain ⟨t', rfl⟩ := ry
  exact rule i j t t' s _ _ hc ⟨.int (g i j), H, I.tok _, ⟨_, rfl⟩, q⟩
theorem opI0 {f : Value → Value → Sem Value} {g : Int → Int → Int}
    (rule : ∀ (i j : Int) (t u : Tok) (s : Shared) (Q : Value → Shared → Prop) (E : Value → Shared → Prop), Q (.int (g i j) s.toks) { s with toks := s.toks + 1 } → wpAny (model X.prog X.w) X.A (f (.int i t) (.int j u)) Q E s) :
    OpR X f (rI0 fun i j => .int (g i j)) := by
  intro pins s σ H x y v u Q I rx ry h
  obtain ⟨i, j, rfl, rfl, q⟩ := h
  obtain ⟨t, rfl⟩ := rx
  obtain ⟨t', rfl⟩ := ry
  exact rule i j t t' s _ _ ⟨.int (g i j), H, I.tok _, ⟨_, rfl⟩, q⟩
theorem opB0 {f : Value → Value → Sem Value} {g : Int → Int → Bool}
    (rule : ∀ (i j : Int) (t u : Tok) (s : Shared) (Q : Value → Shared → Prop) (E : Value → Shared → Prop), Q (.bool (g i j)) s → wpAny (model X.prog X.w) X.A (f (.int i t) (.int j u)) Q E s) :
    OpR X f (rI0 fun i j => .bl (g i j)) := by
  intro pins s σ H x y v u Q I rx ry h
  obtain ⟨i, j, rfl, rfl, q⟩ := h
  obtain ⟨t, rfl⟩ := rx
  obtain ⟨t', rfl⟩ := ry
  exact rule i j t t' s _ _ ⟨.bl (g i j), H, I, rfl, q⟩

def CDiv (i j : Int) : Prop := 0 < j ∧ j < 1073741824
def CDivN (i j : Int) : Prop := j ≠ 0 ∧ j.natAbs < 1073741824
def CPow (i j : Int) : Prop := 0 ≤ j ∧ j ≤ 1000000 ∧ i.natAbs < 2 ^ 64
def CMul (i j : Int) : Prop := (-(2 ^ 64) < i ∧ i < 2 ^ 64) ∨ (-(2 ^ 64) < j ∧ j < 2 ^ 64)
theorem CMul.ok {i j : Int} (h : CMul i j) : IntMulOk i j := by
  rcases h with ⟨h1, h2⟩ | ⟨h1, h2⟩
  · exact .of_left (intBits_le_64 h1 h2)
  · exact .of_right (intBits_le_64 h1 h2)
theorem two_pow_nn (k : Nat) : (0 : Int) ≤ 2 ^ k := by
  rw [two_pow_cast]
  exact Int.natCast_nonneg _

theorem op_add : OpR X (binaryOp .Add) (rI0 fun i j => .int (i + j)) := opI0 fun _ _ _ _ _ _ _ q => add_int q
theorem op_sub : OpR X (binaryOp .Sub) (rI0 fun i j => .int (i - j)) := opI0 fun _ _ _ _ _ _ _ q => sub_int q
theorem op_mul : OpR X (binaryOp .Mult) (rI CMul fun i j => .int (i * j)) := opI fun _ _ _ _ _ _ _ hc q => mul_int q hc.ok
/-- // by a positive divisor -/
theorem op_fdiv : OpR X (binaryOp .FloorDiv) (rI CDiv fun i j => .int (i / j)) := opI fun i j _ _ _ _ _ hc q => by
  have h1 : (0 : Int) < j := hc.1
  have h2 : j < 1073741824 := hc.2
  exact floordiv_int (by omega) (by rw [Int.fdiv_eq_ediv_of_nonneg i (by omega)]; exact q) (.inl (PyProof.noPylong_small (by omega)))
theorem op_fdivN : OpR X (binaryOp .FloorDiv) (rI CDivN fun i j => .int (i.fdiv j)) := opI fun _ _ _ _ _ _ _ hc q => floordiv_int hc.1 q (.inl (PyProof.noPylong_small hc.2))
/-- % by a positive divisor of any size -/
theorem op_mod : OpR X (binaryOp .Mod) (rI (fun _ j => 0 < j) fun i j => .int (i % j)) := opI fun i j _ _ _ _ _ hc q => by
  have h1 : (0 : Int) < j := hc
  exact mod_int' (by omega) (by rw [Int.fmod_eq_emod_of_nonneg i (by omega)]; exact q)
theorem op_modN : OpR X (binaryOp .Mod) (rI (fun _ j => j ≠ 0) fun i j => .int (i.fmod j)) := opI fun _ _ _ _ _ _ _ hc q => mod_int' hc q
theorem op_pow : OpR X (binaryOp .Pow) (rI CPow fun i j => .int (i ^ j.toNat)) := opI fun _ _ _ _ _ _ _ hc q => pow_int_small hc.1 hc.2.1 hc.2.2 q
theorem op_shl : OpR X (binaryOp .LShift) (rI CPow fun i j => .int (i * 2 ^ j.toNat)) := opI fun _ _ _ _ _ _ _ hc q => lshift_int_small hc.1 hc.2.1 hc.2.2 q
theorem op_shr : OpR X (binaryOp .RShift) (rI (fun _ j => 0 ≤ j) fun i j => .int (i / 2 ^ j.toNat)) := opI fun i j _ _ _ _ _ hc q =>
  rshift_int hc (by rw [Int.fdiv_eq_ediv_of_nonneg i (two_pow_nn _)]; exact q)
theorem op_and : OpR X (binaryOp .BitAnd) (rI0 fun i j => .int (Builtin.bitAnd i j)) := opI0 fun _ _ _ _ _ _ _ q => and_int q
theorem op_or : OpR X (binaryOp .BitOr) (rI0 fun i j => .int (Builtin.bitOr i j)) := opI0 fun _ _ _ _ _ _ _ q => or_int q
theorem op_xor : OpR X (binaryOp .BitXor) (rI0 fun i j => .int (Builtin.bitXor i j)) := opI0 fun _ _ _ _ _ _ _ q => xor_int q

theorem iop_add : OpR X (inplaceOp .Add) (rI0 fun i j => .int (i + j)) := opI0 fun _ _ _ _ _ _ _ q => iadd_int q
theorem iop_sub : OpR X (inplaceOp .Sub) (rI0 fun i j => .int (i - j)) := opI0 fun _ _ _ _ _ _ _ q => isub_int q
theorem iop_mul : OpR X (inplaceOp .Mult) (rI CMul fun i j => .int (i * j)) := opI fun _ _ _ _ _ _ _ hc q => imul_int q hc.ok
theorem iop_fdiv : OpR X (inplaceOp .FloorDiv) (rI CDiv fun i j => .int (i / j)) := opI fun i j _ _ _ _ _ hc q => by
  have h1 : (0 : Int) < j := hc.1
  have h2 : j < 1073741824 := hc.2
  exact ifloordiv_int (by omega) (by rw [Int.fdiv_eq_ediv_of_nonneg i (by omega)]; exact q) (.inl (PyProof.noPylong_small (by omega)))
theorem iop_mod : OpR X (inplaceOp .Mod) (rI (fun _ j => 0 < j) fun i j => .int (i % j)) := opI fun i j _ _ _ _ _ hc q => by
  have h1 : (0 : Int) < j := hc
  exact imod_int (by omega) (by rw [Int.fmod_eq_emod_of_nonneg i (by omega)]; exact q)
theorem iop_shl : OpR X (inplaceOp .LShift) (rI CPow fun i j => .int (i * 2 ^ j.toNat)) := opI fun _ _ _ _ _ _ _ hc q => ilshift_int_small hc.1 hc.2.1 hc.2.2 q
theorem iop_shr : OpR X (inplaceOp .RShift) (rI (fun _ j => 0 ≤ j) fun i j => .int (i / 2 ^ j.toNat)) := opI fun i j _ _ _ _ _ hc q =>
  irshift_int hc (by rw [Int.fdiv_eq_ediv_of_nonneg i (two_pow_nn _)]; exact q)
theorem iop_and : OpR X (inplaceOp .BitAnd) (rI0 fun i j => .int (Builtin.bitAnd i j)) := opI0 fun _ _ _ _ _ _ _ q => iand_int q
theorem iop_or : OpR X (inplaceOp .BitOr) (rI0 fun i j => .int (Builtin.bitOr i j)) := opI0 fun _ _ _ _ _ _ _ q => ior_int q
theorem iop_xor : OpR X (inplaceOp .BitXor) (rI0 fun i j => .int (Builtin.bitXor i j)) := opI0 fun _ _ _ _ _ _ _ q => ixor_int q

theorem unI {f : Value → Sem Value} {g : Int → Int}
    (rule : ∀ (i : Int) (t : Tok) (s : Shared) (Q : Value → Shared → Prop) (E : Value → Shared → Prop), Q (.int (g i) s.toks) { s with toks := s.toks + 1 } → wpAny (model X.prog X.w) X.A (f (.int i t)) Q E s) :
    UnR X f (rU fun i => .int (g i)) := by
  intro pins s σ H x v Q I rx h
  obtain ⟨i, rfl, q⟩ := h
  obtain ⟨t, rfl⟩ := rx
  exact rule i t s _ _ ⟨.int (g i), H, I.tok _, ⟨_, rfl⟩, q⟩
theorem un_neg : UnR X (unaryOp .USub) (rU fun i => .int (-i)) := unI fun _ _ _ _ _ q => neg_int q
theorem un_inv : UnR X (unaryOp .Invert) (rU fun i => .int (Builtin.bitNot i)) := unI fun _ _ _ _ _ q => invert_int q

/-! ### bools among ints: n += (a < b) -/
theorem op_add_ib : OpR X (binaryOp .Add) (fun x y H Q => ∃ i k, x = .int i ∧ y = .bl k ∧ Q (.int (i + b2i k)) H) := by
  intro pins s σ H x y v u Q I rx ry h
  obtain ⟨i, k, rfl, rfl, q⟩ := h
  obtain ⟨t, rfl⟩ := rx
  cases ry
  exact add_int_bool ⟨.int (i + b2i k), H, I.tok _, ⟨_, rfl⟩, q⟩
end

/-! ### comparisons -/
/-- the scalars that == tells apart as data does -/
def scal : V → V → Bool
  | .non, .non => true | .non, .int _ => true | .int _, .non => true | .non, .bl _ => true | .bl _, .non => true | .non, .str _ => true | .str _, .non => true
  | .int _, .int _ => true | .bl _, .bl _ => true | .str _, .str _ => true | .byt _, .byt _ => true
  | .int _, .str _ => true | .str _, .int _ => true | .bl _, .str _ => true | .str _, .bl _ => true
  | _, _ => false
def rEq : R2 := fun x y H Q => scal x y = true ∧ Q (.bl (decide (x = y))) H
def rNe : R2 := fun x y H Q => scal x y = true ∧ Q (.bl (!decide (x = y))) H

theorem dec_int {i j : Int} : decide (V.int i = V.int j) = (i == j) := by
  rw [Bool.eq_iff_iff]
  simp
theorem dec_bl {i j : Bool} : decide (V.bl i = V.bl j) = (i == j) := by
  rw [Bool.eq_iff_iff]
  simp
theorem dec_str {i j : Str} : decide (V.str i = V.str j) = (i == j) := by
  rw [Bool.eq_iff_iff]
  simp
theorem dec_byt {i j : Array UInt8} : decide (V.byt i = V.byt j) = (i.toList == j.toList) := by
  rw [Bool.eq_iff_iff]
  cases i
  cases j
  simp

section
variable {X : Cx} {a b c : Expr} {ta tb tc : TE} {pos : Pos}
theorem fin_bl {pins : List (Addr × Obj)} {σ : St} {H : Hp} {s : Shared} {Q : VK} {k k' : Bool} (I : Inv X pins σ H s) (q : Q (.bl k) H) (e : k = k') : EP X pins σ Q (.bool k') s := by
  subst e
  exact ⟨.bl k, H, I, rfl, q⟩
theorem op_eq : OpR X (compareOp .Eq) rEq := by
  intro pins s σ H x y v u Q I rx ry h
  obtain ⟨hs, q⟩ := h
  cases x with
  | non =>
    cases rx
    cases y with
    | non => cases ry; exact PySem.EqNone.eq_none_none (fin_bl I q (by simp))
    | bl j => cases ry; exact PySem.EqNone.eq_none_bool (fin_bl I q (by simp))
    | int j => obtain ⟨t', rfl⟩ := ry; exact PySem.EqNone.eq_none_int (fin_bl I q (by simp))
    | str j => obtain ⟨t', rfl⟩ := ry; exact PySem.EqNone.eq_none_str (fin_bl I q (by simp))
    | _ => exact absurd (show false = true from hs) Bool.false_ne_true
  | bl i =>
    cases rx
    cases y with
    | non => cases ry; exact PySem.EqNone.eq_bool_none (fin_bl I q (by simp))
    | bl j => cases ry; exact eq_bool (fin_bl I q dec_bl)
    | str j => obtain ⟨t', rfl⟩ := ry; exact PySem.EqMixed.eq_bool_str (fin_bl I q (by simp))
    | _ => exact absurd (show false = true from hs) Bool.false_ne_true
  | int i =>
    obtain ⟨t, rfl⟩ := rx
    cases y with
    | non => cases ry; exact PySem.EqNone.eq_int_none (fin_bl I q (by simp))
    | int j => obtain ⟨t', rfl⟩ := ry; exact eq_int (fin_bl I q dec_int)
    | str j => obtain ⟨t', rfl⟩ := ry; exact PySem.EqMixed.eq_int_str (fin_bl I q (by simp))
    | _ => exact absurd (show false = true from hs) Bool.false_ne_true
  | str i =>
    obtain ⟨t, rfl⟩ := rx
    cases y with
    | non => cases ry; exact PySem.EqNone.eq_str_none (fin_bl I q (by simp))
    | bl j => cases ry; exact PySem.EqMixed.eq_str_bool (fin_bl I q (by simp))
    | int j => obtain ⟨t', rfl⟩ := ry; exact PySem.EqMixed.eq_str_int (fin_bl I q (by simp))
    | str j => obtain ⟨t', rfl⟩ := ry; exact eq_str (fin_bl I q dec_str)
    | _ => exact absurd (show false = true from hs) Bool.false_ne_true
  | byt i =>
    obtain ⟨t, rfl⟩ := rx
    cases y with
    | byt j => obtain ⟨t', rfl⟩ := ry; exact PySem.W.eq_bytes (fin_bl I q dec_byt)
    | _ => exact absurd (show false = true from hs) Bool.false_ne_true
  | _ => cases y <;> exact absurd (show false = true from hs) Bool.false_ne_true
theorem op_ne : OpR X (compareOp .NotEq) rNe := by
  intro pins s σ H x y v u Q I rx ry h
  obtain ⟨hs, q⟩ := h
  cases x with
  | non =>
    cases rx
    cases y with
    | non => cases ry; exact PySem.EqNone.ne_none_none (fin_bl I q (by simp))
    | bl j => cases ry; exact PySem.EqNone.ne_none_bool (fin_bl I q (by simp))
    | int j => obtain ⟨t', rfl⟩ := ry; exact PySem.EqNone.ne_none_int (fin_bl I q (by simp))
    | str j => obtain ⟨t', rfl⟩ := ry; exact PySem.EqNone.ne_none_str (fin_bl I q (by simp))
    | _ => exact absurd (show false = true from hs) Bool.false_ne_true
  | bl i =>
    cases rx
    cases y with
    | non => cases ry; exact PySem.EqNone.ne_bool_none (fin_bl I q (by simp))
    | bl j => cases ry; exact ne_bool (fin_bl I q (congrArg not dec_bl))
    | str j => obtain ⟨t', rfl⟩ := ry; exact PySem.EqMixed.ne_bool_str (fin_bl I q (by simp))
    | _ => exact absurd (show false = true from hs) Bool.false_ne_true
  | int i =>
    obtain ⟨t, rfl⟩ := rx
    cases y with
    | non => cases ry; exact PySem.EqNone.ne_int_none (fin_bl I q (by simp))
    | int j => obtain ⟨t', rfl⟩ := ry; exact ne_int (fin_bl I q (congrArg not dec_int))
    | str j => obtain ⟨t', rfl⟩ := ry; exact PySem.EqMixed.ne_int_str (fin_bl I q (by simp))
    | _ => exact absurd (show false = true from hs) Bool.false_ne_true
  | str i =>
    obtain ⟨t, rfl⟩ := rx
    cases y with
    | non => cases ry; exact PySem.EqNone.ne_str_none (fin_bl I q (by simp))
    | bl j => cases ry; exact PySem.EqMixed.ne_str_bool (fin_bl I q (by simp))
    | int j => obtain ⟨t', rfl⟩ := ry; exact PySem.EqMixed.ne_str_int (fin_bl I q (by simp))
    | str j => obtain ⟨t', rfl⟩ := ry; exact ne_str (fin_bl I q (congrArg not dec_str))
    | _ => exact absurd (show false = true from hs) Bool.false_ne_true
  | byt i =>
    obtain ⟨t, rfl⟩ := rx
    cases y with
    | byt j => obtain ⟨t', rfl⟩ := ry; exact PySem.W.ne_bytes (fin_bl I q (congrArg not dec_byt))
    | _ => exact absurd (show false = true from hs) Bool.false_ne_true
  | _ => cases y <;> exact absurd (show false = true from hs) Bool.false_ne_true

theorem op_lt : OpR X (compareOp .Lt) (rI0 fun i j => .bl (decide (i < j))) := opB0 fun _ _ _ _ _ _ _ q => lt_int q
theorem op_le : OpR X (compareOp .LtE) (rI0 fun i j => .bl (decide (i ≤ j))) := opB0 fun _ _ _ _ _ _ _ q => le_int q
theorem op_gt : OpR X (compareOp .Gt) (rI0 fun i j => .bl (decide (j < i))) := opB0 fun _ _ _ _ _ _ _ q => gt_int q
theorem op_ge : OpR X (compareOp .GtE) (rI0 fun i j => .bl (decide (j ≤ i))) := opB0 fun _ _ _ _ _ _ _ q => ge_int q
theorem op_lt_str : OpR X (compareOp .Lt) (fun x y H Q => ∃ i j, x = .str i ∧ y = .str j ∧ Q (.bl (decide (i.cps.toList < j.cps.toList))) H) := by
  intro pins s σ H x y v u Q I rx ry h
  obtain ⟨i, j, rfl, rfl, q⟩ := h
  obtain ⟨t, rfl⟩ := rx
  obtain ⟨t', rfl⟩ := ry
  exact lt_str (fin_bl I q rfl)
/-- the one string within the other -/
theorem op_in_str : OpR X (compareOp .In) (fun x y H Q => ∃ i j, x = .str i ∧ y = .str j ∧ Q (.bl (!(Builtin.Str.occurrences j i 0 j.length 1).isEmpty)) H) := by
  intro pins s σ H x y v u Q I rx ry h
  obtain ⟨i, j, rfl, rfl, q⟩ := h
  obtain ⟨t, rfl⟩ := rx
  obtain ⟨t', rfl⟩ := ry
  exact in_str (fin_bl I q rfl)

/-- is None, is not None: the right side a value none -/
theorem op_isN : OpR X (compareOp .Is) (fun x y H Q => y = .non ∧ Q (.bl (decide (x = .non))) H) := by
  intro pins s σ H x y v u Q I rx ry h
  obtain ⟨rfl, q⟩ := h
  cases ry
  refine is_none_gen (fin_bl I q ?_)
  cases x <;> first
    | (cases rx; rfl)
    | (obtain ⟨t, rfl⟩ := rx; rfl)
theorem op_notN : OpR X (compareOp .IsNot) (fun x y H Q => y = .non ∧ Q (.bl (!decide (x = .non))) H) := by
  intro pins s σ H x y v u Q I rx ry h
  obtain ⟨rfl, q⟩ := h
  cases ry
  refine isnot_none_gen (fin_bl I q ?_)
  cases x <;> first
    | (cases rx; rfl)
    | (obtain ⟨t, rfl⟩ := rx; rfl)

theorem op_notin_str : OpR X (compareOp .NotIn) (fun x y H Q => ∃ i j, x = .str i ∧ y = .str j ∧ Q (.bl (!(!(Builtin.Str.occurrences j i 0 j.length 1).isEmpty))) H) := by
  intro pins s σ H x y v u Q I rx ry h
  obtain ⟨i, j, rfl, rfl, q⟩ := h
  obtain ⟨t, rfl⟩ := rx
  obtain ⟨t', rfl⟩ := ry
  exact notIn_str (fin_bl I q rfl)
/-- is, is not of two objects that are tracked lists or instances -/
def isObj : HO → Bool
  | .lst _ => true
  | .ins _ _ _ => true
  | _ => false
theorem obj_there {pins : List (Addr × Obj)} {s : Shared} {σ : St} {H : Hp} {a : Addr} {o : HO} (I : Inv X pins σ H s) (h : H a = some o) (p : isObj o = true) : ∃ ob, s.heap.get? a = some ob ∧ ob.cls ≠ .type "tuple" := by
  cases o with
  | lst xs =>
    obtain ⟨_, its, n, _, e⟩ : xs.length ≤ sizeLine ∧ ∃ (its : List Value) (n : Nat), Vals xs its ∧ s.heap.get? a = some { cls := .type "list", data := .seq its.toArray n } := I.hok a _ h
    exact ⟨_, e, (by show Value.type "list" ≠ .type "tuple"; decide +kernel)⟩
  | ins C dx fs =>
    have x := I.hok a _ h
    obtain ⟨_, _, _, e, _⟩ := x
    exact ⟨_, e, (by show Value.ref C ≠ .type "tuple"; exact fun z => by cases z)⟩
  | _ => exact absurd (show false = true from p) Bool.false_ne_true
theorem op_is_ref : OpR X (compareOp .Is) (fun x y H Q => ∃ a b oa ob, x = .ref a ∧ y = .ref b ∧ H a = some oa ∧ isObj oa = true ∧ H b = some ob ∧ isObj ob = true ∧ Q (.bl (decide (a = b))) H) := by
  intro pins s σ H x y v u Q I rx ry h
  obtain ⟨a, b, oa, ob, rfl, rfl, ha, pa, hb, pb, q⟩ := h
  cases rx
  cases ry
  obtain ⟨o1, e1, n1⟩ := obj_there I ha pa
  obtain ⟨o2, e2, _⟩ := obj_there I hb pb
  by_cases z : a = b
  · subst z
    exact wpAny_is_ref_self (fin_bl I q (by simp))
  · exact wpAny_is_ref_other z e1 e2 n1 (fin_bl I q (by simp [z]))
theorem op_isnot_ref : OpR X (compareOp .IsNot) (fun x y H Q => ∃ a b oa ob, x = .ref a ∧ y = .ref b ∧ H a = some oa ∧ isObj oa = true ∧ H b = some ob ∧ isObj ob = true ∧ Q (.bl (!decide (a = b))) H) := by
  intro pins s σ H x y v u Q I rx ry h
  obtain ⟨a, b, oa, ob, rfl, rfl, ha, pa, hb, pb, q⟩ := h
  cases rx
  cases ry
  obtain ⟨o1, e1, n1⟩ := obj_there I ha pa
  obtain ⟨o2, e2, _⟩ := obj_there I hb pb
  by_cases z : a = b
  · subst z
    exact wpAny_isNot_ref_self (fin_bl I q (by simp))
  · exact wpAny_isNot_ref_other z e1 e2 n1 (fin_bl I q (by simp [z]))

/-- two rules for one operation: by cases -/
theorem OpR.or {f : Value → Value → Sem Value} {r r' : R2} (h : OpR X f r) (h' : OpR X f r') : OpR X f (fun x y H Q => r x y H Q ∨ r' x y H Q) := by
  intro pins s σ H x y v u Q I rx ry q
  rcases q with q | q
  · exact h pins s σ H x y v u Q I rx ry q
  · exact h' pins s σ H x y v u Q I rx ry q

theorem nomark (b : Expr) {op : CmpOp} (h : op ≠ .In := by decide) (h2 : op ≠ .NotIn := by decide) : behindInMarks op b = false := by
  have e1 : (op == CmpOp.In) = false := by cases op <;> first | rfl | exact absurd rfl h
  have e2 : (op == CmpOp.NotIn) = false := by cases op <;> first | rfl | exact absurd rfl h2
  cases b <;> simp [behindInMarks, e1, e2]
/-- a comparison as a value; hm: nomark b, or (for in, not in) by with_unfolding_all rfl -/
theorem pe_cmpR {op : CmpOp} {r : R2} (ho : OpR X (compareOp op) r) (ha : PE X a ta) (hb : PE X b tb) (hm : behindInMarks op b = false) : PE X (.Compare a [op] [b] pos) (tOp r ta tb) := by
  intro pins s σ H Q I h
  exact wpAny_Compare1 (binT ha hb I h fun v u s2 x y H2 I2 rx ry q => ho pins s2 σ H2 x y v u Q I2 rx ry q) hm
/-- a reading of a value as a test -/
def tTest (t : TE) : TT := fun σ H Q => t σ H fun x H' => ∃ k, x = .bl k ∧ Q k H'
theorem pt_cmpR {op : CmpOp} {r : R2} (ho : OpR X (compareOp op) r) (ha : PE X a ta) (hb : PE X b tb) (hm : behindInMarks op b = false) : PT X (.Compare a [op] [b] pos) (tTest (tOp r ta tb)) := by
  intro pins s σ H Q I h
  refine wpAny_isTrue_Compare1 (thn (ha pins s σ H _ I h) fun v s1 ⟨x, H1, I1, r1, q1⟩ => thn (hb pins s1 σ H1 _ I1 q1) fun u s2 ⟨y, H2, I2, r2, q2⟩ =>
    thn (ho pins s2 σ H2 x y v u _ I2 r1 r2 q2) fun c s3 ⟨z, H3, I3, r3, k, e, q3⟩ => ?_) hm
  subst e
  cases r3
  exact wpAny_truthy_bool ⟨H3, I3, q3⟩
/-- a op1 b op2 c -/
def tChain (r r' : R2) (ta tb tc : TE) : TE := fun σ H Q => ta σ H fun x H1 => tb σ H1 fun y H2 => r x y H2 fun z H3 => ∃ k, z = .bl k ∧
  (if k = true then tc σ H3 fun w' H4 => r' y w' H4 Q else Q (.bl false) H3)
theorem pe_chain {op op' : CmpOp} {r r' : R2} (ho : OpR X (compareOp op) r) (ho' : OpR X (compareOp op') r') (ha : PE X a ta) (hb : PE X b tb) (hc : PE X c tc)
    (hm : lastMarks [op, op'] [b, c] = false := by with_unfolding_all rfl) : PE X (.Compare a [op, op'] [b, c] pos) (tChain r r' ta tb tc) := by
  intro pins s σ H Q I h
  refine Compare_chain (thn (ha pins s σ H _ I h) fun v s1 ⟨x, H1, I1, r1, q1⟩ => chain_link (thn (hb pins s1 σ H1 _ I1 q1) fun u s2 ⟨y, H2, I2, r2, q2⟩ =>
    thn (ho pins s2 σ H2 x y v u _ I2 r1 r2 q2) fun d s3 ⟨z, H3, I3, r3, k, e, q3⟩ => ?_)) hm
  subst e
  cases r3
  refine wpAny_truthy_bool ?_
  cases k with
  | false => exact ite_ff ⟨.bl false, H3, I3, rfl, q3⟩
  | true => exact ite_tt (chain_last (thn (hc pins s3 σ H3 _ I3 q3) fun w' s4 ⟨z', H4, I4, r4, q4⟩ => ho' pins s4 σ H4 y z' u w' Q I4 r2 r4 q4))
theorem pt_chain {op op' : CmpOp} {r r' : R2} (ho : OpR X (compareOp op) r) (ho' : OpR X (compareOp op') r') (ha : PE X a ta) (hb : PE X b tb) (hc : PE X c tc)
    (hm : lastMarks [op, op'] [b, c] = false := by with_unfolding_all rfl) : PT X (.Compare a [op, op'] [b, c] pos) (tTest (tChain r r' ta tb tc)) := by
  intro pins s σ H Q I h
  refine isTrue_chain (thn (ha pins s σ H _ I h) fun v s1 ⟨x, H1, I1, r1, q1⟩ => test_link (thn (hb pins s1 σ H1 _ I1 q1) fun u s2 ⟨y, H2, I2, r2, q2⟩ =>
    thn (ho pins s2 σ H2 x y v u _ I2 r1 r2 q2) fun d s3 ⟨z, H3, I3, r3, k, e, q3⟩ => ?_)) hm
  subst e
  cases r3
  refine wpAny_truthy_bool ?_
  cases k with
  | false =>
    obtain ⟨k', e', q'⟩ := q3
    cases e'
    exact ite_ff ⟨H3, I3, q'⟩
  | true =>
    refine ite_tt (test_last (thn (hc pins s3 σ H3 _ I3 q3) fun w' s4 ⟨z', H4, I4, r4, q4⟩ => thn (ho' pins s4 σ H4 y z' u w' _ I4 r2 r4 q4) fun d' s5 ⟨z2, H5, I5, r5, k2, e2, q5⟩ => ?_))
    subst e2
    cases r5
    exact wpAny_truthy_bool ⟨H5, I5, q5⟩

/-! ### truth -/
/-- a value's truth by the abstract heap -/
def TruV (K : PySem.W.Frag) (x : V) (H : Hp) (k : Bool) : Prop :=
  match x with
  | .non => k = false
  | .bl b => k = b
  | .int i => k = (i != 0)
  | .str y => y.length ≤ sizeLine ∧ k = ((y.length : Int) != 0)
  | .byt y => y.size ≤ sizeLine ∧ k = ((y.size : Int) != 0)
  | .ref p => (∃ xs, SqL K H p xs ∧ k = !xs.isEmpty) ∨ (∃ xs, SqT K H p xs ∧ k = !xs.isEmpty) ∨ ∃ kvs, H p = some (.dK kvs) ∧ k = !kvs.isEmpty
  | _ => False
theorem isEmpty_kv {κ : Type} {kvs : List (κ × V)} {vs : List (κ × Value)} (r : KV kvs vs) : (!vs.isEmpty) = !kvs.isEmpty := by
  cases r <;> rfl
theorem isEmpty_of {xs : List V} {its : List Value} (r : Vals xs its) : (!its.toArray.isEmpty) = !xs.isEmpty := by
  cases r <;> simp
theorem line63 : (sizeLine : Nat) < 2 ^ 63 := by rw [sizeLine_eq]; decide
theorem tru_ok : TruR X (fun x H Q => ∃ k, TruV X.K x H k ∧ Q k H) := by
  intro pins s σ H x v Q I rx h
  obtain ⟨k, e, q⟩ := h
  have hl := line63
  have hs : sizeLine = 16777216 := sizeLine_eq
  cases x with
  | non =>
    cases rx
    have e' : k = false := e
    subst e'
    exact truthy_none ⟨H, I, q⟩
  | bl b =>
    cases rx
    have e' : k = b := e
    subst e'
    exact wpAny_truthy_bool ⟨H, I, q⟩
  | int i =>
    obtain ⟨t, rfl⟩ := rx
    have e' : k = (i != 0) := e
    subst e'
    exact PySem.P.truthy_int ⟨H, I, q⟩
  | str y =>
    obtain ⟨t, rfl⟩ := rx
    obtain ⟨hy, e'⟩ : y.length ≤ sizeLine ∧ k = ((y.length : Int) != 0) := e
    subst e'
    exact PySem.P.truthy_str (by omega) ⟨H, I.tok _, q⟩
  | byt y =>
    obtain ⟨t, rfl⟩ := rx
    obtain ⟨hy, e'⟩ : y.size ≤ sizeLine ∧ k = ((y.size : Int) != 0) := e
    subst e'
    exact PySem.W.truthy_bytes (by omega) ⟨H, I.tok _, q⟩
  | ref p =>
    cases rx
    have e' : (∃ xs, SqL X.K H p xs ∧ k = !xs.isEmpty) ∨ (∃ xs, SqT X.K H p xs ∧ k = !xs.isEmpty) ∨ ∃ kvs, H p = some (.dK kvs) ∧ k = !kvs.isEmpty := e
    rcases e' with ⟨xs, hx, e'⟩ | ⟨xs, hx, e'⟩ | ⟨kvs, hx, e'⟩
    · subst e'
      obtain ⟨its, r, pl, hz⟩ := I.list hx
      have hlen := r.length
      exact wpAny_truthy_list pl.isList (by simp only [List.size_toArray]; omega) ⟨H, I.tok _, by rw [isEmpty_of r]; exact q⟩
    · subst e'
      obtain ⟨its, r, pl, hz⟩ := I.tuple hx
      have hlen := r.length
      exact truthy_tuple pl (by simp only [List.size_toArray]; omega) ⟨H, I.tok _, by rw [isEmpty_of r]; exact q⟩
    · subst e'
      obtain ⟨hz, hS, vs, r, m⟩ : kvs.length ≤ sizeLine ∧ (p == sysModules) = false ∧ ∃ vs, KV kvs vs ∧ s.heap.DictOf (mixKind X.prog X.w) p vs := I.hok p _ hx
      have hlen : kvs.length = vs.length := Paired.length r
      exact wpAny_truthy_dict hS m (by omega) ⟨H, I.tok _, by rw [isEmpty_kv r]; exact q⟩
  | _ => exact (show False from e).elim
/-- any expression whose test is its value's truth (a name, a call, a subscript, a field ..: he by fun _ => rfl) -/
theorem pt_truth (ha : PE X a ta) (he : ∀ whole, isTrue a X.env whole = (do let v ← whole; standAt a.pos; holding [v] (truthy v))) :
    PT X a (fun σ H Q => ta σ H fun x H' => ∃ k, TruV X.K x H' k ∧ Q k H') := by
  intro pins s σ H Q I h
  exact isTrue_plain (thn (ha pins s σ H _ I h) fun v s1 ⟨x, H1, I1, r1, q1⟩ => tru_ok pins s1 σ H1 x v Q I1 r1 q1) (he _)

/-! ### strs and bytes -/
theorem pe_byt {x : List UInt8} {k : Nat} : PE X (.Constant (.bytes x) k pos) (fun _ H Q => Q (.byt x.toArray) H) := fun _ _ _ H _ I h => PySem.W.Constant_bytes ⟨.byt x.toArray, H, I.tok _, ⟨_, rfl⟩, h⟩
theorem op_add_str : OpR X (binaryOp .Add) (fun x y H Q => ∃ i j, x = .str i ∧ y = .str j ∧ i.length + j.length ≤ sizeLine ∧ Q (.str (i ++ j)) H) := by
  intro pins s σ H x y v u Q I rx ry h
  obtain ⟨i, j, rfl, rfl, hz, q⟩ := h
  obtain ⟨t, rfl⟩ := rx
  obtain ⟨t', rfl⟩ := ry
  exact add_str (fun t' tk => ⟨.str (i ++ j), H, I.tok _, ⟨_, rfl⟩, q⟩) hz
theorem iop_add_str : OpR X (inplaceOp .Add) (fun x y H Q => ∃ i j, x = .str i ∧ y = .str j ∧ i.length + j.length ≤ sizeLine ∧ Q (.str (i ++ j)) H) := by
  intro pins s σ H x y v u Q I rx ry h
  obtain ⟨i, j, rfl, rfl, hz, q⟩ := h
  obtain ⟨t, rfl⟩ := rx
  obtain ⟨t', rfl⟩ := ry
  exact iadd_str (fun t' tk => ⟨.str (i ++ j), H, I.tok _, ⟨_, rfl⟩, q⟩) hz
theorem op_add_byt : OpR X (binaryOp .Add) (fun x y H Q => ∃ i j, x = .byt i ∧ y = .byt j ∧ i.size + j.size ≤ 16777216 ∧ Q (.byt (i ++ j)) H) := by
  intro pins s σ H x y v u Q I rx ry h
  obtain ⟨i, j, rfl, rfl, hz, q⟩ := h
  obtain ⟨t, rfl⟩ := rx
  obtain ⟨t', rfl⟩ := ry
  exact PySem.W.KBy.add_bytes hz (fun t' tk => ⟨.byt (i ++ j), H, I.tok _, ⟨_, rfl⟩, q⟩)

def PlainIxT (b : Expr) : Prop := ∀ o i, subscripted b false o i = operate [o, i] (getItem o i)
/-- s[i], 0 ≤ i < len -/
theorem pe_item_str (ha : PE X a ta) (hb : PE X b tb) (hs : PlainIxT b) :
    PE X (.Subscript a b pos) (tOp (fun x y H Q => ∃ z i c, x = .str z ∧ y = .int i ∧ 0 ≤ i ∧ i < 2 ^ 63 ∧ i < z.length ∧ z.cps[i.toNat]? = some c ∧ Q (.str ⟨#[c]⟩) H) ta tb) := by
  intro pins s σ H Q I h
  refine Subscript_ (binT ha hb I h fun v u s2 x y H2 I2 rx ry q => ?_)
  obtain ⟨z, i, c, rfl, rfl, h0, h63, h1, hc, q⟩ := q
  obtain ⟨t, rfl⟩ := rx
  obtain ⟨t', rfl⟩ := ry
  have e : seqIndex? i z.length = some i.toNat := PySem.StrLaws.seqIndex_nonneg h0 h1
  exact tail_any (typeIs_str s2 z t) slot_str_getitem.lookup (getItem_str (c := c) (by
    have e1 : decide (i < -(2 ^ 63 : Int)) = false := decide_eq_false (by omega)
    have e2 : decide (i ≥ 2 ^ 63) = false := decide_eq_false (by omega)
    rw [e1, e2] <;> rfl) (by rw [e]; exact hc) ⟨.str ⟨#[c]⟩, H2, I2.tok _, ⟨_, rfl⟩, q⟩) (hs _ _)
/-- b[i], 0 ≤ i < len -/
theorem pe_item_byt (ha : PE X a ta) (hb : PE X b tb) (hs : PlainIxT b) :
    PE X (.Subscript a b pos) (tOp (fun x y H Q => ∃ (z : List UInt8) (i : Int), x = .byt z.toArray ∧ y = .int i ∧ z.length ≤ sizeLine ∧ 0 ≤ i ∧ i < z.length ∧ Q (.int ((z.getD i.toNat 0).toNat : Nat)) H) ta tb) := by
  intro pins s σ H Q I h
  refine Subscript_ (binT ha hb I h fun v u s2 x y H2 I2 rx ry q => ?_)
  obtain ⟨z, i, rfl, rfl, hz, h0, h1, q⟩ := q
  obtain ⟨t, rfl⟩ := rx
  obtain ⟨t', rfl⟩ := ry
  have hl : sizeLine = 16777216 := sizeLine_eq
  exact tail_any (PySem.W.typeIs_bytes s2 z.toArray t) PySem.W.FB.slot_bytes_getitem.lookup (PySem.W.getItem_bytes (by omega) h0 h1 ⟨.int ((z.getD i.toNat 0).toNat : Nat), H2, I2.tok _, ⟨_, rfl⟩, q⟩) (hs _ _)

/-! ### scalar builtins, by CallR -/
theorem vals1 {x : V} {us : List Value} (r : Vals [x] us) : ∃ u, us = [u] ∧ RelV x u := by
  cases r with
  | cons r1 r2 => cases r2; exact ⟨_, rfl, r1⟩
theorem vals2 {x y : V} {us : List Value} (r : Vals [x, y] us) : ∃ u w', us = [u, w'] ∧ RelV x u ∧ RelV y w' := by
  cases r with
  | cons r1 r2 =>
    cases r2 with
    | cons r3 r4 => cases r4; exact ⟨_, _, rfl, r1, r3⟩
theorem call_abs : CallR X (.builtin "abs") (fun xs H Q => ∃ i, xs = [.int i] ∧ Q (.int (if i < 0 then -i else i)) H) := by
  intro pins s σ H xs us Q I r h
  obtain ⟨i, rfl, q⟩ := h
  obtain ⟨u, rfl, t, rfl⟩ := vals1 r
  exact call_abs_int fun u tk => ⟨.int (if i < 0 then -i else i), H, I.tok _, ⟨_, rfl⟩, q⟩
theorem call_max2 (hc : X.calm = true) : CallR X (.builtin "max") (fun xs H Q => ∃ i j, xs = [.int i, .int j] ∧ Q (.int (if j > i then j else i)) H) := by
  intro pins s σ H xs us Q I r h
  obtain ⟨i, j, rfl, q⟩ := h
  obtain ⟨u, w', rfl, ⟨t, rfl⟩, ⟨t', rfl⟩⟩ := vals2 r
  refine max_two_ints (I.ok.hd hc) fun h' tk k => ⟨_, H, I.kept k, ?_, q⟩
  by_cases hj : j > i
  · rw [if_pos hj, if_pos hj]; exact ⟨_, rfl⟩
  · rw [if_neg hj, if_neg hj]; exact ⟨_, rfl⟩
theorem call_min2 (hc : X.calm = true) : CallR X (.builtin "min") (fun xs H Q => ∃ i j, xs = [.int i, .int j] ∧ Q (.int (if j < i then j else i)) H) := by
  intro pins s σ H xs us Q I r h
  obtain ⟨i, j, rfl, q⟩ := h
  obtain ⟨u, w', rfl, ⟨t, rfl⟩, ⟨t', rfl⟩⟩ := vals2 r
  refine min_two_ints (I.ok.hd hc) fun h' tk k => ⟨_, H, I.kept k, ?_, q⟩
  by_cases hj : j < i
  · rw [if_pos hj, if_pos hj]; exact ⟨_, rfl⟩
  · rw [if_neg hj, if_neg hj]; exact ⟨_, rfl⟩
theorem call_int1 : CallR X (.type "int") (fun xs H Q => (∃ i, xs = [.int i] ∧ Q (.int i) H) ∨ ∃ k, xs = [.bl k] ∧ Q (.int (if k then 1 else 0)) H) := by
  intro pins s σ H xs us Q I r h
  rcases h with ⟨i, rfl, q⟩ | ⟨k, rfl, q⟩
  · obtain ⟨u, rfl, t, rfl⟩ := vals1 r
    exact call_int_int ⟨.int i, H, I, ⟨_, rfl⟩, q⟩
  · obtain ⟨u, rfl, r1⟩ := vals1 r
    cases r1
    exact call_int_bool ⟨.int (if k then 1 else 0), H, I.tok _, ⟨_, rfl⟩, q⟩
theorem call_bool1 : CallR X (.type "bool") (fun xs H Q => (∃ i, xs = [.int i] ∧ Q (.bl (i != 0)) H) ∨ ∃ k, xs = [.bl k] ∧ Q (.bl k) H) := by
  intro pins s σ H xs us Q I r h
  rcases h with ⟨i, rfl, q⟩ | ⟨k, rfl, q⟩
  · obtain ⟨u, rfl, t, rfl⟩ := vals1 r
    exact call_bool_int ⟨.bl (i != 0), H, I, rfl, q⟩
  · obtain ⟨u, rfl, r1⟩ := vals1 r
    cases r1
    exact call_bool_bool ⟨.bl k, H, I, rfl, q⟩
theorem call_str_int : CallR X (.type "str") (fun xs H Q => ∃ i, xs = [.int i] ∧ i.natAbs.log2 < 1920 ∧ Q (.str (toString i)) H) := by
  intro pins s σ H xs us Q I r h
  obtain ⟨i, rfl, hz, q⟩ := h
  obtain ⟨u, rfl, t, rfl⟩ := vals1 r
  exact PySem.P.str_of_int hz ⟨.str _, H, I.tok _, ⟨_, rfl⟩, q⟩
theorem call_ord : CallR X (.builtin "ord") (fun xs H Q => ∃ x, xs = [.str x] ∧ x.length = 1 ∧ Q (.int (x.cps.getD 0 0 : Nat)) H) := by
  intro pins s σ H xs us Q I r h
  obtain ⟨x, rfl, hz, q⟩ := h
  obtain ⟨u, rfl, t, rfl⟩ := vals1 r
  exact ord_of_one hz ⟨.int _, H, I.tok _, ⟨_, rfl⟩, q⟩
theorem call_chr : CallR X (.builtin "chr") (fun xs H Q => ∃ i, xs = [.int i] ∧ 0 ≤ i ∧ i ≤ 1114111 ∧ Q (.str ⟨#[i.toNat]⟩) H) := by
  intro pins s σ H xs us Q I r h
  obtain ⟨i, rfl, h0, h1, q⟩ := h
  obtain ⟨u, rfl, t, rfl⟩ := vals1 r
  exact chr_of_range h0 h1 ⟨.str _, H, I.tok _, ⟨_, rfl⟩, q⟩
/-- len of a str, a bytes, a list, a tuple -/
def LenV (K : PySem.W.Frag) (x : V) (H : Hp) (n : Nat) : Prop :=
  match x with
  | .str y => y.length ≤ sizeLine ∧ n = y.length
  | .byt y => y.size ≤ sizeLine ∧ n = y.size
  | .ref p => (∃ xs, SqL K H p xs ∧ n = xs.length) ∨ ∃ xs, SqT K H p xs ∧ n = xs.length
  | _ => False
theorem call_len : CallR X (.builtin "len") (fun xs H Q => ∃ x n, xs = [x] ∧ LenV X.K x H n ∧ Q (.int n) H) := by
  intro pins s σ H xs us Q I r h
  obtain ⟨x, n, rfl, e, q⟩ := h
  obtain ⟨u, rfl, rx⟩ := vals1 r
  have hl := line63
  have hs : sizeLine = 16777216 := sizeLine_eq
  cases x with
  | str y =>
    obtain ⟨t, rfl⟩ := rx
    obtain ⟨hy, e'⟩ : y.length ≤ sizeLine ∧ n = y.length := e
    subst e'
    exact len_str (by omega) ⟨.int _, H, I.tok _, ⟨_, rfl⟩, q⟩
  | byt y =>
    obtain ⟨t, rfl⟩ := rx
    obtain ⟨hy, e'⟩ : y.size ≤ sizeLine ∧ n = y.size := e
    subst e'
    exact PySem.W.len_bytes (by omega) ⟨.int _, H, I.tok _, ⟨_, rfl⟩, q⟩
  | ref p =>
    cases rx
    have e' : (∃ xs, SqL X.K H p xs ∧ n = xs.length) ∨ ∃ xs, SqT X.K H p xs ∧ n = xs.length := e
    rcases e' with ⟨xs, hx, e'⟩ | ⟨xs, hx, e'⟩
    · subst e'
      obtain ⟨its, r', pl, hz⟩ := I.list hx
      have hlen := r'.length
      exact Calls.call_len_list pl.isList (by simp only [List.size_toArray]; omega) ⟨.int xs.length, H, I.tok _, ⟨_, by simp only [List.size_toArray]; rw [hlen]⟩, q⟩
    · subst e'
      obtain ⟨its, r', pl, hz⟩ := I.tuple hx
      have hlen := r'.length
      exact len_tuple pl (by simp only [List.size_toArray]; omega) ⟨.int xs.length, H, I.tok _, ⟨_, by simp only [List.size_toArray]; rw [hlen]⟩, q⟩
  | _ => exact (show False from e).elim
/-- divmod: a new tuple -/
theorem call_divmod : CallR X (.builtin "divmod") (fun xs H Q => ∃ i j, xs = [.int i, .int j] ∧ CDiv i j ∧ ∀ p, H p = none → Q (.ref p) (upd H p (.tup [.int (i / j), .int (i % j)]))) := by
  intro pins s σ H xs us Q I r h
  obtain ⟨i, j, rfl, ⟨h1, h2⟩, q⟩ := h
  obtain ⟨u, w', rfl, ⟨t, rfl⟩, ⟨t', rfl⟩⟩ := vals2 r
  refine divmod_int (by omega) ?_ (.inl (PyProof.noPylong_small (by omega)))
  rw [Int.fdiv_eq_ediv_of_nonneg i (by omega), Int.fmod_eq_emod_of_nonneg i (by omega)]
  have hn : H s.heap.objs.size = none := I.hok.fresh (Nat.le_refl _)
  refine ⟨.ref s.heap.objs.size, _, ?_, rfl, q _ hn⟩
  refine I.laid (fun b o e => Heap.get?_push_of_some _ e) (Nat.le_refl _) ⟨by simp only [List.length_cons, List.length_nil]; rw [sizeLine_eq]; decide, [.int (i / j) s.toks, .int (i % j) (s.toks + 1)], .cons ⟨_, rfl⟩ (.cons ⟨_, rfl⟩ .nil), ?_⟩
  exact ⟨_, Heap.get?_push_size s.heap rfl, rfl, 0, rfl⟩
end
end L2

namespace L2
open PySem PySem.Spec PyProof.Rows

/-! ### an instance, its attributes a map -/
structure ObjM (h : Heap) (x dx C : Addr) (mA : Str → Option Value) : Prop where
  obj : h.get? x = some (PySem.W.instObj C dx)
  ns : h.Ns1 dx mA
  ne : dx ≠ x

theorem lookIn_ns {h : Heap} {dx : Addr} {mA : Str → Option Value} (n : h.Ns1 dx mA) : ∃ od, h.get? dx = some od ∧ ∀ name, PySem.W.lookIn name od = some (mA name) := by
  obtain ⟨o, es, ep, ho, hd, hk, _, hm⟩ := n
  refine ⟨o, ho, fun name => ?_⟩
  have e := hm name
  unfold nsFind findBy at e
  rw [← Array.find?_toList] at e
  unfold PySem.W.lookIn
  rw [hd]
  dsimp only
  split
  · rename_i y q
    rw [q] at e
    exact congrArg some e
  · rename_i q
    rw [q] at e
    have a : es.toList.any (·.refKey) = false := by
      rw [List.any_eq_false]
      intro y hy
      obtain ⟨z, t, hkey⟩ := hk y (Array.mem_toList_iff.mp hy)
      simp [DictEntry.refKey, hkey]
    have a' : ¬ es.toList.any (·.refKey) = true := by rw [a]; exact Bool.false_ne_true
    rw [if_neg a']
    exact congrArg some e

theorem ObjM.look {h : Heap} {x dx C : Addr} {mA : Str → Option Value} (I : ObjM h x dx C mA) : ∃ od, PySem.W.InstAt h x (PySem.W.instObj C dx) C (some od) ∧ ∀ name, PySem.W.lookIn name od = some (mA name) :=
  let ⟨od, ho, hl⟩ := lookIn_ns I.ns
  ⟨od, ⟨I.obj, rfl, rfl, ho⟩, hl⟩

section
variable {prog : Program} {w : World} {A : Around} {E : Value → Shared → Prop} {s : Shared} {K : PySem.W.Frag} {x dx C f : Addr} {mA : Str → Option Value} {name : Str} {v : Value}

theorem get_map {expr : Bool} {Q : Value → Shared → Prop} (X : K.In s.heap) (I : ObjM s.heap x dx C mA) (hg : PySem.W.plainGet K C name = true) (hh : PySem.W.hasDictIn K C = true)
    (ha : PySem.W.findIn K (.ref C) name = some none) (hv : mA name = some v) (hv' : PySem.W.handedIn v = true) (h : Q v { s with toks := s.toks + 1 }) :
    wpAny (model prog w) A (getAttr (.ref x) name expr) Q E s := by
  obtain ⟨od, J, hl⟩ := I.look
  exact PySem.W.get_value X J (PySem.W.plainGet_of hg).1 (PySem.W.findObj_own hh ha rfl (by rw [hl, hv])) hv' h

theorem get_const {expr : Bool} {a : Value} {Q : Value → Shared → Prop} (X : K.In s.heap) (I : ObjM s.heap x dx C mA) (hg : PySem.W.plainGet K C name = true) (hh : PySem.W.hasDictIn K C = true)
    (ha : PySem.W.findIn K (.ref C) name = some (some a)) (hn : PySem.W.specialIn K a "__get__" = some none) (hc : PySem.W.copiedNames.contains name = false) (hv : mA name = none) (hv' : PySem.W.handedIn a = true)
    (h : Q a { s with toks := s.toks + 1 }) : wpAny (model prog w) A (getAttr (.ref x) name expr) Q E s := by
  obtain ⟨od, J, hl⟩ := I.look
  exact PySem.W.get_value X J (PySem.W.plainGet_of hg).1 (PySem.W.findObj_cls hh ha hn hv' hc (by rw [hl, hv])) hv' h

theorem get_meth {pl : Sem Bool} {Q : Value × List Value → Shared → Prop} (X : K.In s.heap) (I : ObjM s.heap x dx C mA) (hg : PySem.W.plainGet K C name = true)
    (hf : PySem.W.findIn K (.ref C) name = some (some (.ref f))) (ht : PySem.W.isFn K (.ref f) = true) (hv : mA name = none) (h : Q (.ref f, [.ref x]) s) :
    wpAny (model prog w) A (getMethod (.ref x) name pl) Q E s := by
  obtain ⟨od, J, hl⟩ := I.look
  exact PySem.W.method_fn X J (PySem.W.plainGet_of hg).1 (PySem.W.plainGet_of hg).2 hf (beq_iff_eq.mp ht) (by show (PySem.W.lookIn name od).map (·.isSome) = some false; rw [hl, hv]; rfl) h

theorem set_map {ns : List Str} {Q : Unit → Shared → Prop} (X : K.In s.heap) (I : ObjM s.heap x dx C mA)
    (hs : PySem.W.findIn K (.ref C) "__setattr__" = some (some (.builtin "object.__setattr__"))) (hp : PySem.W.plainOver K C = true) (ht : PySem.W.takerIn K C name = some none) (hh : PySem.W.hasDictIn K C = true)
    (hw : PySem.Within mA ns) (hsz : ns.length ≤ sizeLine)
    (h : ∀ h', ObjM h' x dx C (fun y => if y = name then some v else mA y) → Heap.SameBut dx s.heap h' → Q () { s with heap := h', toks := s.toks + 2 }) :
    wpAny (model prog w) A (setAttr (.ref x) name v) Q E s := by
  obtain ⟨od, J, hl⟩ := I.look
  refine PySem.W.set_plain X J hs (PySem.W.osa_open (s := { s with toks := s.toks + 1 }) (r := none) X J hp ht fun b => ?_)
  obtain ⟨cd, hc, hd'⟩ := PySem.W.any_some hh
  have hx : s.heap.get? x = some ⟨.ref C, some dx, .plain, #[]⟩ := I.obj
  refine wpAny_bind (wpAny_pure (wpAny_bind (wpAny_bind (wpAny_loadPart hx (wpAny_bind (PySem.W.Looks.here (s := { s with toks := s.toks + 1 }) (PySem.W.looks_clsIn X hc) ?_))))))
  rw [hd']
  refine wpAny_pure (a := some dx) (wpAny_bind (wpAny_pure (wpAny_bind ?_)))
  refine wpAny_nsSet1 (s := { s with toks := s.toks + 1 }) I.ns fun h' hn2 hs2 => ?_
  obtain ⟨oD, esD, epD, hoD, hdD, hcD⟩ := hn2.count (PySem.Within.cons name v hw)
  refine wpAny_bind (wpAny_lookBehind hoD (by rw [hdD]; exact pastItsLine_dict (Nat.le_trans hcD (by rw [List.length_cons]; omega))) ?_)
  exact wpAny_pure (h _ ⟨(hs2.2 _ (Ne.symm I.ne)).trans I.obj, hn2, I.ne⟩ hs2)

/-- C(..): the dict at the heap's end, the instance behind it; then its __init__ -/
theorem make_map {R : Result → Shared → Prop} {vs : List Value} {kw : List (Str × Value)} (X : K.In s.heap) (hm : PySem.W.makesIn K C = true)
    (hi : PySem.W.findIn K (.ref C) "__init__" = some (some (.ref f))) (hf : PySem.W.typeIn K (.ref f) = some (.type "function"))
    (h : codeAny (model prog w) (A.under (.builtin "type.__call__" ⟨.ref C :: vs, kw⟩)) (.call (.ref f) ⟨.ref (s.heap.objs.size + 1) :: vs, kw⟩) (PySem.W.InitBack (s.heap.objs.size + 1) R)
      { s with heap := (s.heap.push PySem.W.emptyDict).push (PySem.W.instObj C s.heap.objs.size) }) :
    codeAny (model prog w) A (.call (.ref C) ⟨vs, kw⟩) R s := by
  obtain ⟨hh, g, d, t, os⟩ := s
  exact PySem.W.make_core (PySem.W.makes_of X hm) (PySem.W.looks_findIn X hi) (fun self => PySem.W.bind_fn X self hf) (.inl rfl) h
/-- C() where there is no __init__ but object's -/
theorem make_map0 {R : Result → Shared → Prop} (X : K.In s.heap) (hm : PySem.W.makesIn K C = true)
    (hi : PySem.W.findIn K (.ref C) "__init__" = some (some (.builtin "object.__init__")))
    (hb : ∀ self, PySem.W.Looks (model prog w) s.heap (bindSpecial (.builtin "object.__init__") self) (.builtin "object.__init__", [self]))
    (h : codeAny (model prog w) (A.under (.builtin "type.__call__" ⟨[.ref C], []⟩)) (.call (.builtin "object.__init__") ⟨[.ref (s.heap.objs.size + 1)], []⟩) (PySem.W.InitBack (s.heap.objs.size + 1) R)
      { s with heap := (s.heap.push PySem.W.emptyDict).push (PySem.W.instObj C s.heap.objs.size) }) :
    codeAny (model prog w) A (.call (.ref C) ⟨[], []⟩) R s := by
  obtain ⟨hh, g, d, t, os⟩ := s
  exact PySem.W.make_core (PySem.W.makes_of X hm) (PySem.W.looks_findIn X hi) hb (.inr ⟨rfl, rfl⟩) h
end

/-! ### the attributes as a list of pairs -/
def putF (f : Str) (v : V) : List (Str × V) → List (Str × V)
  | [] => [(f, v)]
  | (g, x) :: r => if g = f then (g, v) :: r else (g, x) :: putF f v r
theorem lookup_putF (f g : Str) (v : V) : ∀ fs : List (Str × V), (putF f v fs).lookup g = if g = f then some v else fs.lookup g
  | [] => by
    show List.lookup g [(f, v)] = _
    by_cases h : g = f
    · have hb : (g == f) = true := beq_iff_eq.mpr h
      simp only [List.lookup, hb, if_pos h]
    · have hb : (g == f) = false := beq_eq_false_iff_ne.mpr h
      simp only [List.lookup, hb, if_neg h]
  | (k, x) :: r => by
    have ih := lookup_putF f g v r
    rw [show putF f v ((k, x) :: r) = (if k = f then (k, v) :: r else (k, x) :: putF f v r) from rfl]
    by_cases hk : k = f
    · rw [if_pos hk]
      by_cases h : g = k
      · have hb : (g == k) = true := beq_iff_eq.mpr h
        simp only [List.lookup, hb, if_pos (h.trans hk)]
      · have hb : (g == k) = false := beq_eq_false_iff_ne.mpr h
        simp only [List.lookup, hb, if_neg (fun e : g = f => h (e.trans hk.symm))]
    · rw [if_neg hk]
      by_cases h : g = k
      · have hb : (g == k) = true := beq_iff_eq.mpr h
        simp only [List.lookup, hb, if_neg (fun e : g = f => hk (h.symm.trans e))]
      · have hb : (g == k) = false := beq_eq_false_iff_ne.mpr h
        simp only [List.lookup, hb]
        exact ih
theorem keys_putF (f : Str) (v : V) : ∀ fs : List (Str × V), f ∈ (putF f v fs).map (·.1) ∧ ∀ g, g ∈ fs.map (·.1) → g ∈ (putF f v fs).map (·.1)
  | [] => ⟨by simp [putF], fun g h => by simp at h⟩
  | (k, x) :: r => by
    obtain ⟨i1, i2⟩ := keys_putF f v r
    rw [show putF f v ((k, x) :: r) = (if k = f then (k, v) :: r else (k, x) :: putF f v r) from rfl]
    by_cases hk : k = f
    · rw [if_pos hk]
      subst hk
      exact ⟨by simp, fun g h => by simpa using h⟩
    · rw [if_neg hk]
      refine ⟨?_, fun g h => ?_⟩
      · rw [List.map_cons]
        exact List.mem_cons_of_mem _ i1
      · rw [List.map_cons] at h ⊢
        rcases List.mem_cons.mp h with e | e
        · exact List.mem_cons.mpr (.inl e)
        · exact List.mem_cons_of_mem _ (i2 g e)
theorem length_putF (f : Str) (v : V) : ∀ fs : List (Str × V), (putF f v fs).length ≤ fs.length + 1
  | [] => by simp [putF]
  | (k, x) :: r => by
    have ih := length_putF f v r
    rw [show putF f v ((k, x) :: r) = (if k = f then (k, v) :: r else (k, x) :: putF f v r) from rfl]
    by_cases hk : k = f
    · rw [if_pos hk, List.length_cons, List.length_cons]; omega
    · rw [if_neg hk, List.length_cons, List.length_cons]; omega

theorem RelO.some_of {v : V} {o : Option Value} (r : RelO (some v) o) : ∃ u, o = some u ∧ RelV v u := by
  cases o with
  | none => exact (show False from r).elim
  | some u => exact ⟨u, rfl, r⟩
theorem RelO.none_of {o : Option Value} (r : RelO none o) : o = none := by
  cases o with
  | none => rfl
  | some u => exact (show False from r).elim
theorem handed_of {v : V} {u : Value} (r : RelV v u) : PySem.W.handedIn u = true := by
  cases v with
  | non => cases (show u = Value.none from r); rfl
  | bl b => cases (show u = Value.bool b from r); rfl
  | int i => obtain ⟨t, e⟩ := (show ∃ t, u = Value.int i t from r); cases e; rfl
  | str x => obtain ⟨t, e⟩ := (show ∃ t, u = Value.str x t from r); cases e; rfl
  | byt b => obtain ⟨t, e⟩ := (show ∃ t, u = Value.bytes b t from r); cases e; rfl
  | flt b => obtain ⟨t, e⟩ := (show ∃ t, u = Value.float b t from r); cases e; rfl
  | ref a => cases (show u = Value.ref a from r); rfl
  | ty n => cases (show u = Value.type n from r); rfl

section
variable {P : Program} {w : World} {H H' : Hp} {h h' : Heap} {a C dx : Addr} {fs fs' : List (Str × V)}
theorem ins_get (hok : HOk P w H h) (e : H a = some (.ins C dx fs)) : ∃ mA, ObjM h a dx C mA ∧ (∀ f, RelO (fs.lookup f) (mA f)) ∧ PySem.Within mA (fs.map (·.1)) ∧ fs.length ≤ 1000 ∧ H dx = some (.own a) := by
  obtain ⟨d, z, ne, ob, mA, n, r, q⟩ := (show ObjOk P w H h a (.ins C dx fs) from hok a _ e)
  exact ⟨mA, ⟨ob, n, ne⟩, r, q, z, d⟩
end

/-! ### what of the text a class must have -/
structure Cls (K : PySem.W.Frag) (C : Addr) : Prop where
  pg : PySem.W.plainGet K C Str.empty = true
  hd : PySem.W.hasDictIn K C = true
  po : PySem.W.plainOver K C = true
  sa : PySem.W.findIn K (.ref C) "__setattr__" = some (some (.builtin "object.__setattr__"))
theorem Cls.get {K : PySem.W.Frag} {C : Addr} (c : Cls K C) (f : Str) : PySem.W.plainGet K C f = true := c.pg
/-- no class of it has the name -/
def NoAttr (K : PySem.W.Frag) (C : Addr) (f : Str) : Prop := PySem.W.findIn K (.ref C) f = some none
theorem NoAttr.taker {K : PySem.W.Frag} {C : Addr} {f : Str} (n : NoAttr K C f) : PySem.W.takerIn K C f = some none := by
  unfold PySem.W.takerIn
  rw [show PySem.W.findIn K (.ref C) f = some none from n]
  rfl
/-- a constant of the class -/
structure Con (K : PySem.W.Frag) (C : Addr) (f : Str) (v : V) (u : Value) : Prop where
  at_ : PySem.W.findIn K (.ref C) f = some (some u)
  rel : RelV v u
  get : PySem.W.specialIn K u "__get__" = some none
  cp : PySem.W.copiedNames.contains f = false
/-- a method: a plain def of the class or of one above it -/
structure Meth (K : PySem.W.Frag) (C : Addr) (m : Str) (f : Addr) : Prop where
  at_ : PySem.W.findIn K (.ref C) m = some (some (.ref f))
  fn : PySem.W.isFn K (.ref f) = true
  kp : PySem.W.keepIn K (.ref f) = true

section
variable {X : Cx} {pins : List (Addr × Obj)} {σ : St} {H : Hp} {s : Shared} {a C dx : Addr} {fs : List (Str × V)} {f : Str} {v : V} {A : Around} {E : Value → Shared → Prop}

theorem getattr_ok {b : Bool} {Q : Value → Shared → Prop} (I : Inv X pins σ H s) (e : H a = some (.ins C dx fs)) (c : Cls X.K C) (n : NoAttr X.K C f) (l : fs.lookup f = some v)
    (h : ∀ u s', Inv X pins σ H s' → RelV v u → Q u s') : wpAny (model X.prog X.w) A (getAttr (.ref a) f b) Q E s := by
  obtain ⟨mA, O, r, _, _, _⟩ := ins_get I.hok e
  obtain ⟨u, hu, ru⟩ := RelO.some_of (v := v) (o := mA f) (by rw [← l]; exact r f)
  exact get_map I.kIn O (c.get f) c.hd n hu (handed_of ru) (h u _ (I.tok _) ru)

theorem getcon_ok {b : Bool} {u : Value} {Q : Value → Shared → Prop} (I : Inv X pins σ H s) (e : H a = some (.ins C dx fs)) (c : Cls X.K C) (k : Con X.K C f v u) (l : fs.lookup f = none)
    (h : ∀ s', Inv X pins σ H s' → Q u s') : wpAny (model X.prog X.w) A (getAttr (.ref a) f b) Q E s := by
  obtain ⟨mA, O, r, _, _, _⟩ := ins_get I.hok e
  have hn : mA f = none := RelO.none_of (by rw [← l]; exact r f)
  exact get_const I.kIn O (c.get f) c.hd k.at_ k.get k.cp hn (handed_of k.rel) (h _ (I.tok _))

theorem getmeth_ok {m : Str} {g : Addr} {pl : Sem Bool} {Q : Value × List Value → Shared → Prop} (I : Inv X pins σ H s) (e : H a = some (.ins C dx fs)) (c : Cls X.K C) (k : Meth X.K C m g) (l : fs.lookup m = none)
    (h : Q (.ref g, [.ref a]) s) : wpAny (model X.prog X.w) A (getMethod (.ref a) m pl) Q E s := by
  obtain ⟨mA, O, r, _, _, _⟩ := ins_get I.hok e
  have hn : mA m = none := RelO.none_of (by rw [← l]; exact r m)
  exact get_meth I.kIn O (c.get m) k.at_ k.fn hn h

theorem setattr_ok {y : V} {u : Value} {Q : Unit → Shared → Prop} (I : Inv X pins σ H s) (e : H a = some (.ins C dx fs)) (c : Cls X.K C) (n : NoAttr X.K C f) (hl : fs.length < 1000) (ry : RelV y u)
    (h : ∀ s', Inv X pins σ (upd H a (.ins C dx (putF f y fs))) s' → Q () s') : wpAny (model X.prog X.w) A (setAttr (.ref a) f u) Q E s := by
  obtain ⟨mA, O, r, wi, _, ho⟩ := ins_get I.hok e
  have hz : (fs.map (·.1)).length ≤ sizeLine := by rw [List.length_map, sizeLine_eq]; omega
  refine set_map I.kIn O c.sa c.po n.taker c.hd wi hz fun h' O' sb => h _ ?_
  have hd : ∃ o, h'.get? dx = some o := let ⟨o, _, _, e', _⟩ := O'.ns; ⟨o, e'⟩
  refine I.write (x := a) (e := dx) (by rw [e]; exact True.intro) (.inr ho) (fun b q hb z => (sb.2 b hb).trans z) hd ?_
  refine ⟨by rw [upd_ne O.ne]; exact ho, ?_, O.ne, O'.obj, _, O'.ns, fun g => ?_, fun g hg => ?_⟩
  · have := length_putF f y fs; omega
  · show RelO ((putF f y fs).lookup g) (if g = f then some u else mA g)
    rw [lookup_putF]
    by_cases q : g = f
    · rw [if_pos q, if_pos q]; exact ry
    · rw [if_neg q, if_neg q]; exact r g
  · by_cases q : g = f
    · rw [q]; exact (keys_putF f y fs).1
    · refine (keys_putF f y fs).2 g (wi g fun z => hg ?_)
      show (if g = f then some u else mA g) = none
      rw [if_neg q]; exact z

/-- a new instance, tracked, without attributes -/
theorem Inv.made (I : Inv X pins σ H s) : Inv X pins σ (upd (upd H s.heap.objs.size (.own (s.heap.objs.size + 1))) (s.heap.objs.size + 1) (.ins C s.heap.objs.size []))
    { s with heap := (s.heap.push PySem.W.emptyDict).push (PySem.W.instObj C s.heap.objs.size) } := by
  have e1 : (s.heap.push PySem.W.emptyDict).get? s.heap.objs.size = some PySem.W.emptyDict := Heap.get?_push_size s.heap rfl
  have e2 : ((s.heap.push PySem.W.emptyDict).push (PySem.W.instObj C s.heap.objs.size)).get? (s.heap.objs.size + 1) = some (PySem.W.instObj C s.heap.objs.size) := by
    have := Heap.get?_push_size (s.heap.push PySem.W.emptyDict) (o := PySem.W.instObj C s.heap.objs.size) rfl
    rwa [Heap.size_push] at this
  have e3 : (s.heap.push PySem.W.emptyDict).Ns s.heap.objs.size (fun _ => none) := ⟨PySem.W.emptyDict, #[], _, e1, rfl, (fun e he => absurd he (by simp)), fun _ => rfl⟩
  have I1 := I.laid (a := s.heap.objs.size) (o := .own (s.heap.objs.size + 1)) (h' := s.heap.push PySem.W.emptyDict) (t' := s.toks) (fun b u q => Heap.get?_push_of_some _ q) (Nat.le_refl _) ⟨_, e1⟩
  refine I1.laid (a := s.heap.objs.size + 1) (o := .ins C s.heap.objs.size []) (t' := s.toks) (fun b u q => Heap.get?_push_of_some _ q) (Nat.le_of_eq (Heap.size_push _ _)) ?_
  have ne : s.heap.objs.size ≠ s.heap.objs.size + 1 := Nat.ne_of_lt (Nat.lt_succ_self _)
  refine ⟨by rw [upd_ne ne, upd_same], Nat.zero_le _, ne, e2, fun _ => none, (Heap.Ns1.of_empty e3).at fun o q => Heap.get?_push_of_some _ q, fun _ => True.intro, fun y hy => absurd rfl hy⟩

/-- e.f where nothing but the object is asked: through attributeBase (super) and the last hold -/
theorem attr_of {prog : Program} {w : World} {env : Env} {e : Expr} {f : Str} {pos : Pos} {s : Shared} {Q : Value → Shared → Prop} (hb : attributeBase e f env (eval e env) = eval e env)
    (h : wpAny (model prog w) A (eval e env) (fun o s₁ => wpAny (model prog w) A (getAttr o f true) Q E s₁) E s) : wpAny (model prog w) A (eval (.Attribute e f pos) env) Q E s :=
  Attribute_any_ h (by rw [arm_eval_Attribute, hb])
end

/-! ### readings and rules -/
/-- e.f, an attribute of the instance -/
def tFld (K : PySem.W.Frag) (ta : TE) (f : Str) : TE := fun σ H Q => ta σ H fun x H1 => ∃ a C dx fs v, x = .ref a ∧ H1 a = some (.ins C dx fs) ∧ Cls K C ∧ NoAttr K C f ∧ fs.lookup f = some v ∧ Q v H1
/-- e.f, a constant of the class -/
def tCon (K : PySem.W.Frag) (ta : TE) (f : Str) : TE := fun σ H Q => ta σ H fun x H1 => ∃ a C dx fs v u, x = .ref a ∧ H1 a = some (.ins C dx fs) ∧ Cls K C ∧ Con K C f v u ∧ fs.lookup f = none ∧ Q v H1
/-- e.f = value -/
def sFld (K : PySem.W.Frag) (ta tv : TE) (f : Str) : TS := fun D σ H => tv σ H fun y H1 => ta σ H1 fun x H2 => ∃ a C dx fs, x = .ref a ∧ H2 a = some (.ins C dx fs) ∧ Cls K C ∧ NoAttr K C f ∧ fs.length < 1000 ∧
  D.nx σ (upd H2 a (.ins C dx (putF f y fs)))
/-- an augmented operator on two values -/
def InOp (X : Cx) (op : Operator) (rd : V → V → Hp → VK → Prop) : Prop :=
  ∀ (pins : List (Addr × Obj)) (s : Shared) (σ : St) (H : Hp) (x y : V) (u v : Value) (Q : VK), Inv X pins σ H s → RelV x u → RelV y v → rd x y H Q → wpAny (model X.prog X.w) X.A (inplaceOp op u v) (EP X pins σ Q) X.xe s
/-- e.f op= value -/
def sFldAug (K : PySem.W.Frag) (ta tv : TE) (rd : V → V → Hp → VK → Prop) (f : Str) : TS := fun D σ H => ta σ H fun x H1 => ∃ a C dx fs v, x = .ref a ∧ H1 a = some (.ins C dx fs) ∧ Cls K C ∧ NoAttr K C f ∧ fs.lookup f = some v ∧
  tv σ H1 fun y H2 => rd v y H2 fun z H3 => ∃ dx' fs', H3 a = some (.ins C dx' fs') ∧ fs'.length < 1000 ∧ D.nx σ (upd H3 a (.ins C dx' (putF f z fs')))

section
variable {X : Cx} {o e value : Expr} {f : Str} {pos pos' tpos : Pos} {ta tv : TE}
theorem pe_fld (he : PE X e ta) (hb : attributeBase e f X.env (eval e X.env) = eval e X.env) : PE X (.Attribute e f pos) (tFld X.K ta f) := by
  intro pins s σ H Q I h
  refine attr_of hb (thn (he pins s σ H _ I h) fun u s1 ⟨x, H1, I1, rx, a, C, dx, fs, v, ex, ea, c, n, l, q⟩ => ?_)
  subst ex
  obtain rfl : u = Value.ref a := rx
  exact getattr_ok I1 ea c n l fun u' s2 I2 ru => ⟨v, H1, I2, ru, q⟩
theorem pe_con (he : PE X e ta) (hb : attributeBase e f X.env (eval e X.env) = eval e X.env) : PE X (.Attribute e f pos) (tCon X.K ta f) := by
  intro pins s σ H Q I h
  refine attr_of hb (thn (he pins s σ H _ I h) fun u s1 ⟨x, H1, I1, rx, a, C, dx, fs, v, u0, ex, ea, c, k, l, q⟩ => ?_)
  subst ex
  obtain rfl : u = Value.ref a := rx
  exact getcon_ok I1 ea c k l fun s2 I2 => ⟨v, H1, I2, k.rel, q⟩
theorem ps_fld (ha : PE X o ta) (hv : PE X value tv) (hs : swapsWith value (some (.Attribute o f pos')) pos.line X.env = pure false) : PS X (.Assign [.Attribute o f pos'] value pos) (sFld X.K ta tv f) := by
  intro pins s σ H D I h
  refine plainObj_wpAny_Assign_Attribute (thn (hv pins s σ H _ I h) fun u s1 ⟨y, H1, I1, ry, q⟩ => thn (ha pins s1 σ H1 _ I1 q) fun ov s2 ⟨x, H2, I2, rx, a, C, dx, fs, ex, ea, c, n, l, q2⟩ => ?_) hs
  subst ex
  obtain rfl : ov = Value.ref a := rx
  exact setattr_ok I2 ea c n l ry fun s3 I3 => ⟨σ, _, I3, q2⟩
theorem ps_fldaug {op : Operator} {rd : V → V → Hp → VK → Prop} (ha : PE X o ta) (hv : PE X value tv) (hop : InOp X op rd) : PS X (.AugAssign (.Attribute o f tpos) op value pos) (sFldAug X.K ta tv rd f) := by
  intro pins s σ H D I h
  refine wpAny_AugAssign_AttributeAny (thn (ha pins s σ H _ I h) fun ov s1 ⟨x, H1, I1, rx, a, C, dx, fs, v, ex, ea, c, n, l, q⟩ => ?_)
  subst ex
  obtain rfl : ov = Value.ref a := rx
  refine getattr_ok I1 ea c n l fun u s2 I2 ru => thn (hv pins s2 σ H1 _ I2 q) fun w3 s3 ⟨y, H2, I3, ry, q3⟩ => thn (hop pins s3 σ H2 v y u w3 _ I3 ru ry q3) fun w4 s4 ⟨z, H3, I4, rz, dx', fs', ea', l', q4⟩ => ?_
  exact setattr_ok I4 ea' c n l' rz fun s5 I5 => ⟨σ, _, I5, q4⟩
def rAdd : V → V → Hp → VK → Prop := fun x y H Q => ∃ i j, x = .int i ∧ y = .int j ∧ Q (.int (i + j)) H
def rSub : V → V → Hp → VK → Prop := fun x y H Q => ∃ i j, x = .int i ∧ y = .int j ∧ Q (.int (i - j)) H
theorem in_add : InOp X .Add rAdd := by
  rintro pins s σ H x y u v Q I rx ry ⟨i, j, rfl, rfl, q⟩
  obtain ⟨t, rfl⟩ := (show ∃ t, u = Value.int i t from rx)
  obtain ⟨t', rfl⟩ := (show ∃ t', v = Value.int j t' from ry)
  exact PyProof.Rows.iadd_int ⟨.int (i + j), H, I.tok _, ⟨_, rfl⟩, q⟩
theorem in_sub : InOp X .Sub rSub := by
  rintro pins s σ H x y u v Q I rx ry ⟨i, j, rfl, rfl, q⟩
  obtain ⟨t, rfl⟩ := (show ∃ t, u = Value.int i t from rx)
  obtain ⟨t', rfl⟩ := (show ∃ t', v = Value.int j t' from ry)
  exact PyProof.Rows.isub_int ⟨.int (i - j), H, I.tok _, ⟨_, rfl⟩, q⟩

/-- what is between an instance and its method: the tree of a method call -/
theorem methcall_of {pl : Sem Bool} {m : Str} {apos : Pos} {args : List Expr} {pins : List (Addr × Obj)} {s : Shared} {σ : St} {H : Hp} {Q : Value → Shared → Prop} {te : TE} (he : PE X e te) (I : Inv X pins σ H s)
    (h : te σ H fun x H1 => ∃ a C dx fs g, x = .ref a ∧ H1 a = some (.ins C dx fs) ∧ Cls X.K C ∧ Meth X.K C m g ∧ fs.lookup m = none ∧
      ∀ s1, Inv X pins σ H1 s1 → wpAny (model X.prog X.w) X.A (callWith pos (.ref g) [.ref a] (backTo pos (starEach args X.env)) (backToKw pos (keywordEach [] X.env))) Q X.xe s1)
    (ht : eval (.Call (.Attribute e m apos) args [] pos) X.env = (do
      let ov ← eval e X.env
      standAt apos.atName
      let (f, first) ← holding [ov] (getMethod ov m pl)
      callWith pos f first (backTo pos (starEach args X.env)) (backToKw pos (keywordEach [] X.env)))) :
    wpAny (model X.prog X.w) X.A (eval (.Call (.Attribute e m apos) args [] pos) X.env) Q X.xe s := by
  refine PySem.W.methodCall_KW (pl := pl) (thn (he pins s σ H _ I h) fun u s1 ⟨x, H1, I1, rx, a, C, dx, fs, g, ex, ea, c, k, l, q⟩ => ?_) ht
  subst ex
  obtain rfl : u = Value.ref a := rx
  exact getmeth_ok I1 ea c k l (q s1 I1)
end

/-! ### isinstance -/
section
variable {X : Cx} {pins : List (Addr × Obj)} {σ : St} {H : Hp} {s : Shared} {A : Around} {E : Value → Shared → Prop} {Q : Value → Shared → Prop} {c : Value} {b : Bool}
/-- the type of a value, as the fragment's deciders take it; for an instance its class -/
inductive TyOf (K : PySem.W.Frag) (H : Hp) : V → Value → Prop where
  | non : TyOf K H .non (.type "NoneType")
  | bl (x : Bool) : TyOf K H (.bl x) (.type "bool")
  | int (i : Int) : TyOf K H (.int i) (.type "int")
  | str (x : Str) : TyOf K H (.str x) (.type "str")
  | flt (x : UInt64) : TyOf K H (.flt x) (.type "float")
  | lst {a : Addr} {xs : List V} (e : H a = some (.lst xs)) : TyOf K H (.ref a) (.type "list")
  | frz {a : Addr} {o : Obj} {xs : List V} (e : H a = some (.frz o (.lst xs))) : TyOf K H (.ref a) (.type "list")
  | tup {a : Addr} {xs : List V} (e : H a = some (.tup xs)) : TyOf K H (.ref a) (.type "tuple")
  | dK {a : Addr} {kvs : List (Key × V)} (e : H a = some (.dK kvs)) : TyOf K H (.ref a) (.type "dict")
  | dT {a : Addr} {kvs : List (List Key × V)} (e : H a = some (.dT kvs)) : TyOf K H (.ref a) (.type "dict")
  | ins {a C dx : Addr} {fs : List (Str × V)} (e : H a = some (.ins C dx fs)) (cl : Cls K C) (ha : PySem.W.findIn K (.ref C) "__class__" = some (some (.builtin "object.__class__")))
      (hn : PySem.W.specialIn K (.builtin "object.__class__") "__get__" = some (some (.builtin "getset_descriptor.__get__"))) (htk : PySem.W.takesIn K (.builtin "object.__class__") = some true)
      (hm : PySem.W.mroIn K C (.type "object") = some true) : TyOf K H (.ref a) (.ref C)
/-- isinstance(x, c) for one class c, a built-in or an own one: kitOne's answer -/
theorem isinst_ok {x : V} {u t : Value} (I : Inv X pins σ H s) (rx : RelV x u) (ty : TyOf X.K H x t) (e : PySem.W.kitOne X.K t c = some b) (h : ∀ tk, Q (.bool b) { s with toks := tk }) :
    wpAny (model X.prog X.w) A (call (.builtin "isinstance") [u, c]) Q E s := by
  cases ty with
  | non => cases (show u = Value.none from rx); exact PySem.W.kia_one PySem.W.kitx_none I.kIn True.intro e (fun z => nomatch z) h
  | bl y => cases (show u = Value.bool y from rx); exact PySem.W.kia_one PySem.W.kitx_bool I.kIn True.intro e (fun z => nomatch z) h
  | int i => obtain ⟨t, q⟩ := (show ∃ t, u = Value.int i t from rx); cases q; exact PySem.W.kia_one PySem.W.kitx_int I.kIn True.intro e (fun z => nomatch z) h
  | str y => obtain ⟨t, q⟩ := (show ∃ t, u = Value.str y t from rx); cases q; exact PySem.W.kia_one PySem.W.kitx_str I.kIn True.intro e (fun z => nomatch z) h
  | flt y => obtain ⟨t, q⟩ := (show ∃ t, u = Value.float y t from rx); cases q; exact PySem.W.kia_one PySem.W.kitx_float I.kIn True.intro e (fun z => nomatch z) h
  | @lst a xs ea =>
    cases (show u = Value.ref a from rx)
    obtain ⟨_, _, n, _, h1⟩ := (show ObjOk X.prog X.w H s.heap a (.lst xs) from I.hok a _ ea)
    exact PySem.W.kia_one PySem.W.kitx_list I.kIn ⟨_, h1, rfl⟩ e (fun z => nomatch z) h
  | @frz a ob xs ea =>
    cases (show u = Value.ref a from rx)
    obtain ⟨_, _, _, n, _, h1⟩ := (show ObjOk X.prog X.w H s.heap a (.frz ob (.lst xs)) from I.hok a _ ea)
    exact PySem.W.kia_one PySem.W.kitx_list I.kIn ⟨_, h1, rfl⟩ e (fun z => nomatch z) h
  | @tup a xs ea =>
    cases (show u = Value.ref a from rx)
    obtain ⟨_, _, _, p⟩ := (show ObjOk X.prog X.w H s.heap a (.tup xs) from I.hok a _ ea)
    obtain ⟨o, h1, h2, _⟩ := p
    exact PySem.W.kia_one PySem.W.kitx_tuple I.kIn ⟨o, h1, h2⟩ e (fun z => nomatch z) h
  | @dK a kvs ea =>
    cases (show u = Value.ref a from rx)
    obtain ⟨_, _, vs, _, p⟩ := (show ObjOk X.prog X.w H s.heap a (.dK kvs) from I.hok a _ ea)
    obtain ⟨o, es, ep, h1, h2, _⟩ := p
    exact PySem.W.kia_one PySem.W.kitx_dict I.kIn ⟨o, h1, h2.1⟩ e (fun z => nomatch z) h
  | @dT a kvs ea =>
    cases (show u = Value.ref a from rx)
    obtain ⟨_, _, xs, _, o, es, ep, h1, h2, _⟩ := (show ObjOk X.prog X.w H s.heap a (.dT kvs) from I.hok a _ ea)
    exact PySem.W.kia_one PySem.W.kitx_dict I.kIn ⟨o, h1, h2.1⟩ e (fun z => nomatch z) h
  | @ins a C dx fs ea cl ha hn htk hm =>
    cases (show u = Value.ref a from rx)
    obtain ⟨mA, O, _⟩ := ins_get I.hok ea
    obtain ⟨od, J, _⟩ := O.look
    exact PySem.W.kia_one (PySem.W.kitx_own (cl.get _) cl.hd ha hn htk hm) I.kIn J e (fun z => nomatch z) h
end
end L2

namespace L2
open PySem PySem.Spec PyProof.Rows

/-! ### room -/
structure Room (k : Nat) (A : Around) : Prop where
  hd : A.handled = none
  dp : A.depth + 3 * k + 5 < recursionLimit
  un : A.units + 16 * k + 200 < cLine
theorem Room.mono {j k : Nat} {A : Around} (r : Room k A) (h : j ≤ k) : Room j A := ⟨r.hd, by have := r.dp; omega, by have := r.un; omega⟩
theorem Room.deeper {k : Nat} {A : Around} (r : Room (k + 1) A) (env : Env) : Room k (A.deeper env) :=
  ⟨r.hd, by have := r.dp; show A.depth + 1 + 3 * k + 5 < _; omega, by have := r.un; show A.units + 3 + 16 * k + 200 < _; omega⟩
theorem Room.in1 {k : Nat} {A : Around} (r : Room (k + 1) A) : Room k A.in1 :=
  ⟨r.hd, by have := r.dp; show A.depth + 3 * k + 5 < _; omega, by have := r.un; show A.units + 1 + 16 * k + 200 < _; omega⟩
theorem make_depth {A : Around} {C : Addr} {us : List Value} {kw : List (Str × Value)} : (A.under (.builtin "type.__call__" ⟨.ref C :: us, kw⟩)).depth = A.depth + 1 := by
  first | rfl | simp [Around.under, Code.weight, Code.isCreation, Code.isGuard, Code.isCaller, Code.frames, Code.isFrame, guardIds]
theorem make_units {A : Around} {C : Addr} {us : List Value} {kw : List (Str × Value)} : (A.under (.builtin "type.__call__" ⟨.ref C :: us, kw⟩)).units = A.units + 1 := by
  first | rfl | simp [Around.under, Code.cUnits, Code.frames, Code.isFrame]
theorem Room.make {k : Nat} {A : Around} (r : Room (k + 1) A) (C : Addr) (us : List Value) (kw : List (Str × Value)) : Room k (A.under (.builtin "type.__call__" ⟨.ref C :: us, kw⟩)) :=
  ⟨r.hd, by have := r.dp; rw [make_depth]; omega, by have := r.un; rw [make_units]; omega⟩
theorem Room.depth {k : Nat} {A : Around} (r : Room k A) : A.depth < recursionLimit := by have := r.dp; omega
theorem Room.units {k : Nat} {A : Around} (r : Room k A) : A.units + 64 < cLine := by have := r.un; omega
theorem Room.units0 {k : Nat} {A : Around} (r : Room k A) : A.units < cLine := by have := r.un; omega

/-! ### argument lists and displays -/
def tNil : TA := fun _ H Q => Q [] H
def tCons (ta : TE) (tr : TA) : TA := fun σ H Q => ta σ H fun x H1 => tr σ H1 fun xs H2 => Q (x :: xs) H2
section
variable {X : Cx} {e : Expr} {es : List Expr} {te : TE} {t : TA} {pos : Pos}
theorem pa_nil : PA X [] tNil := fun _ _ _ _ H Q I h => Calls.spliced_nil ⟨[], H, I, .nil, h⟩
theorem pa_cons (ha : PE X e te) (hr : PA X es t) (hs : starEach (e :: es) X.env = (false, eval e X.env) :: starEach es X.env := by rfl) : PA X (e :: es) (tCons te t) := by
  intro pos pins s σ H Q I h
  rw [hs]
  show wpAny _ _ (spliced ((false, eval e X.env) :: backTo pos (starEach es X.env))) _ _ s
  refine Calls.spliced_cons (thn (ha pins s σ H _ I h) fun u s1 ⟨x, H1, I1, r1, q1⟩ => ?_)
  exact thn (hr pos pins s1 σ H1 _ I1 q1) fun us s2 ⟨xs, H2, I2, r2, q2⟩ => ⟨x :: xs, H2, I2, .cons r1 r2, q2⟩

/-- a tuple, a list of written items -/
def tTup (t : TA) : TE := fun σ H Q => t σ H fun xs H1 => xs.length ≤ sizeLine ∧ ∀ p, H1 p = none → Q (.ref p) (upd H1 p (.tup xs))
def tLst (t : TA) : TE := fun σ H Q => t σ H fun xs H1 => xs.length ≤ sizeLine ∧ ∀ p, H1 p = none → Q (.ref p) (upd H1 p (.lst xs))
theorem pe_tup {x1} (h : PA X es t) : PE X (.Tuple es x1 pos) (tTup t) := by
  intro pins s σ H Q I hq
  refine wpAny_Tuple_spliced (thn (h pos pins s σ H _ I hq) fun us s1 ⟨xs, H1, I1, r, z, q⟩ => ⟨by rw [← r.length]; exact z, ?_⟩)
  have hf : H1 s1.heap.objs.size = none := I1.hok.fresh (Nat.le_refl _)
  refine ⟨.ref s1.heap.objs.size, upd H1 s1.heap.objs.size (.tup xs), I1.laid (t' := s1.toks) (fun b u e => Heap.get?_push_of_some _ e) (Nat.le_refl _) ?_, rfl, q _ hf⟩
  exact ⟨z, us, r, ⟨_, Heap.get?_push_size _ rfl, rfl, _, rfl⟩⟩
theorem pe_lst (h : PA X es t) : PE X (.List es pos) (tLst t) := by
  intro pins s σ H Q I hq
  refine wpAny_List_spliced (thn (h pos pins s σ H _ I hq) fun us s1 ⟨xs, H1, I1, r, z, q⟩ => ⟨by rw [← r.length]; exact z, ?_⟩)
  have hf : H1 s1.heap.objs.size = none := I1.hok.fresh (Nat.le_refl _)
  refine ⟨.ref s1.heap.objs.size, upd H1 s1.heap.objs.size (.lst xs), I1.laid (t' := s1.toks) (fun b u e => Heap.get?_push_of_some _ e) (Nat.le_refl _) ?_, rfl, q _ hf⟩
  exact ⟨z, us, 0, r, Heap.get?_push_size _ rfl⟩
end

/-! ### what a def promises -/
/-- a def's promise: the bound arguments in the parameters' order, the heap, the wanted end, the wanted exception -/
abbrev Sp := List V → Hp → VK → XK → Prop
/-- how an exception lies behind a call (file 08 gives it): the callers' frames, abstract heap and state ahead of the call, the wish, the exception, the state -/
abbrev CXT := List Env → Hp → Shared → XK → Value → Shared → Prop

/-- the state at a call -/
structure Env0 (P : Program) (w : World) (K : PySem.W.Frag) (mg : Str → Option Value) (base : Heap) (A : Around) (outer : List Env) (s : Shared) (H : Hp) : Prop where
  frames : A.frames = some outer
  mod : Mod K mg base
  bs : ∀ b o, base.get? b = some o → s.heap.get? b = some o ∧ H b = none
  bsz : base.objs.size ≤ s.heap.objs.size
  funs : s.heap.FunFrames base outer
  frf : ∀ b ∈ frs outer, H b = none
  hok : HOk P w H s.heap
  bare : AllBare s.gens
/-- a call's end -/
def CE (outer : List Env) (P : Program) (w : World) (H : Hp) (s : Shared) (Q : VK) (u : Value) (s' : Shared) : Prop :=
  ∃ v H', s'.os = s.os ∧ AllBare s'.gens ∧ Un (frs outer) [] H H' s.heap s'.heap ∧ HOk P w H' s'.heap ∧ RelV v u ∧ Q v H'
def CR (CX : CXT) (outer : List Env) (P : Program) (w : World) (H : Hp) (s : Shared) (Q : VK) (E : XK) (r : Result) (s' : Shared) : Prop :=
  match r with
  | .ok (.ret u) => CE outer P w H s Q u s'
  | .ok _ => False
  | .error e => CX outer H s E e s'
structure FnOk (P : Program) (w : World) (K : PySem.W.Frag) (mg : Str → Option Value) (base : Heap) (CX : CXT) (k : Nat) (f : Addr) (fd : FuncData) (ps : List Str) (sp : Sp) : Prop where
  len : ∀ vs H Q E, sp vs H Q E → vs.length = ps.length
  run : ∀ (A : Around) (outer : List Env) (s : Shared) (H : Hp) (args : Args) (us : List Value) (vs : List V) (Q : VK) (E : XK), Room k A → Env0 P w K mg base A outer s H → BindsTo s fd args (ps.zip us) → Vals vs us → sp vs H Q E →
    codeAny (model P w) A (.call (.ref f) args) (CR CX outer P w H s Q E) s
theorem FnOk.mono {P : Program} {w : World} {K : PySem.W.Frag} {mg : Str → Option Value} {base : Heap} {CX : CXT} {j k : Nat} {f : Addr} {fd : FuncData} {ps : List Str} {sp : Sp} (F : FnOk P w K mg base CX j f fd ps sp) (h : j ≤ k) :
    FnOk P w K mg base CX k f fd ps sp := ⟨F.len, fun A outer s H args us vs Q E hr => F.run A outer s H args us vs Q E (hr.mono h)⟩
/-- a weaker promise -/
theorem FnOk.imp {P : Program} {w : World} {K : PySem.W.Frag} {mg : Str → Option Value} {base : Heap} {CX : CXT} {k : Nat} {f : Addr} {fd : FuncData} {ps : List Str} {sp sp' : Sp} (F : FnOk P w K mg base CX k f fd ps sp)
    (h : ∀ vs H Q E, sp' vs H Q E → sp vs H Q E) : FnOk P w K mg base CX k f fd ps sp' :=
  ⟨fun vs H Q E q => F.len vs H Q E (h _ _ _ _ q), fun A outer s H args us vs Q E hr he hb hv hs => F.run A outer s H args us vs Q E hr he hb hv (h _ _ _ _ hs)⟩

theorem Env0.make {P : Program} {w : World} {K : PySem.W.Frag} {mg : Str → Option Value} {base : Heap} {A : Around} {outer : List Env} {s : Shared} {H : Hp} (e : Env0 P w K mg base A outer s H) (C : Addr) (us : List Value) (kw : List (Str × Value)) :
    Env0 P w K mg base (A.under (.builtin "type.__call__" ⟨.ref C :: us, kw⟩)) outer s H := ⟨by first | exact e.frames | (simpa [Around.under, Code.envs, Code.isFrame, pushEnvs] using e.frames), e.mod, e.bs, e.bsz, e.funs, e.frf, e.hok, e.bare⟩
theorem Env0.in1 {P : Program} {w : World} {K : PySem.W.Frag} {mg : Str → Option Value} {base : Heap} {A : Around} {outer : List Env} {s : Shared} {H : Hp} (e : Env0 P w K mg base A outer s H) :
    Env0 P w K mg base A.in1 outer s H := ⟨e.frames, e.mod, e.bs, e.bsz, e.funs, e.frf, e.hok, e.bare⟩

section
variable {X : Cx} {pins : List (Addr × Obj)} {σ : St} {H : Hp} {s s' : Shared}
/-- from a body: what a callee wants -/
theorem Inv.env0 (I : Inv X pins σ H s) : Env0 X.prog X.w X.K X.mg X.base X.A X.stack s H :=
  ⟨I.ok.frames, I.ok.mod, I.bs, Nat.le_trans I.ok.bsz I.sz, I.stack, I.stkFree, I.hok, I.bare⟩
/-- behind a call -/
theorem Inv.after {Q : VK} {u : Value} (I : Inv X pins σ H s) (h : CE X.stack X.prog X.w H s Q u s') : EP X pins σ Q u s' := by
  obtain ⟨v, H', os, bare, un, hok, r, q⟩ := h
  obtain ⟨hh, g, d, t, os'⟩ := s'
  obtain rfl : os' = s.os := os
  exact ⟨v, H', I.call (h' := hh) (g' := g) (d' := d) (t' := t) (ch := []) un hok bare (fun b z => absurd z (by simp)), r, q⟩
end

/-! ### calls -/
/-- f(..): the written arguments, then the defaults dvs; E: what is wanted of an exception -/
def tCall (sp : Sp) (dvs : List V) (E : XK) (t : TA) : TE := fun σ H Q => t σ H fun vs H1 => sp (vs ++ dvs) H1 Q E
/-- o.m(..) of an instance of the class at C -/
def tMeth (C : Addr) (m : Str) (sp : Sp) (dvs : List V) (E : XK) (ta : TE) (t : TA) : TE := fun σ H Q => ta σ H fun x H1 => ∃ a dx fs, x = .ref a ∧ H1 a = some (.ins C dx fs) ∧ fs.lookup m = none ∧
  t σ H1 fun vs H2 => sp (x :: (vs ++ dvs)) H2 Q E
/-- C(..): a new instance and its dict, then __init__ -/
def tMake (C : Addr) (sp : Sp) (dvs : List V) (E : XK) (t : TA) : TE := fun σ H Q => t σ H fun vs H1 => ∀ x dx, H1 x = none → H1 dx = none → dx ≠ x →
  sp (.ref x :: (vs ++ dvs)) (upd (upd H1 dx (.own x)) x (.ins C dx [])) (fun v H2 => v = .non ∧ Q (.ref x) H2) E

/-- how the parameters are bound: us the positional arguments, kw the keywords' values by name, ds the defaults that fill up -/
def Binds (K : PySem.W.Frag) (fd : FuncData) (ps : List Str) (ds : List Value) : Prop :=
  ∀ (s : Shared) (us : List Value), K.In s.heap → (us ++ ds).length = ps.length → BindsTo s fd ⟨us, []⟩ (ps.zip (us ++ ds))
/-- every parameter is given -/
theorem Binds.all {K : PySem.W.Frag} {fd : FuncData} {ps : List Str} (h : ∀ us : List Value, us.length = ps.length → bindArgs fd ⟨us, []⟩ = pure (ps.zip us)) : Binds K fd ps [] := fun s us _ hl => by
  rw [List.append_nil] at hl ⊢
  exact .of_eq (h us hl)

/-- an exception of a callee reaches what this body wants of exceptions -/
def Passes (CX : CXT) (X : Cx) (E : XK) : Prop := ∀ (pins : List (Addr × Obj)) (σ : St) (H : Hp) (s : Shared) (e : Value) (s' : Shared), Inv X pins σ H s → CX X.stack H s E e s' → X.xe e s'

section
variable {X : Cx} {CX : CXT} {k : Nat} {f C : Addr} {fd : FuncData} {ps : List Str} {sp : Sp} {dvs : List V} {ds : List Value} {E : XK} {x m : Str} {p pos apos : Pos} {e o : Expr} {es : List Expr} {ta : TE} {t : TA}

/-- the callee runs -/
theorem run_fn {pins : List (Addr × Obj)} {σ : St} {H : Hp} {s : Shared} {Q : VK} {us : List Value} {vs : List V} (F : FnOk X.prog X.w X.K X.mg X.base CX k f fd ps sp) (hr : Room k X.A) (hb : Binds X.K fd ps ds) (hd : Vals dvs ds) (hx : Passes CX X E)
    (I : Inv X pins σ H s) (r : Vals vs us) (h : sp (vs ++ dvs) H Q E) : wpAny (model X.prog X.w) X.A (call (.ref f) us) (EP X pins σ Q) X.xe s := by
  have r2 : Vals (vs ++ dvs) (us ++ ds) := r.append hd
  have hl : (us ++ ds).length = ps.length := by rw [← r2.length]; exact F.len _ _ _ _ h
  refine wpAny_call (codeAny_mono (F.run X.A X.stack s H ⟨us, []⟩ (us ++ ds) (vs ++ dvs) Q E hr I.env0 (hb s us I.kIn hl) r2 h) fun r s' hq => ?_)
  cases r with
  | error e => exact hx pins σ H s e s' I hq
  | ok fl =>
    cases fl with
    | ret u => exact I.after hq
    | next => exact False.elim hq
    | brk => exact False.elim hq
    | cont => exact False.elim hq

theorem pe_call (F : FnOk X.prog X.w X.K X.mg X.base CX k f fd ps sp) (hr : Room k X.A) (hg : Gl X x) (hm : X.mg x = some (.ref f)) (hk : PySem.W.keepIn X.K (.ref f) = true) (hb : Binds X.K fd ps ds) (hd : Vals dvs ds) (hx : Passes CX X E)
    (ha : PA X (e :: es) t) (hdb : (x == ("__debug__" : Str)) = false := by decide) (he : starEach (e :: es) X.env = (false, eval e X.env) :: starEach es X.env := by rfl) (hpl : (backTo pos (starEach es X.env)).any (·.1) = false := by rfl) :
    PE X (.Call (.Name x p) (e :: es) [] pos) (tCall sp dvs E t) := by
  intro pins s σ H Q I h
  refine wpAny_Call_Name_kw (ld_glob I hg hm ?_ hdb)
  refine PySem.W.callWith_K (h₀ := X.base) I.ok.mod.kin hk (thn (ha pos pins s σ H _ I h) fun us s1 ⟨vs, H1, I1, r, q⟩ => ⟨I1.kIn, ?_⟩) he hpl
  exact run_fn F hr hb hd hx I1 r q
theorem pe_call0 (F : FnOk X.prog X.w X.K X.mg X.base CX k f fd ps sp) (hr : Room k X.A) (hg : Gl X x) (hm : X.mg x = some (.ref f)) (hk : PySem.W.keepIn X.K (.ref f) = true) (hb : Binds X.K fd ps ds) (hd : Vals dvs ds) (hx : Passes CX X E)
    (hdb : (x == ("__debug__" : Str)) = false := by decide) : PE X (.Call (.Name x p) [] [] pos) (tCall sp dvs E tNil) := by
  intro pins s σ H Q I h
  refine wpAny_Call_Name_kw (ld_glob I hg hm ?_ hdb)
  exact PySem.W.callWith_K0 I.kIn hk (run_fn (us := []) F hr hb hd hx I .nil h)

/-- o.m(e, ..) -/
theorem pe_meth {pl : Sem Bool} (he : PE X o ta) (c : Cls X.K C) (hm : Meth X.K C m f) (F : FnOk X.prog X.w X.K X.mg X.base CX k f fd ps sp) (hr : Room k X.A) (hb : Binds X.K fd ps ds) (hd : Vals dvs ds) (hx : Passes CX X E) (ha : PA X (e :: es) t)
    (hst : starEach (e :: es) X.env = (false, eval e X.env) :: starEach es X.env := by rfl) (hpl : (backTo pos (starEach es X.env)).any (·.1) = false := by rfl)
    (ht : eval (.Call (.Attribute o m apos) (e :: es) [] pos) X.env = (do
      let ov ← eval o X.env
      standAt apos.atName
      let (f, first) ← holding [ov] (getMethod ov m pl)
      callWith pos f first (backTo pos (starEach (e :: es) X.env)) (backToKw pos (keywordEach [] X.env))) := by rfl) :
    PE X (.Call (.Attribute o m apos) (e :: es) [] pos) (tMeth C m sp dvs E ta t) := by
  intro pins s σ H Q I h
  refine PySem.W.methodCall_KW (pl := pl) (thn (he pins s σ H _ I h) fun u s1 ⟨x, H1, I1, rx, a, dx, fs, ex, ea, l, q⟩ => ?_) ht
  subst ex
  obtain rfl : u = Value.ref a := rx
  refine getmeth_ok I1 ea c hm l ?_
  refine PySem.W.callWith_K (first := [.ref a]) (h₀ := X.base) I.ok.mod.kin hm.kp (thn (ha pos pins s1 σ H1 _ I1 q) fun us s2 ⟨vs, H2, I2, r, q2⟩ => ⟨I2.kIn, ?_⟩) hst hpl
  exact run_fn (us := .ref a :: us) (vs := .ref a :: vs) F hr hb hd hx I2 (.cons rfl r) q2
/-- o.m() -/
theorem pe_meth0 {pl : Sem Bool} (he : PE X o ta) (c : Cls X.K C) (hm : Meth X.K C m f) (F : FnOk X.prog X.w X.K X.mg X.base CX k f fd ps sp) (hr : Room k X.A) (hb : Binds X.K fd ps ds) (hd : Vals dvs ds) (hx : Passes CX X E)
    (ht : eval (.Call (.Attribute o m apos) [] [] pos) X.env = (do
      let ov ← eval o X.env
      standAt apos.atName
      let (f, first) ← holding [ov] (getMethod ov m pl)
      callWith pos f first (backTo pos (starEach [] X.env)) (backToKw pos (keywordEach [] X.env))) := by rfl) :
    PE X (.Call (.Attribute o m apos) [] [] pos) (tMeth C m sp dvs E ta tNil) := by
  intro pins s σ H Q I h
  refine PySem.W.methodCall_KW (pl := pl) (thn (he pins s σ H _ I h) fun u s1 ⟨x, H1, I1, rx, a, dx, fs, ex, ea, l, q⟩ => ?_) ht
  subst ex
  obtain rfl : u = Value.ref a := rx
  refine getmeth_ok I1 ea c hm l ?_
  exact PySem.W.callWith_K0 (first := [.ref a]) I1.kIn hm.kp (run_fn (us := [.ref a]) (vs := [.ref a]) F hr hb hd hx I1 (.cons rfl .nil) q)

/-- what a class must have to be made -/
structure Mk (K : PySem.W.Frag) (C f : Addr) : Prop where
  makes : PySem.W.makesIn K C = true
  init : PySem.W.findIn K (.ref C) "__init__" = some (some (.ref f))
  fn : PySem.W.isFn K (.ref f) = true
  kp : PySem.W.keepIn K (.ref C) = true

theorem run_make {pins : List (Addr × Obj)} {σ : St} {H : Hp} {s : Shared} {Q : VK} {us : List Value} {vs : List V} (M : Mk X.K C f) (F : FnOk X.prog X.w X.K X.mg X.base CX k f fd ps sp) (hr : Room (k + 1) X.A) (hb : Binds X.K fd ps ds) (hd : Vals dvs ds)
    (hx : Passes CX X E) (I : Inv X pins σ H s) (r : Vals vs us)
    (h : ∀ x dx, H x = none → H dx = none → dx ≠ x → sp (.ref x :: (vs ++ dvs)) (upd (upd H dx (.own x)) x (.ins C dx [])) (fun v H2 => v = .non ∧ Q (.ref x) H2) E) :
    wpAny (model X.prog X.w) X.A (call (.ref C) us) (EP X pins σ Q) X.xe s := by
  have hq := h (s.heap.objs.size + 1) s.heap.objs.size (I.hok.fresh (Nat.le_succ _)) (I.hok.fresh (Nat.le_refl _)) (Nat.ne_of_lt (Nat.lt_succ_self _))
  have I2 := Inv.made (C := C) I
  have r2 : Vals (V.ref (s.heap.objs.size + 1) :: (vs ++ dvs)) (Value.ref (s.heap.objs.size + 1) :: (us ++ ds)) := .cons rfl (r.append hd)
  have hl : (Value.ref (s.heap.objs.size + 1) :: us ++ ds).length = ps.length := by
    have e := r2.length
    rw [F.len _ _ _ _ hq] at e
    exact e.symm
  refine wpAny_call (make_map (f := f) I.kIn M.makes M.init (beq_iff_eq.mp M.fn) (codeAny_mono (F.run _ X.stack _ _ ⟨Value.ref (s.heap.objs.size + 1) :: us, []⟩ (Value.ref (s.heap.objs.size + 1) :: (us ++ ds)) _ _ E (hr.make C us [])
    (I2.env0.make C us []) (hb _ (Value.ref (s.heap.objs.size + 1) :: us) I2.kIn hl) r2 hq) fun r s' hq' => ?_))
  cases r with
  | error e => exact hx pins σ _ _ e s' I2 hq'
  | ok fl =>
    cases fl with
    | ret u =>
      obtain ⟨v, H', I3, rv, ev, q3⟩ := I2.after hq'
      subst ev
      exact ⟨rv, ⟨V.ref (s.heap.objs.size + 1), H', I3, rfl, q3⟩⟩
    | next => exact False.elim hq'
    | brk => exact False.elim hq'
    | cont => exact False.elim hq'
theorem pe_make (M : Mk X.K C f) (F : FnOk X.prog X.w X.K X.mg X.base CX k f fd ps sp) (hr : Room (k + 1) X.A) (hg : Gl X x) (hm : X.mg x = some (.ref C)) (hb : Binds X.K fd ps ds) (hd : Vals dvs ds) (hx : Passes CX X E)
    (ha : PA X (e :: es) t) (hdb : (x == ("__debug__" : Str)) = false := by decide) (he : starEach (e :: es) X.env = (false, eval e X.env) :: starEach es X.env := by rfl) (hpl : (backTo pos (starEach es X.env)).any (·.1) = false := by rfl) :
    PE X (.Call (.Name x p) (e :: es) [] pos) (tMake C sp dvs E t) := by
  intro pins s σ H Q I h
  refine wpAny_Call_Name_kw (ld_glob I hg hm ?_ hdb)
  refine PySem.W.callWith_K (h₀ := X.base) I.ok.mod.kin M.kp (thn (ha pos pins s σ H _ I h) fun us s1 ⟨vs, H1, I1, r, q⟩ => ⟨I1.kIn, ?_⟩) he hpl
  exact run_make M F hr hb hd hx I1 r q
theorem pe_make0 (M : Mk X.K C f) (F : FnOk X.prog X.w X.K X.mg X.base CX k f fd ps sp) (hr : Room (k + 1) X.A) (hg : Gl X x) (hm : X.mg x = some (.ref C)) (hb : Binds X.K fd ps ds) (hd : Vals dvs ds) (hx : Passes CX X E)
    (hdb : (x == ("__debug__" : Str)) = false := by decide) : PE X (.Call (.Name x p) [] [] pos) (tMake C sp dvs E tNil) := by
  intro pins s σ H Q I h
  refine wpAny_Call_Name_kw (ld_glob I hg hm ?_ hdb)
  exact PySem.W.callWith_K0 I.kIn M.kp (run_make (us := []) M F hr hb hd hx I .nil h)
end

/-! ### keywords -/
/-- the values of the keywords, from the left -/
def PK (X : Cx) (kws : List Keyword) (t : TA) : Prop :=
  ∀ (pos : Pos) (pins : List (Addr × Obj)) (s : Shared) (σ : St) (H : Hp) (Q : List V → Hp → Prop), Inv X pins σ H s → t σ H Q → wpAny (model X.prog X.w) X.A (evalAll ((backToKw pos (keywordEach kws X.env)).map (·.2))) (AP X pins σ Q) X.xe s
section
variable {X : Cx} {CX : CXT} {k : Nat} {f C : Addr} {fd : FuncData} {ps ks : List Str} {sp : Sp} {E : XK} {x m : Str} {p pos apos kpos : Pos} {e o : Expr} {es : List Expr} {kws : List Keyword} {te ta : TE} {t tk : TA} {nm : Option Str}
theorem pk_nil : PK X [] tNil := fun _ _ _ _ H Q I h => wpAny_evalAll_nil ⟨[], H, I, .nil, h⟩
theorem pk_cons (ha : PE X e te) (hr : PK X kws t) : PK X (⟨nm, e, kpos⟩ :: kws) (tCons te t) := by
  intro pos pins s σ H Q I h
  show wpAny _ _ (evalAll ((do let v ← eval e X.env; standAt pos; pure v) :: (backToKw pos (keywordEach kws X.env)).map (·.2))) _ _ s
  refine wpAny_evalAll_cons (wpAny_bind (thn (ha pins s σ H _ I h) fun u s1 ⟨x, H1, I1, r1, q1⟩ => wpAny_bind (wpAny_standAt (wpAny_pure ?_))))
  exact thn (hr pos pins s1 σ H1 _ I1 q1) fun us s2 ⟨xs, H2, I2, r2, q2⟩ => ⟨x :: xs, H2, I2, .cons r1 r2, q2⟩

/-- how a call with keywords binds: g puts the positional values us and the keywords' values ws (names ks) in the parameters' order, defaults among them -/
structure KBinds (K : PySem.W.Frag) (fd : FuncData) (ps ks : List Str) (g : List Value → List Value → List Value) (gV : List V → List V → List V) : Prop where
  to : ∀ (s : Shared) (us ws : List Value), K.In s.heap → (g us ws).length = ps.length → BindsTo s fd ⟨us, ks.zip ws⟩ (ps.zip (g us ws))
  rel : ∀ {vs : List V} {us : List Value} {zs : List V} {ws : List Value}, Vals vs us → Vals zs ws → Vals (gV vs zs) (g us ws)
def tCallK (sp : Sp) (gV : List V → List V → List V) (E : XK) (t tk : TA) : TE := fun σ H Q => t σ H fun vs H1 => tk σ H1 fun zs H2 => sp (gV vs zs) H2 Q E
variable {g : List Value → List Value → List Value} {gV : List V → List V → List V}
theorem run_fnk {pins : List (Addr × Obj)} {σ : St} {H : Hp} {s : Shared} {Q : VK} {us ws : List Value} {vs zs : List V} (F : FnOk X.prog X.w X.K X.mg X.base CX k f fd ps sp) (hr : Room k X.A) (hb : KBinds X.K fd ps ks g gV) (hx : Passes CX X E)
    (I : Inv X pins σ H s) (r : Vals vs us) (rz : Vals zs ws) (h : sp (gV vs zs) H Q E) : wpAny (model X.prog X.w) X.A (call (.ref f) us (ks.zip ws)) (EP X pins σ Q) X.xe s := by
  have r2 := hb.rel r rz
  have hl : (g us ws).length = ps.length := by rw [← r2.length]; exact F.len _ _ _ _ h
  refine wpAny_call (codeAny_mono (F.run X.A X.stack s H ⟨us, ks.zip ws⟩ (g us ws) (gV vs zs) Q E hr I.env0 (hb.to s us ws I.kIn hl) r2 h) fun r s' hq => ?_)
  cases r with
  | error e => exact hx pins σ H s e s' I hq
  | ok fl =>
    cases fl with
    | ret u => exact I.after hq
    | next => exact False.elim hq
    | brk => exact False.elim hq
    | cont => exact False.elim hq
/-- f(e, .., k = v, ..) -/
theorem pe_callK (F : FnOk X.prog X.w X.K X.mg X.base CX k f fd ps sp) (hr : Room k X.A) (hg : Gl X x) (hm : X.mg x = some (.ref f)) (hk : PySem.W.keepIn X.K (.ref f) = true) (hb : KBinds X.K fd ps ks g gV) (hx : Passes CX X E)
    (ha : PA X (e :: es) t) (hkw : PK X kws tk) (hall : (backToKw pos (keywordEach kws X.env)).all (·.1.isSome) = true := by rfl) (hks : (backToKw pos (keywordEach kws X.env)).filterMap (·.1) = ks := by rfl)
    (hdb : (x == ("__debug__" : Str)) = false := by decide) (he : starEach (e :: es) X.env = (false, eval e X.env) :: starEach es X.env := by rfl)
    (hpl : ((backTo pos (starEach (e :: es) X.env)).any (·.1) || (backToKw pos (keywordEach kws X.env)).any (·.1.isNone)) = false := by rfl) :
    PE X (.Call (.Name x p) (e :: es) kws pos) (tCallK sp gV E t tk) := by
  intro pins s σ H Q I h
  refine wpAny_Call_Name_kw (ld_glob I hg hm ?_ hdb)
  refine PySem.W.callWith_KW (h₀ := X.base) I.ok.mod.kin hk hall (thn (ha pos pins s σ H _ I h) fun us s1 ⟨vs, H1, I1, r, q⟩ => ?_) hpl he
  refine thn (hkw pos pins s1 σ H1 _ I1 q) fun ws s2 ⟨zs, H2, I2, rz, q2⟩ => ⟨I2.kIn, ?_⟩
  rw [hks]
  exact run_fnk F hr hb hx I2 r rz q2
end

/-! ### a def's body keeps its promise -/
/-- names: the parameters first -/
structure FnScope (N P : List Str) (sc : Scope) : Prop where
  kind : sc.kind = .function
  co : sc.isCoroutine = false
  gen : sc.isGenerator = false
  nd : N.Nodup
  pre : N.take P.length = P
  par : ∀ x ∈ P, sc.names.lookup x = some .local ∨ sc.names.lookup x = some .cell
  nofree : ∀ y ∈ sc.names, y.2 ≠ .free

theorem bindL_out {kindOf : Str → Option NameKind} {x : Str} : ∀ {binds : List (Str × Value)} {m : Str → Option Value}, (∀ v, (x, v) ∉ binds) → bindL kindOf binds m x = m x
  | [], _, _ => rfl
  | (n, v) :: r, m, h => by
    unfold bindL
    rw [bindL_out fun w hw => h w (List.mem_cons_of_mem _ hw)]
    split
    · have : x ≠ n := by rintro rfl; exact h v List.mem_cons_self
      simp [this]
    · rfl
theorem bindC_out {kindOf : Str → Option NameKind} {x : Str} : ∀ {binds : List (Str × Value)} {m : Str → Option Value}, (∀ v, (x, v) ∉ binds) → bindC kindOf binds m x = m x
  | [], _, _ => rfl
  | (n, v) :: r, m, h => by
    unfold bindC
    rw [bindC_out fun w hw => h w (List.mem_cons_of_mem _ hw)]
    split
    · rfl
    · have : x ≠ n := by rintro rfl; exact h v List.mem_cons_self
      simp [this]
theorem bindL_get {kindOf : Str → Option NameKind} {x : Str} {v : Value} : ∀ {P : List Str} {vs : List Value} {i : Nat} {m : Str → Option Value}, P.Nodup → P[i]? = some x → vs[i]? = some v → kindOf x = some .local →
    bindL kindOf (P.zip vs) m x = some v
  | [], _, _, _, _, h, _, _ => by simp at h
  | _ :: _, [], _, _, _, _, h, _ => by simp at h
  | p :: P, w :: vs, 0, m, nd, h1, h2, hk => by
    simp at h1 h2; subst h1; subst h2
    show bindL kindOf ((p, w) :: P.zip vs) m p = _
    unfold bindL
    rw [bindL_out fun v hv => (List.nodup_cons.mp nd).1 (List.of_mem_zip hv).1, if_pos hk]
    simp
  | p :: P, w :: vs, i + 1, m, nd, h1, h2, hk => by
    show bindL kindOf ((p, w) :: P.zip vs) m x = _
    unfold bindL
    exact bindL_get (i := i) (List.nodup_cons.mp nd).2 (by simpa using h1) (by simpa using h2) hk
theorem bindC_get {kindOf : Str → Option NameKind} {x : Str} {v : Value} : ∀ {P : List Str} {vs : List Value} {i : Nat} {m : Str → Option Value}, P.Nodup → P[i]? = some x → vs[i]? = some v → kindOf x ≠ some .local →
    bindC kindOf (P.zip vs) m x = some v
  | [], _, _, _, _, h, _, _ => by simp at h
  | _ :: _, [], _, _, _, _, h, _ => by simp at h
  | p :: P, w :: vs, 0, m, nd, h1, h2, hk => by
    simp at h1 h2; subst h1; subst h2
    show bindC kindOf ((p, w) :: P.zip vs) m p = _
    unfold bindC
    rw [bindC_out fun v hv => (List.nodup_cons.mp nd).1 (List.of_mem_zip hv).1, if_neg hk]
    simp
  | p :: P, w :: vs, i + 1, m, nd, h1, h2, hk => by
    show bindC kindOf ((p, w) :: P.zip vs) m x = _
    unfold bindC
    exact bindC_get (i := i) (List.nodup_cons.mp nd).2 (by simpa using h1) (by simpa using h2) hk

/-- the names' values at the entry -/
def start (N : List Str) (vs : List V) : St := vs.map some ++ List.replicate (N.length - vs.length) none

/-- the context of a def's body, at its entry; an exception leaves the frame, then lies as CX says -/
def cxOf (CX : CXT) (P : Program) (w : World) (K : PySem.W.Frag) (mg : Str → Option Value) (base : Heap) (N : List Str) (qual : Str) (scope : Scope) (f : Addr) (cd : Value) (A : Around) (outer : List Env) (s : Shared) (H : Hp) (E : XK) : Cx where
  prog := P
  w := w
  K := K
  mg := mg
  base := base
  A := A.deeper (envOfC qual scope s.heap.objs.size f cd)
  N := N
  s₀ := s
  H₀ := H
  env := envOfC qual scope s.heap.objs.size f cd
  outer := outer
  stack := envOfC qual scope s.heap.objs.size f cd :: outer
  ex := []
  calm := true
  fn := fun _ => true
  pn := []
  xe := fun e s' => wpAny (model P w) (A.deeper (envOfC qual scope s.heap.objs.size f cd)) (leaving (envOfC qual scope s.heap.objs.size f cd) e) (fun _ s'' => CX outer H s E e s'') (fun e' s'' => CX outer H s E e' s'') s'

theorem cell_has {sc : Scope} {n : Nat} {x : Str} (h : sc.names.lookup x = some .cell) : ∃ c, (cellsFrom n sc.names []).lookup x = some c := by
  have q := PySem.W.cellsFrom_some sc.names n [] (.inl h)
  exact Option.isSome_iff_exists.mp q

theorem inv_start {CX : CXT} {P : Program} {w : World} {K : PySem.W.Frag} {mg : Str → Option Value} {base : Heap} {N ps : List Str} {qual : Str} {scope : Scope} {f : Addr} {cd : Value} {A : Around} {outer : List Env} {s s1 : Shared} {H : Hp} {E : XK} {us : List Value} {vs : List V}
    (S : FnScope N ps scope) (hd : A.handled = none) (e0 : Env0 P w K mg base A outer s H) (hl : vs.length = ps.length) (r : Vals vs us)
    (x : InCallC s s.heap.objs.size (bindL (envOfC qual scope s.heap.objs.size f cd).kindOf (ps.zip us) fun _ => none) (cellsFrom (s.heap.objs.size + 1) scope.names []) (bindC (envOfC qual scope s.heap.objs.size f cd).kindOf (ps.zip us) fun _ => none) s1) :
    Inv (cxOf CX P w K mg base N qual scope f cd A outer s H E) [] (start N vs) H s1 := by
  have hpl : ps.length ≤ N.length := by have := congrArg List.length S.pre; rw [List.length_take] at this; omega
  obtain ⟨h1, tk, rfl, hk⟩ := x.done
  have noA : ∀ b : Addr, b ∉ (cxOf CX P w K mg base N qual scope f cd A outer s H E).ex := fun b z => absurd (show b ∈ ([] : List Addr) from z) (by simp)
  refine ⟨⟨e0.mod, S.kind, rfl, rfl, Nat.le_refl _, fun y z c h1 h2 => ?_, fun y hy => ?_, fun y c _ h => ?_, fun _ => hd, Around.frames_deeper e0.frames, .inr ⟨rfl, rfl⟩, fun b z => absurd z (noA b), e0.bs, e0.bsz, fun b _ _ => noA b, fun b z => absurd z (noA b), e0.funs, e0.frf⟩,
    rfl, e0.bare, Un.kept hk, ⟨_, x.toInCall.ns, fun i y v h1 h2 h3 => ?_⟩, fun y c h => ⟨_, x.cell y c h⟩, e0.hok.fresh (Nat.le_refl _), fun y c h => ?_, fun p hp => absurd (show p ∈ ([] : List (Addr × Obj)) from hp) (by simp), e0.hok.kept hk, ?_⟩
  · exact name_of_addr x.apart (PySem.mem_of_lookup h1) (PySem.mem_of_lookup h2)
  · have hy : scope.names.lookup y = some .cell ∨ scope.names.lookup y = some .free := hy
    rcases hy with hy | hy
    · exact cell_has hy
    · exact absurd rfl (S.nofree _ (PySem.mem_of_lookup hy))
  · exact Nat.le_of_lt (x.above y c (PySem.mem_of_lookup h))
  · have hi : i < vs.length := by
      unfold start at h2
      by_cases hi : i < vs.length
      · exact hi
      · rw [List.getElem?_append_right (by simpa using hi)] at h2
        rw [List.getElem?_replicate] at h2
        split at h2 <;> cases h2
    have ha : vs[i]? = some v := by
      unfold start at h2
      rw [List.getElem?_append_left (by simpa using hi), List.getElem?_map] at h2
      cases e : vs[i]? with
      | none => rw [e] at h2; cases h2
      | some a => rw [e] at h2; cases h2; rfl
    obtain ⟨u, hu, rv⟩ := r.get ha
    have hp : ps[i]? = some y := by
      rw [← S.pre, List.getElem?_take_of_lt (by omega)]; exact h1
    have ndP : ps.Nodup := by rw [← S.pre]; exact S.nd.sublist (List.take_sublist _ _)
    refine ⟨u, rv, ?_⟩
    rcases S.par y (List.mem_of_getElem? hp) with k | k
    · exact .inl ⟨k, bindL_get ndP hp hu k⟩
    · obtain ⟨c, e⟩ := cell_has (n := s.heap.objs.size + 1) k
      refine .inr ⟨.inl k, c, e, ?_⟩
      have q := x.cell y c e
      rw [bindC_get ndP hp hu (by show scope.names.lookup y ≠ _; rw [k]; decide)] at q
      exact q
  · exact e0.hok.fresh (Nat.le_of_lt (x.above y c (PySem.mem_of_lookup h)))
  · unfold start
    show _ = N.length
    rw [List.length_append, List.length_map, List.length_replicate]
    omega

/-- THE RULE: a def (or a method) of the text, by its body. The body's reading t is chosen for each entry; it is run at the parameters' values -/
theorem fn_of {CX : CXT} {P : Program} {w : World} {K : PySem.W.Frag} {mg : Str → Option Value} {base : Heap} {k : Nat} {f : Addr} {name qual : Str} {params : Arguments} {body : List Stmt} {scope : Scope} {dV kV doc pm cdv ct oc : Value} {an od : Option Addr}
    {osl : Array (Option Value)} {N ps : List Str} {sp : Sp} (lk : K.lookup f = some ⟨oc, od, .func (PySem.W.fnOf name qual params body scope dV kV doc pm an cdv ct), osl⟩) (hcd : PySem.W.codeIn K cdv qual = true) (S : FnScope N ps scope)
    (len : ∀ vs H Q E, sp vs H Q E → vs.length = ps.length)
    (hbody : ∀ (A : Around) (outer : List Env) (s : Shared) (H : Hp) (vs : List V) (Q : VK) (E : XK), Room k (A.deeper (envOfC qual scope s.heap.objs.size f cdv)) → sp vs H Q E →
      ∃ t, PSs (cxOf CX P w K mg base N qual scope f cdv A outer s H E) body t ∧ t { nx := fun _ H' => Q .non H', rt := Q } (start N vs) H) :
    FnOk P w K mg base CX (k + 1) f (PySem.W.fnOf name qual params body scope dV kV doc pm an cdv ct) ps sp := by
  refine ⟨len, fun A outer s H args us vs Q E hr e0 hb r hsp => ?_⟩
  have hl := len _ _ _ _ hsp
  have KX : K.In s.heap := e0.mod.kin.keeps fun b o e => (e0.bs b o e).1
  have lim : s.heap.NoLimit := e0.mod.nolimit.keeps fun b o e => (e0.bs b o e).1
  have hkind : ∀ y ∈ ps.zip us, scope.names.lookup y.1 = some .local ∨ (scope.names.lookup y.1 = some .cell ∧ ((cellsFrom (s.heap.objs.size + 1) scope.names []).lookup y.1).isSome = true) := fun ⟨n, v⟩ hy => by
    rcases S.par n (List.of_mem_zip hy).1 with q | q
    · exact .inl q
    · exact .inr ⟨q, PySem.W.cellsFrom_some _ _ _ (.inl q)⟩
  refine codeAny_call_function hr.depth (KX _ _ lk) rfl S.co S.gen rfl (PySem.W.codeRec_of KX hcd) (hb _ _ _ _ ?_)
  refine wpAny_newFunctionEnv_cells S.kind hkind fun env he s1 x => ?_
  subst he
  refine ⟨lim.keeps x.toInCall.keep, codeAny_func ?_⟩
  obtain ⟨t, ht, hq⟩ := hbody A outer s H vs Q E (hr.deeper _) hsp
  have I : Inv (cxOf CX P w K mg base N qual scope f cdv A outer s H E) [] (start N vs) H s1 := inv_start S hr.hd e0 hl r x
  refine wpAny_mono (ht [] s1 (start N vs) H _ I hq) (fun fl s' hs => ?_) fun e s' hs => hs
  have fin : ∀ {σ' : St} {H' : Hp} {v : V} {u : Value}, Inv (cxOf CX P w K mg base N qual scope f cdv A outer s H E) [] σ' H' s' → RelV v u → Q v H' → CE outer P w H s Q u s' :=
    fun {σ' H' v u} J rv q => ⟨v, H', J.os, J.bare, J.base, J.hok, rv, q⟩
  cases fl with
  | ret u =>
    obtain ⟨v, σ', H', J, rv, q⟩ := hs
    exact fin J rv q
  | next =>
    obtain ⟨σ', H', J, q⟩ := hs
    exact fin (v := V.non) (u := Value.none) J rfl q
  | brk =>
    obtain ⟨_, _, _, q⟩ := hs
    exact False.elim q
  | cont =>
    obtain ⟨_, _, _, q⟩ := hs
    exact False.elim q
end L2

namespace L2
open PySem PySem.Spec PyProof.Rows
section
variable {X : Cx} {x : Str} {p pos : Pos} {e : Expr} {es : List Expr} {t : TA} {id T : String} {r : List V → Hp → VK → Prop}

def tCB (r : List V → Hp → VK → Prop) (t : TA) : TE := fun σ H Q => t σ H fun vs H1 => r vs H1 Q
/-- f(e, ..), f a built-in function -/
theorem pe_callB (hc : CallR X (.builtin id) r) (hg : Gl X x) (hm : X.mg x = none) (hv : bootBuiltins x = some (.builtin id)) (ha : PA X (e :: es) t) (hn : x ≠ "__name__" := by decide) (hdb : (x == ("__debug__" : Str)) = false := by decide)
    (he : starEach (e :: es) X.env = (false, eval e X.env) :: starEach es X.env := by rfl) (hpl : (backTo pos (starEach es X.env)).any (·.1) = false := by rfl) : PE X (.Call (.Name x p) (e :: es) [] pos) (tCB r t) := by
  intro pins s σ H Q I h
  refine wpAny_Call_Name_kw (ld_blt I hg hm hv ?_ hn hdb)
  exact PyProof.Rows.callWith_builtin1 (thn (ha pos pins s σ H _ I h) fun us s1 ⟨vs, H1, I1, r1, q1⟩ => hc pins s1 σ H1 vs us Q I1 r1 q1) he hpl
/-- T(e, ..), T a built-in type -/
theorem pe_callTy (hc : CallR X (.type T) r) (hg : Gl X x) (hm : X.mg x = none) (hv : bootBuiltins x = some (.type T)) (ha : PA X (e :: es) t) (hn : x ≠ "__name__" := by decide) (hdb : (x == ("__debug__" : Str)) = false := by decide)
    (he : starEach (e :: es) X.env = (false, eval e X.env) :: starEach es X.env := by rfl) (hpl : (backTo pos (starEach es X.env)).any (·.1) = false := by rfl) : PE X (.Call (.Name x p) (e :: es) [] pos) (tCB r t) := by
  intro pins s σ H Q I h
  refine wpAny_Call_Name_kw (ld_blt I hg hm hv ?_ hn hdb)
  exact PyProof.Rows.callWith_type1 (thn (ha pos pins s σ H _ I h) fun us s1 ⟨vs, H1, I1, r1, q1⟩ => hc pins s1 σ H1 vs us Q I1 r1 q1) he hpl
/-- T() -/
theorem pe_callTy0 (hc : CallR X (.type T) r) (hg : Gl X x) (hm : X.mg x = none) (hv : bootBuiltins x = some (.type T)) (hn : x ≠ "__name__" := by decide) (hdb : (x == ("__debug__" : Str)) = false := by decide) :
    PE X (.Call (.Name x p) [] [] pos) (tCB r tNil) := by
  intro pins s σ H Q I h
  refine wpAny_Call_Name_kw (ld_blt I hg hm hv ?_ hn hdb)
  exact PyProof.Rows.callWith_type0 (hc pins s σ H [] [] Q I .nil h)
end
end L2

namespace HT
open PySem PyProof.Rows

/-- t < u of tuples of ints -/
def lexLt : List Int → List Int → Bool
  | [], [] => false
  | [], _ :: _ => true
  | _ :: _, [] => false
  | x :: xs, y :: ys => if x = y then lexLt xs ys else decide (x < y)
theorem lexLt_cons (x y : Int) (xs ys : List Int) : lexLt (x :: xs) (y :: ys) = if x = y then lexLt xs ys else decide (x < y) := rfl
theorem lexLt_nil_nil : lexLt [] [] = false := rfl
theorem lexLt_nil_cons (y : Int) (ys : List Int) : lexLt [] (y :: ys) = true := rfl
theorem lexLt_cons_nil (x : Int) (xs : List Int) : lexLt (x :: xs) [] = false := rfl

theorem eqAt_int (A : Around) (s : Shared) (a : Int) (t : Tok) (c : Int) (u : Tok) : ∃ e, SeqAt.EqAt A s (.int a t) (.int c u) e ∧ (e = true ↔ a = c) :=
  ⟨(a == c), SeqAt.EqAt.int_int a t c u, by simp⟩
theorem rcLt_int (A : Around) (s : Shared) (a : Int) (t : Tok) (c : Int) (u : Tok) (prog : Program) (w : World) (E : Value → Shared → Prop) (Q : Value → Shared → Prop) (h : Q (.bool (decide (a < c))) s) :
    wpAny (model prog w) A (richCompare .Lt (.int a t) (.int c u)) Q E s :=
  (PyProof.Rows.lt_int h : wpAny (model prog w) A (compareOp .Lt (.int a t) (.int c u)) Q E s)

section
open PySem.SeqAt
open PySem.AutoSeq1 (wpAny_loadPart')
open PySem.MeetsSeq PySem.MeetsSeq2 PySem.MeetsSeq3

theorem tuple_lt_ints (l b : Addr) (items items2 : Array Value) (n n2 : Nat) (dd dd2 : Option Addr) (sl sl2 : Array (Option Value)) (ns ms : List Int) (hi : IntsAre items.toList ns) (hj : IntsAre items2.toList ms) :
    Meets (Builtin.«tuple.__lt__» ⟨[.ref l, .ref b], []⟩)
      (fun _ R s => s.heap.get? l = some { cls := .type "tuple", dict := dd, data := .seq items n, slots := sl } ∧ s.heap.get? b = some { cls := .type "tuple", dict := dd2, data := .seq items2 n2, slots := sl2 } ∧
        R (.ok (.ret (.bool (lexLt ns ms)))) s) :=
  .of_wp fun prog w A R s h => by
    obtain ⟨hp, g, d, tk, os⟩ := s; obtain ⟨hl, hb, h⟩ := h
    have f2 := AutoSeq1.sub_tuple_tuple
    have z1 : items.size = ns.length := by rw [← hi.length]; simp
    have z2 : items2.size = ms.length := by rw [← hj.length]; simp
    wp_walk using wpAny_loadPart' hl, wpAny_loadPart' hb, wpAny_forIn_list _ (fun rest b s' => b.1 = none ∧ s' = ⟨hp, g, d, tk, os⟩ ∧ ∃ (vs ws : List Value) (ns' ms' : List Int), rest = vs.zip ws ∧
      IntsAre vs ns' ∧ IntsAre ws ms' ∧ ns'.length + items2.size = ms'.length + items.size ∧ R (.ok (.ret (.bool (lexLt ns' ms')))) ⟨hp, g, d, tk, os⟩) _
    case turn =>
      rintro ⟨y, x⟩ rest b s' ⟨hb', rfl, vs, ws, ns', ms', hz, hvi, hwi, hlen, hR⟩
      cases hvi with
      | nil => rw [List.zip_nil_left] at hz; cases hz
      | cons a t hvi' =>
        cases hwi with
        | nil => rw [List.zip_nil_right] at hz; cases hz
        | cons c u hwi' =>
          rw [List.zip_cons_cons] at hz
          injection hz with hyx hrest
          injection hyx with hy hx
          subst hy hx
          rw [lexLt_cons] at hR
          simp only [List.length_cons] at hlen
          obtain ⟨e, he, hiff⟩ := eqAt_int A.in1 ⟨hp, g, d, tk, os⟩ a t c u
          refine wpAny_bind (he prog w _ _ ?_)
          cases e with
          | true =>
            rw [if_pos (hiff.mp rfl)] at hR
            wp_walk
            exact ⟨rfl, rfl, _, _, _, _, hrest, hvi', hwi', by omega, hR⟩
          | false =>
            rw [if_neg (fun q => absurd (hiff.mpr q) Bool.false_ne_true)] at hR
            have hri := rcLt_int A.in1 ⟨hp, g, d, tk, os⟩ a t c u prog w
            wp_walk using hri
            exact ⟨_, rfl, by simpa using hR⟩
    case fin =>
      rintro ⟨b1, b2⟩ s' ⟨hb', rfl, vs, ws, ns', ms', hz, hvi, hwi, hlen, hR⟩
      simp only at hb'
      subst hb'
      have hv : lexLt ns' ms' = decide (items.size < items2.size) := by
        cases hvi with
        | nil =>
          cases hwi with
          | nil =>
            simp only [List.length_nil] at hlen
            rw [lexLt_nil_nil]
            exact (decide_eq_false (by omega)).symm
          | cons c u hw =>
            simp only [List.length_nil, List.length_cons] at hlen
            rw [lexLt_nil_cons]
            exact (decide_eq_true (by omega)).symm
        | cons a t hv =>
          cases hwi with
          | nil =>
            simp only [List.length_nil, List.length_cons] at hlen
            rw [lexLt_cons_nil]
            exact (decide_eq_false (by omega)).symm
          | cons c u hw =>
            rw [List.zip_cons_cons] at hz
            cases hz
      rw [hv] at hR
      wp_walk
      exact ⟨_, rfl, by simpa [Builtin.Tuple.tupleCompareSizes] using hR⟩
    case h =>
      exact ⟨rfl, rfl, items.toList, items2.toList, ns, ms, rfl, hi, hj, by omega, h⟩
end

section
variable {prog : Program} {w : World} {A : Around} {E : Value → Shared → Prop} {s : Shared}

theorem lt_tupInts {l b : Addr} {items items2 : Array Value} {ns ms : List Int} {Q : Value → Shared → Prop} (hl : IsTup s.heap l items) (hb : IsTup s.heap b items2) (hi : IntsAre items.toList ns) (hj : IntsAre items2.toList ms)
    (hu : A.units < cLine) (h : Q (.bool (lexLt ns ms)) s) : wpAny (model prog w) A (compareOp .Lt (.ref l) (.ref b)) Q E s := by
  obtain ⟨⟨cls, dd, data, sl⟩, ho, hc, n, hd⟩ := id hl
  obtain ⟨⟨cls2, dd2, data2, sl2⟩, ho2, hc2, n2, hd2⟩ := id hb
  simp only at hc hd hc2 hd2
  subst hc hd hc2 hd2
  exact richCompare_meets_room (op := .Lt) ⟨_, ho, rfl⟩ ⟨_, ho2, rfl⟩ PySem.F.slot_tuple_lt PySem.F.entry_tuple_lt (PySem.F.args_tuple_lt_2 _ _) (tuple_lt_ints l b items items2 n n2 dd dd2 sl sl2 ns ms hi hj)
    ⟨ho, ho2, show Value.bool (lexLt ns ms) ≠ Value.notImplemented ∧ Q (.bool (lexLt ns ms)) s from ⟨(fun x => nomatch x), h⟩⟩ hu

/-- t + u, t not empty -/
theorem cat_tup {t b : Addr} {vs ws : List Value} {Q : Value → Shared → Prop} (ht : IsTup s.heap t vs.toArray) (hb : IsTup s.heap b ws.toArray) (hv : vs ≠ [])
    (h1 : ws = [] → Q (.ref t) s) (h2 : ws ≠ [] → Q (.ref s.heap.objs.size) { s with heap := s.heap.push { cls := .type "tuple", data := .seq (vs ++ ws).toArray } })
    (hsz : vs.length + ws.length ≤ sizeLine) : wpAny (model prog w) A (binaryOp .Add (.ref t) (.ref b)) Q E s := by
  obtain ⟨⟨cls, dd, data, sl⟩, ho, hc, n, hd⟩ := id ht
  obtain ⟨⟨cls2, dd2, data2, sl2⟩, ho2, hc2, n2, hd2⟩ := id hb
  simp only at hc hd hc2 hd2
  subst hc hd hc2 hd2
  have e : vs.toArray ++ ws.toArray = (vs ++ ws).toArray := by simp
  by_cases hw : ws = []
  · exact concat_meets ⟨_, ho, rfl⟩ ⟨_, ho2, rfl⟩ noFill_tuple_add seq_tuple_add PySem.F.slot_tuple_add PySem.F.entry_tuple_add (PySem.F.args_tuple_add_2 _ _)
      (tuple_addW1 t b vs.toArray ws.toArray n n2 dd dd2 sl sl2 (by simpa using hv) (by simp [hw])) ⟨ho, ho2, h1 hw⟩
  · refine concat_meets ⟨_, ho, rfl⟩ ⟨_, ho2, rfl⟩ noFill_tuple_add seq_tuple_add PySem.F.slot_tuple_add PySem.F.entry_tuple_add (PySem.F.args_tuple_add_2 _ _)
      (tuple_addW2 t b vs.toArray ws.toArray n n2 dd dd2 sl sl2 (by simpa using hv) (by simpa using hw) (by rw [List.size_toArray, List.size_toArray]; exact hsz)) ⟨ho, ho2, ?_⟩
    rw [e]
    exact h2 hw

/-! ### t[a:b], not the whole -/
/-- a slice's bound as a place among n (d where it is left out) -/
def sIx (n d : Nat) : Option Int → Nat
  | none => d
  | some v => if v < 0 then (v + (n : Int)).toNat else min v.toNat n
theorem sIx_none (n d : Nat) : sIx n d none = d := rfl
theorem sIx_nat (n d k : Nat) : sIx n d (some (k : Int)) = min k n := by
  show (if (k : Int) < 0 then ((k : Int) + (n : Int)).toNat else min (k : Int).toNat n) = min k n
  rw [if_neg (by omega), Int.toNat_natCast]
theorem sIx_le (n d : Nat) (hd : d ≤ n) (o : Option Int) : sIx n d o ≤ n := by
  cases o with
  | none => exact hd
  | some v =>
    show (if v < 0 then (v + (n : Int)).toNat else min v.toNat n) ≤ n
    by_cases hv : v < 0
    · rw [if_pos hv]; omega
    · rw [if_neg hv]; exact Nat.min_le_right _ _
theorem clip_eq (v : Int) (n d : Nat) : (if v < 0 then max (v + (n : Int)) 0 else min v (n : Int)) = ((sIx n d (some v) : Nat) : Int) := by
  show (if v < 0 then max (v + (n : Int)) 0 else min v (n : Int)) = (((if v < 0 then (v + (n : Int)).toNat else min v.toNat n) : Nat) : Int)
  by_cases hv : v < 0
  · simp only [if_pos hv]; omega
  · simp only [if_neg hv]; omega
theorem adjust_gen (lo hi : Option Int) (n : Nat) : Builtin.Slice.sliceAdjust lo hi 1 (n : Int) = (((sIx n 0 lo : Nat) : Int), ((sIx n n hi : Nat) : Int)) := by
  have h1 : ¬ ((1 : Int) < 0) := by omega
  unfold Builtin.Slice.sliceAdjust
  simp only [h1, if_false]
  refine Prod.ext ?_ ?_
  · cases lo with
    | none => rfl
    | some v => exact clip_eq v n 0
  · cases hi with
    | none => rfl
    | some v => exact clip_eq v n n
theorem places_gen (i j : Nat) : Builtin.Slice.slicePlaces (i : Int) (j : Int) 1 = j - i := by
  unfold Builtin.Slice.slicePlaces
  have h1 : (1 : Int) > 0 := by omega
  simp only [h1, if_true, Int.ediv_one]
  split <;> omega
theorem slicePart_ {v : Value} {o : Option Int} {Q : Option Int → Shared → Prop} (p : IsPart v o) (h : Q o s) : wpAny (model prog w) A (Builtin.Slice.slicePartIndex v) Q E s := by
  cases p with
  | none => exact slicePart_none h
  | int i t => exact slicePart_int h
theorem sliceApplied_gen {sl : Addr} {vl vu : Value} {lo hi : Option Int} {n : Nat} {Q : Int × Int × Nat → Shared → Prop} (hs : s.heap.IsSliceOf sl vl vu .none) (pl : IsPart vl lo) (pu : IsPart vu hi)
    (h : Q (((sIx n 0 lo : Nat) : Int), 1, sIx n n hi - sIx n 0 lo) s) : wpAny (model prog w) A (Builtin.Slice.sliceApplied (.ref sl) (pure (n : Int))) Q E s := by
  obtain ⟨os, hos, hcs, hds⟩ := id hs
  unfold Builtin.Slice.sliceApplied Builtin.Slice.sliceFields
  refine wpAny_bind (wpAny_bind (wpAny_field hos hds (x := vl) rfl (wpAny_bind (wpAny_field hos hds (x := vu) rfl (wpAny_bind (wpAny_field hos hds (x := .none) rfl (wpAny_pure ?_)))))))
  refine wpAny_bind (slicePart_none ?_)
  show wpAny _ _ (if ((1 : Int) == 0) = true then _ else _) _ _ s
  rw [if_neg (by decide)]
  refine wpAny_bind (slicePart_ pl (wpAny_bind (slicePart_ pu (wpAny_bind (wpAny_pure ?_)))))
  show wpAny _ _ (match Builtin.Slice.sliceAdjust lo hi 1 (n : Int) with | (lo, hi) => pure (lo, (1 : Int), Builtin.Slice.slicePlaces lo hi 1)) _ _ s
  rw [adjust_gen lo hi n]
  show wpAny _ _ (pure (((sIx n 0 lo : Nat) : Int), (1 : Int), Builtin.Slice.slicePlaces ((sIx n 0 lo : Nat) : Int) ((sIx n n hi : Nat) : Int) 1)) _ _ s
  rw [places_gen]
  exact wpAny_pure h
theorem pick_gen (xs : Array Value) (i k : Nat) : ((List.range k).filterMap fun (m : Nat) => xs[((i : Int) + (m : Int) * 1).toNat]?).toArray = ((xs.toList.drop i).take k).toArray := by
  have e : (fun (m : Nat) => xs[((i : Int) + (m : Int) * 1).toNat]?) = fun m => xs[i + m]? := by
    funext m
    have : ((i : Int) + (m : Int) * 1).toNat = i + m := by omega
    rw [this]
  rw [e]
  have := pick_run xs i k
  rw [List.filterMap_map] at this
  have e2 : ((fun x => xs[x]?) ∘ fun x => i + x) = fun m => xs[i + m]? := rfl
  rw [e2] at this
  rw [this]

theorem getItem_tuple_cut {t sl : Addr} {items : Array Value} {vl vu : Value} {lo hi : Option Int} {Q : Value → Shared → Prop} (ht : IsTup s.heap t items) (hs : s.heap.IsSliceOf sl vl vu .none) (pl : IsPart vl lo) (pu : IsPart vu hi)
    (hw : ¬ (sIx items.size 0 lo = 0 ∧ sIx items.size items.size hi = items.size))
    (h : Q (.ref s.heap.objs.size) { s with heap := s.heap.push { cls := .type "tuple", data := .seq ((items.toList.drop (sIx items.size 0 lo)).take (sIx items.size items.size hi - sIx items.size 0 lo)).toArray } })
    (hsz : items.size ≤ sizeLine) : wpAny (model prog w) A (getItem (.ref t) (.ref sl)) Q E s := by
  have htake : sizeOk (.seq ((items.toList.drop (sIx items.size 0 lo)).take (sIx items.size items.size hi - sIx items.size 0 lo)).toArray) := by
    show ((items.toList.drop (sIx items.size 0 lo)).take (sIx items.size items.size hi - sIx items.size 0 lo)).toArray.size ≤ sizeLine
    rw [List.size_toArray, List.length_take, List.length_drop, Array.length_toList]
    omega
  have hj : sIx items.size items.size hi ≤ items.size := sIx_le _ _ (Nat.le_refl _) hi
  obtain ⟨os, hos, hcs, hds⟩ := id hs
  have hTs : s.TypeIs (.ref sl) "slice" := ⟨os, hos, hcs⟩
  unfold getItem
  try with_reducible refine wpAny_holding ?_
  first | refine wpAny_bind (wpAny_pure ?_) | skip
  refine wpAny_bind (wpAny_sequenceKey ht.typeIs (by decide) ?_)
  refine wpAny_bind (wpAny_callSpecial?_slot (name := Str.ofString "__getitem__") ht.typeIs PyProof.Rows.slot_tuple_getitem
    (wpAny_call_entry PyProof.Rows.slot_tuple_getitem ht.typeIs entry_tuple_getitem ?_ (args_tuple_getitem _ _)))
  show wpAny _ _ (Builtin.Tuple.tupleItemsOf (.ref t) >>= _) _ _ s
  refine wpAny_bind (tupleItemsOf_ ht ?_)
  refine wpAny_bind (wpAny_typeOf hTs ?_)
  rw [if_pos (by decide)]
  refine wpAny_bind (sliceApplied_gen hs pl pu ?_)
  have hno : ¬ ((((sIx items.size 0 lo : Nat) : Int) == 0 && (1 : Int) == 1 && (sIx items.size items.size hi - sIx items.size 0 lo) == items.size) = true) := by
    intro q
    rw [Bool.and_eq_true, Bool.and_eq_true] at q
    have q1 : ((sIx items.size 0 lo : Nat) : Int) = 0 := eq_of_beq q.1.1
    have q2 : sIx items.size items.size hi - sIx items.size 0 lo = items.size := eq_of_beq q.2
    exact hw ⟨by omega, by omega⟩
  show wpAny _ _ (if (((sIx items.size 0 lo : Nat) : Int) == 0 && (1 : Int) == 1 && (sIx items.size items.size hi - sIx items.size 0 lo) == items.size) = true then _ else _) _ _ s
  rw [if_neg hno, pick_gen]
  first
    | exact wpAny_bind (m := Builtin.Tuple.tupleExact _) (wpAny_newObj_type (wpAny_pure ⟨_, rfl, wpAny_pure h⟩) htake)
    | exact wpAny_bind (m := Builtin.Tuple.tupleExact _) (wpAny_newObj_type (wpAny_bind (wpAny_pure (wpAny_pure ⟨_, rfl, wpAny_pure h⟩))) htake)
    | exact wpAny_bind (wpAny_bind (m := Builtin.Tuple.tupleExact _) (wpAny_newObj_type (wpAny_pure (wpAny_pure ⟨_, rfl, wpAny_pure h⟩)) htake))
    | exact wpAny_bind (wpAny_bind (m := Builtin.Tuple.tupleExact _) (wpAny_newObj_type (wpAny_pure ⟨_, rfl, wpAny_pure h⟩) htake))
end
end HT

namespace L2
open PySem PySem.Spec PyProof.Rows

/-! ### the parts of a slice -/
abbrev TO := St → Hp → (Option Int → Hp → Prop) → Prop
/-- a slice's part (left out, or an int) -/
def PO (X : Cx) (e : Option Expr) (t : TO) : Prop :=
  ∀ (pins : List (Addr × Obj)) (s : Shared) (σ : St) (H : Hp) (Q : Option Int → Hp → Prop), Inv X pins σ H s → t σ H Q →
    wpAny (model X.prog X.w) X.A (evalPart e X.env) (fun u s' => ∃ o H', Inv X pins σ H' s' ∧ IsPart u o ∧ Q o H') X.xe s
def tNoPart : TO := fun _ H Q => Q none H
def tPart (t : TE) : TO := fun σ H Q => t σ H fun x H1 => ∃ i, x = .int i ∧ Q (some i) H1

theorem intsAre_of {ns : List Int} : ∀ {us : List Value}, Vals (ns.map V.int) us → IntsAre us ns := by
  induction ns with
  | nil => intro us r; rw [List.map_nil] at r; cases r; exact .nil
  | cons n ns ih =>
    intro us r
    rw [List.map_cons] at r
    cases r with
    | cons r1 r2 =>
      obtain ⟨t, e⟩ := r1
      subst e
      exact .cons n t (ih r2)

section
variable {X : Cx} {e : Expr} {te : TE} {lo hi : Option Expr} {tl th : TO} {pos p2 : Pos}

theorem po_none : PO X none tNoPart := by
  intro pins s σ H Q I h
  rw [evalPart_none]
  exact wpAny_pure ⟨none, H, I, .none, h⟩
theorem po_some (h : PE X e te) : PO X (some e) (tPart te) := by
  intro pins s σ H Q I hw
  rw [evalPart_some]
  refine thn (h pins s σ H _ I hw) fun u s1 ⟨x, H1, I1, r1, q1⟩ => ?_
  obtain ⟨i, rfl, q⟩ := q1
  obtain ⟨t, rfl⟩ := r1
  exact ⟨some i, H1, I1, .int i t, q⟩

/-- what a slice of a value is, by values: the slice object stands at sl -/
def SlR (X : Cx) (r : V → Option Int → Option Int → Hp → VK → Prop) : Prop :=
  ∀ (pins : List (Addr × Obj)) (s : Shared) (σ : St) (H : Hp) (x : V) (v vl vu : Value) (lo hi : Option Int) (sl : Addr) (Q : VK), Inv X pins σ H s → RelV x v → s.heap.IsSliceOf sl vl vu .none → IsPart vl lo → IsPart vu hi → r x lo hi H Q →
    ∃ T id, typeLookup (.type T) "__getitem__" = pure (some (.builtin id)) ∧ s.TypeIs v T ∧ wpAny (model X.prog X.w) X.A (getItem v (.ref sl)) (EP X pins σ Q) X.xe s
theorem SlR.or {r r' : V → Option Int → Option Int → Hp → VK → Prop} (h : SlR X r) (h' : SlR X r') : SlR X (fun x lo hi H Q => r x lo hi H Q ∨ r' x lo hi H Q) := by
  intro pins s σ H x v vl vu lo hi sl Q I rx hs pl pu q
  rcases q with q | q
  · exact h pins s σ H x v vl vu lo hi sl Q I rx hs pl pu q
  · exact h' pins s σ H x v vl vu lo hi sl Q I rx hs pl pu q
def tSl (r : V → Option Int → Option Int → Hp → VK → Prop) (te : TE) (tl th : TO) : TE := fun σ H Q => te σ H fun x H1 => tl σ H1 fun l H2 => th σ H2 fun u H3 => r x l u H3 Q
/-- a[lo:hi], any a -/
theorem pe_slice {r : V → Option Int → Option Int → Hp → VK → Prop} (hr : SlR X r) (he : PE X e te) (hl : PO X lo tl) (hu : PO X hi th) : PE X (.Subscript e (.Slice lo hi none p2) pos) (tSl r te tl th) := by
  intro pins s σ H Q I h
  refine Subscript_ (thn (he pins s σ H _ I h) fun v s1 ⟨x, H1, I1, r1, q1⟩ => ?_)
  refine wpAny_Slice (thn (hl pins s1 σ H1 _ I1 q1) fun vl s2 ⟨l, H2, I2, pl, q2⟩ => thn (hu pins s2 σ H2 _ I2 q2) fun vu s3 ⟨u, H3, I3, pu, q3⟩ => ?_)
  rw [evalPart_none]
  refine wpAny_pure ?_
  have I4 : Inv X pins σ H3 { s3 with heap := s3.heap.push { cls := .type "slice", data := .fields #[vl, vu, .none] } } := I3.kept (t' := s3.toks) fun b ob q => Heap.get?_push_of_some _ q
  obtain ⟨T, id, hT, ht, hg⟩ := hr pins { s3 with heap := s3.heap.push { cls := .type "slice", data := .fields #[vl, vu, .none] } } σ H3 x v vl vu l u s3.heap.objs.size Q I4 r1 (Heap.IsSliceOf.new ..) pl pu q3
  show wpAny (model X.prog X.w) X.A (subscriptTail e (.Slice lo hi none p2) v (.ref s3.heap.objs.size)) (EP X pins σ Q) X.xe { s3 with heap := s3.heap.push { cls := .type "slice", data := .fields #[vl, vu, .none] } }
  exact tail_any (ops := [.ref s3.heap.objs.size, v]) ht hT hg (by with_unfolding_all rfl)

/-- the items of xs[lo:hi] -/
def cutV (xs : List V) (lo hi : Option Int) : List V := (xs.drop (HT.sIx xs.length 0 lo)).take (HT.sIx xs.length xs.length hi - HT.sIx xs.length 0 lo)
theorem cutV_length (xs : List V) (lo hi : Option Int) : (cutV xs lo hi).length ≤ xs.length := by
  unfold cutV
  rw [List.length_take, List.length_drop]
  omega
/-- t[lo:hi], not the whole of it (the whole would be t itself) -/
def rSlT (K : PySem.W.Frag) : V → Option Int → Option Int → Hp → VK → Prop := fun x lo hi H Q => ∃ a xs, x = .ref a ∧ SqT K H a xs ∧
  ¬ (HT.sIx xs.length 0 lo = 0 ∧ HT.sIx xs.length xs.length hi = xs.length) ∧ ∀ p, H p = none → Q (.ref p) (upd H p (.tup (cutV xs lo hi)))
theorem sl_tup : SlR X (rSlT X.K) := by
  intro pins s σ H x v vl vu lo hi sl Q I rx hs pl pu h
  obtain ⟨a, xs, rfl, hx, hw, q⟩ := h
  cases rx
  obtain ⟨its, r, ht, hz⟩ := I.tuple hx
  have hlen : its.toArray.size = xs.length := by rw [List.size_toArray]; exact r.length.symm
  refine ⟨"tuple", _, PyProof.Rows.slot_tuple_getitem.lookup, ht.typeIs, ?_⟩
  refine HT.getItem_tuple_cut ht hs pl pu (by rw [hlen]; exact hw) ?_ (by rw [hlen]; exact hz)
  rw [hlen]
  refine ⟨.ref s.heap.objs.size, _, I.laid (t' := s.toks) (o := .tup (cutV xs lo hi)) (fun b ob q => Heap.get?_push_of_some _ q) (Nat.le_refl _) ?_, rfl, q _ (I.hok.fresh (Nat.le_refl _))⟩
  exact ⟨Nat.le_trans (cutV_length xs lo hi) hz, _, (r.drop (HT.sIx xs.length 0 lo)).take (HT.sIx xs.length xs.length hi - HT.sIx xs.length 0 lo), IsTup.new _ _⟩

/-! ### t < u, t + u -/
def rLtT (K : PySem.W.Frag) : R2 := fun x y H Q => ∃ a b ns ms, x = .ref a ∧ y = .ref b ∧ SqT K H a (ns.map V.int) ∧ SqT K H b (ms.map V.int) ∧ Q (.bl (HT.lexLt ns ms)) H
theorem op_ltT (hu : X.A.units < cLine) : OpR X (compareOp .Lt) (rLtT X.K) := by
  intro pins s σ H x y v u Q I rx ry h
  obtain ⟨a, b, ns, ms, rfl, rfl, ha, hb, q⟩ := h
  cases rx
  cases ry
  obtain ⟨its, r1, p1, _⟩ := I.tuple ha
  obtain ⟨its2, r2, p2, _⟩ := I.tuple hb
  have i1 : IntsAre its.toArray.toList ns := intsAre_of r1
  have i2 : IntsAre its2.toArray.toList ms := intsAre_of r2
  exact HT.lt_tupInts p1 p2 i1 i2 hu ⟨.bl (HT.lexLt ns ms), H, I, rfl, q⟩
/-- t + u, t not empty: u empty gives t itself -/
def rCatT (K : PySem.W.Frag) : R2 := fun x y H Q => ∃ a b xs ys, x = .ref a ∧ y = .ref b ∧ SqT K H a xs ∧ SqT K H b ys ∧ xs ≠ [] ∧ xs.length + ys.length ≤ sizeLine ∧
  (ys = [] → Q (.ref a) H) ∧ (ys ≠ [] → ∀ p, H p = none → Q (.ref p) (upd H p (.tup (xs ++ ys))))
theorem Vals.nil_iff {xs : List V} {us : List Value} (r : Vals xs us) : us = [] ↔ xs = [] := by
  cases r with
  | nil => simp
  | cons _ _ => simp
theorem op_catT : OpR X (binaryOp .Add) (rCatT X.K) := by
  intro pins s σ H x y v u Q I rx ry h
  obtain ⟨a, b, xs, ys, rfl, rfl, ha, hb, hx, hz, q1, q2⟩ := h
  cases rx
  cases ry
  obtain ⟨its, r1, p1, _⟩ := I.tuple ha
  obtain ⟨its2, r2, p2, _⟩ := I.tuple hb
  refine HT.cat_tup p1 p2 (fun z => hx (r1.nil_iff.mp z)) (fun z => ⟨.ref a, H, I, rfl, q1 (r2.nil_iff.mp z)⟩) (fun z => ?_) (by rw [← r1.length, ← r2.length]; exact hz)
  refine ⟨.ref s.heap.objs.size, _, I.laid (t' := s.toks) (o := .tup (xs ++ ys)) (fun b ob q => Heap.get?_push_of_some _ q) (Nat.le_refl _) ?_, rfl, q2 (fun w => z (r2.nil_iff.mpr w)) _ (I.hok.fresh (Nat.le_refl _))⟩
  exact ⟨by rw [List.length_append]; exact hz, _, r1.append r2, IsTup.new _ _⟩
/-- tuple(t) -/
theorem call_tupleT : CallR X (.type "tuple") (fun xs H Q => ∃ a ys, xs = [.ref a] ∧ SqT X.K H a ys ∧ Q (.ref a) H) := by
  intro pins s σ H xs us Q I r h
  obtain ⟨a, ys, rfl, ha, q⟩ := h
  obtain ⟨u, rfl, ru⟩ := vals1 r
  cases ru
  obtain ⟨its, _, p1, _⟩ := I.tuple ha
  exact call_tuple_same (items := its.toArray) p1 ⟨.ref a, H, I, rfl, q⟩
end
end L2

namespace L2
open PySem PySem.Spec PyProof.Rows

/-! ### places -/
/-- the place that an index of any sign means -/
def ixN (n : Nat) (i : Int) : Option Nat := if 0 ≤ i then (if i < n then some i.toNat else none) else if -(n : Int) ≤ i then some (i + n).toNat else none
def atI {α : Type} (xs : List α) (i : Int) : Option α := (ixN xs.length i).bind fun j => xs[j]?
theorem ixN_seq {n : Nat} {i : Int} {j : Nat} (h : ixN n i = some j) : seqIndex? i n = some j ∧ j < n ∧ -(n : Int) ≤ i ∧ i < n := by
  unfold ixN at h
  by_cases h0 : 0 ≤ i
  · rw [if_pos h0] at h
    by_cases h1 : i < n
    · rw [if_pos h1] at h
      have e : i.toNat = j := Option.some.inj h
      exact ⟨by rw [seqIndex_of h0 h1, e], by omega, by omega, h1⟩
    · rw [if_neg h1] at h; cases h
  · rw [if_neg h0] at h
    by_cases h1 : -(n : Int) ≤ i
    · rw [if_pos h1] at h
      have e : (i + n).toNat = j := Option.some.inj h
      exact ⟨by rw [seqIndex_neg (by omega) h1, e], by omega, h1, by omega⟩
    · rw [if_neg h1] at h; cases h
theorem atI_get {α : Type} {xs : List α} {i : Int} {v : α} (h : atI xs i = some v) : ∃ j, seqIndex? i xs.length = some j ∧ xs[j]? = some v ∧ j < xs.length ∧ -(xs.length : Int) ≤ i ∧ i < xs.length := by
  unfold atI at h
  cases e : ixN xs.length i with
  | none => rw [e] at h; cases h
  | some j =>
    rw [e] at h
    obtain ⟨h1, h2, h3, h4⟩ := ixN_seq e
    exact ⟨j, h1, h, h2, h3, h4⟩
theorem atI_nat {α : Type} {xs : List α} {j : Nat} {v : α} (h : xs[j]? = some v) : atI xs (j : Int) = some v := by
  have hj : j < xs.length := (List.getElem?_eq_some_iff.mp h).1
  have e : ixN xs.length (j : Int) = some j := by
    unfold ixN
    rw [if_pos (by omega), if_pos (by omega)]; simp
  unfold atI; rw [e]; exact h
theorem atI_last {α : Type} (xs : List α) (v : α) : atI (xs ++ [v]) (-1) = some v := by
  have hl : (xs ++ [v]).length = xs.length + 1 := by simp
  have e : ixN (xs ++ [v]).length (-1) = some xs.length := by
    unfold ixN
    rw [hl, if_neg (by decide), if_pos (by omega)]
    congr 1
    omega
  unfold atI
  rw [e]
  show (xs ++ [v])[xs.length]? = some v
  simp

/-! ### what may be subscripted -/
/-- what stands as an index of a plain subscript -/
def PlainIx (b : Expr) : Prop := ∀ o i, subscripted b false o i = operate [o, i] (getItem o i)
/-- a subscript by values -/
def IxR (X : Cx) (r : R2) : Prop :=
  ∀ (value slice : Expr) (pins : List (Addr × Obj)) (s : Shared) (σ : St) (H : Hp) (x y : V) (v u : Value) (Q : VK), Inv X pins σ H s → RelV x v → RelV y u → r x y H Q →
    subscripted slice false v u = operate [v, u] (getItem v u) → wpAny (model X.prog X.w) X.A (subscriptTail value slice v u) (EP X pins σ Q) X.xe s
/-- a call of a builtin's method by values: the receiver, the arguments -/
def MtR (X : Cx) (id : String) (r : V → List V → Hp → VK → Prop) : Prop :=
  ∀ (pins : List (Addr × Obj)) (s : Shared) (σ : St) (H : Hp) (x : V) (xs : List V) (v : Value) (us : List Value) (Q : VK), Inv X pins σ H s → RelV x v → Vals xs us → r x xs H Q →
    wpAny (model X.prog X.w) X.A (call (.builtin id) (v :: us)) (EP X pins σ Q) X.xe s
section
variable {X : Cx} {a b : Expr} {ta tb : TE} {pos : Pos}
theorem IxR.or {r r' : R2} (h : IxR X r) (h' : IxR X r') : IxR X (fun x y H Q => r x y H Q ∨ r' x y H Q) := by
  intro value slice pins s σ H x y v u Q I rx ry q hs
  rcases q with q | q
  · exact h value slice pins s σ H x y v u Q I rx ry q hs
  · exact h' value slice pins s σ H x y v u Q I rx ry q hs
theorem MtR.or {id : String} {r r' : V → List V → Hp → VK → Prop} (h : MtR X id r) (h' : MtR X id r') : MtR X id (fun x xs H Q => r x xs H Q ∨ r' x xs H Q) := by
  intro pins s σ H x xs v us Q I rx rs q
  rcases q with q | q
  · exact h pins s σ H x xs v us Q I rx rs q
  · exact h' pins s σ H x xs v us Q I rx rs q
/-- a[b] -/
theorem pe_ix {r : R2} (hr : IxR X r) (ha : PE X a ta) (hb : PE X b tb) (hs : PlainIx b) : PE X (.Subscript a b pos) (tOp r ta tb) := by
  intro pins s σ H Q I h
  exact Subscript_ (binT ha hb I h fun v u s2 x y H2 I2 rx ry q => hr a b pins s2 σ H2 x y v u Q I2 rx ry q (hs _ _))

def rIxL (K : PySem.W.Frag) : R2 := fun x y H Q => ∃ p xs i v, x = .ref p ∧ y = .int i ∧ SqL K H p xs ∧ atI xs i = some v ∧ Q v H
def rIxT (K : PySem.W.Frag) : R2 := fun x y H Q => ∃ p xs i v, x = .ref p ∧ y = .int i ∧ SqT K H p xs ∧ atI xs i = some v ∧ Q v H
def rIxS : R2 := fun x y H Q => ∃ z i c, x = .str z ∧ y = .int i ∧ z.length ≤ sizeLine ∧ atI z.cps.toList i = some c ∧ Q (.str ⟨#[c]⟩) H
theorem ix_list : IxR X (rIxL X.K) := by
  intro value slice pins s σ H x y v u Q I rx ry h hs
  obtain ⟨p, xs, i, z, rfl, rfl, hq, he, q⟩ := h
  cases rx
  obtain ⟨t, rfl⟩ := ry
  obtain ⟨its, r, pl, hz⟩ := I.list hq
  obtain ⟨j, h1, h2, h3, h4, h5⟩ := atI_get he
  obtain ⟨w, ew, rw'⟩ := r.get h2
  have hl := r.length
  have hn := line63
  have fin : EP X pins σ Q w s := ⟨z, H, I, rw', q⟩
  by_cases h0 : 0 ≤ i
  · have hj : i.toNat = j := by
      rw [seqIndex_of h0 h5] at h1
      exact Option.some.inj h1
    exact item_listR pl.isList h0 (by omega) (by rw [hj]; simpa using ew) fin hs
  · have hj : (i + (its.toArray.size : Int)).toNat = j := by
      rw [seqIndex_neg (by omega) h4] at h1
      rw [List.size_toArray, ← hl]
      exact Option.some.inj h1
    exact subscriptTail_builtinR (x := w) pl.isList.typeIs slot_list_getitem.lookup
      (wpAny_getItem_list_neg (Q := fun r s' => r = w ∧ EP X pins σ Q r s') pl.isList (by omega) (by rw [List.size_toArray] <;> omega) (by omega) (by rw [hj]; simpa using ew) ⟨rfl, fin⟩) hs
theorem ix_tup : IxR X (rIxT X.K) := by
  intro value slice pins s σ H x y v u Q I rx ry h hs
  obtain ⟨p, xs, i, z, rfl, rfl, hq, he, q⟩ := h
  cases rx
  obtain ⟨t, rfl⟩ := ry
  obtain ⟨its, r, pl, hz⟩ := I.tuple hq
  obtain ⟨j, h1, h2, h3, h4, h5⟩ := atI_get he
  obtain ⟨w, ew, rw'⟩ := r.get h2
  have hl := r.length
  have hn := line63
  have fin : EP X pins σ Q w s := ⟨z, H, I, rw', q⟩
  exact subscriptTail_builtinR (x := w) pl.typeIs slot_tuple_getitem.lookup
    (getItem_tuple (j := j) (Q := fun r s' => r = w ∧ EP X pins σ Q r s') pl (by omega) (by omega) (by rw [List.size_toArray, ← hl]; exact h1) (by simpa using ew) ⟨rfl, fin⟩) hs
theorem ix_str : IxR X rIxS := by
  intro value slice pins s σ H x y v u Q I rx ry h hs
  obtain ⟨z, i, c, rfl, rfl, hz, he, q⟩ := h
  obtain ⟨t, rfl⟩ := rx
  obtain ⟨t', rfl⟩ := ry
  obtain ⟨j, h1, h2, h3, h4, h5⟩ := atI_get he
  have hl : z.cps.toList.length = z.length := by simp [Str.length]
  rw [hl] at h1 h4 h5
  have hn := line63
  exact tail_any (typeIs_str s z t) slot_str_getitem.lookup (getItem_str (c := c) (by
    have e1 : decide (i < -(2 ^ 63 : Int)) = false := decide_eq_false (by omega)
    have e2 : decide (i ≥ 2 ^ 63) = false := decide_eq_false (by omega)
    rw [e1, e2, Bool.or_false]) (by rw [h1]; simpa using h2) ⟨.str ⟨#[c]⟩, H, I.tok _, ⟨_, rfl⟩, q⟩) hs
/-- list, tuple or str -/
def rIx (K : PySem.W.Frag) : R2 := fun x y H Q => rIxL K x y H Q ∨ rIxT K x y H Q ∨ rIxS x y H Q
theorem ix_seq : IxR X (rIx X.K) := ix_list.or (ix_tup.or ix_str)

/-! ### xs[i] = v, any sign -/
/-- the list's object behind a store -/
theorem mapSeq_set (its : List Value) (n j : Nat) (u : Value) : Obj.mapSeq (·.setIfInBounds j u) { cls := .type "list", data := .seq its.toArray n } = { cls := .type "list", data := .seq (its.set j u).toArray n } := by
  simp [Obj.mapSeq]
theorem Inv.lst {pins : List (Addr × Obj)} {σ : St} {H : Hp} {s : Shared} {p : Addr} {xs : List V} (I : Inv X pins σ H s) (h : H p = some (.lst xs)) :
    ∃ (its : List Value) (n : Nat), Vals xs its ∧ s.heap.get? p = some { cls := .type "list", data := .seq its.toArray n } ∧ xs.length ≤ sizeLine := by
  obtain ⟨z, its, n, r, e⟩ := I.hok p _ h
  exact ⟨its, n, r, e, z⟩
/-- the list at p is written by an update of its object -/
theorem Inv.lstUpd {pins : List (Addr × Obj)} {σ : St} {H : Hp} {s : Shared} {p : Addr} {xs ys : List V} {its its' : List Value} {n n' : Nat} {f : Obj → Obj} (I : Inv X pins σ H s) (h : H p = some (.lst xs))
    (ho : s.heap.get? p = some { cls := .type "list", data := .seq its.toArray n }) (hf : f { cls := .type "list", data := .seq its.toArray n } = { cls := .type "list", data := .seq its'.toArray n' }) (r : Vals ys its') (hz : ys.length ≤ sizeLine) (t : Nat) :
    Inv X pins σ (upd H p (.lst ys)) { s with heap := s.heap.update p f, toks := t } := by
  have e : (s.heap.update p f).get? p = some { cls := .type "list", data := .seq its'.toArray n' } := by
    rw [Heap.get?_update_self f ho (by rw [hf] <;> rfl), hf]
  refine I.write (x := p) (e := p) (by rw [h]; trivial) (.inl rfl) (fun b u hb q => (Heap.get?_update_other _ _ (Ne.symm hb)).trans q) ⟨_, e⟩ ?_
  exact ⟨hz, its', n', r, e⟩
def rSetL : V → V → V → Hp → (Hp → Prop) → Prop := fun o i v H Q => ∃ p xs k j, o = .ref p ∧ i = .int k ∧ H p = some (.lst xs) ∧ ixN xs.length k = some j ∧ Q (upd H p (.lst (xs.set j v)))
theorem set_list : PSet X rSetL := by
  intro pins s σ H o i v ov iv u Q I ro ri rv h
  obtain ⟨p, xs, k, j, rfl, rfl, hp, hj, q⟩ := h
  cases ro
  obtain ⟨t, rfl⟩ := ri
  obtain ⟨its, n, r, ho, hz⟩ := I.lst hp
  obtain ⟨h1, h2, h3, h4⟩ := ixN_seq hj
  have hl := r.length
  have hn := line63
  have I' : Inv X pins σ (upd H p (.lst (xs.set j v))) { s with heap := s.heap.update p (Obj.mapSeq (·.setIfInBounds j u)) } :=
    I.lstUpd hp ho (mapSeq_set its n j u) (r.set rv j) (by rw [List.length_set]; exact hz) s.toks
  by_cases h0 : 0 ≤ k
  · have hk : k.toNat = j := by
      rw [seqIndex_of h0 h4] at h1
      exact Option.some.inj h1
    exact PySem.W.ki_setAt ho h0 (by omega) (by rw [List.size_toArray, ← hl]; exact h4) (by rw [hk]; exact ⟨_, I', q⟩)
  · have hk : (k + (its.toArray.size : Int)).toNat = j := by
      rw [seqIndex_neg (by omega) h3] at h1
      rw [List.size_toArray, ← hl]
      exact Option.some.inj h1
    exact PySem.W.ki_setBack ho (by omega) (by rw [List.size_toArray, ← hl]; exact h3) (by omega) (by rw [hk]; exact ⟨_, I', q⟩)

/-! ### slices -/
theorem slice_bounds (lo hi : Option Int) (n : Nat) : (sliceBounds lo hi none n).1 = ((HT.sIx n 0 lo : Nat) : Int) ∧ (sliceBounds lo hi none n).2.1 = ((HT.sIx n n hi : Nat) : Int) ∧ (sliceBounds lo hi none n).2.2 = 1 := by
  refine ⟨?_, ?_, rfl⟩
  · cases lo with
    | none => simp [sliceBounds, HT.sIx]
    | some i =>
      simp only [sliceBounds, HT.sIx, Option.getD_none, show (1 : Int) > 0 by decide, if_true]
      by_cases h : i < 0
      · simp only [h, if_true] <;> omega
      · simp only [h, if_false] <;> omega
  · cases hi with
    | none => simp [sliceBounds, HT.sIx]
    | some i =>
      simp only [sliceBounds, HT.sIx, Option.getD_none, show (1 : Int) > 0 by decide, if_true]
      by_cases h : i < 0
      · simp only [h, if_true] <;> omega
      · simp only [h, if_false] <;> omega
theorem slicePick_cut (its : List Value) (lo hi : Option Int) : slicePick its.toArray lo hi none = ((its.drop (HT.sIx its.length 0 lo)).take (HT.sIx its.length its.length hi - HT.sIx its.length 0 lo)).toArray := by
  obtain ⟨h1, h2, h3⟩ := slice_bounds lo hi its.toArray.size
  unfold slicePick
  rw [h1, h2, h3]
  simp only [sliceRange_one, pick_run, List.size_toArray] <;> rfl
/-- xs[lo:hi] of a list: a new list -/
def rSlL (K : PySem.W.Frag) : V → Option Int → Option Int → Hp → VK → Prop := fun x lo hi H Q => ∃ a xs, x = .ref a ∧ SqL K H a xs ∧ ∀ p, H p = none → Q (.ref p) (upd H p (.lst (cutV xs lo hi)))
theorem sl_list : SlR X (rSlL X.K) := by
  intro pins s σ H x v vl vu lo hi sl Q I rx hs pl pu h
  obtain ⟨a, xs, rfl, hx, q⟩ := h
  cases rx
  obtain ⟨its, r, ht, hz⟩ := I.list hx
  have hlen := r.length
  refine ⟨"list", _, slot_list_getitem.lookup, ht.isList.typeIs, ?_⟩
  refine wpAny_getItem_list_slice ht.isList hs pl pu .none (by simp) ?_ (by rw [List.size_toArray] <;> omega)
  rw [slicePick_cut, ← hlen]
  refine ⟨.ref s.heap.objs.size, _, I.laid (t' := s.toks) (o := .lst (cutV xs lo hi)) (fun b ob q => Heap.get?_push_of_some _ q) (Nat.le_refl _) ?_, rfl, q _ (I.hok.fresh (Nat.le_refl _))⟩
  exact ⟨Nat.le_trans (cutV_length xs lo hi) hz, _, 0, (r.drop (HT.sIx xs.length 0 lo)).take (HT.sIx xs.length xs.length hi - HT.sIx xs.length 0 lo), Heap.get?_push_size _ rfl⟩

/-! ### in, not in: flat items -/
def flatV : V → Bool
  | .non => true
  | .bl _ => true
  | .int _ => true
  | .str _ => true
  | _ => false
/-- == of flat values -/
def eqV : V → V → Bool
  | .non, .non => true
  | .bl a, .bl b => a == b
  | .bl a, .int b => (if a then 1 else 0) == b
  | .int a, .bl b => a == (if b then 1 else 0)
  | .int a, .int b => a == b
  | .str a, .str b => a == b
  | _, _ => false
theorem eqAt_V {A : Around} {s : Shared} {y x : V} {u v : Value} (ry : RelV y u) (rx : RelV x v) (fy : flatV y = true) (fx : flatV x = true) : SeqAt.EqAt A s u v (eqV y x) := by
  cases y with
  | non =>
    cases ry
    cases x with
    | non => cases rx; exact SeqAt.EqAt.same _
    | bl b => cases rx; exact SeqAt.EqAt.none_bool b
    | int b => obtain ⟨t, rfl⟩ := rx; exact SeqAt.EqAt.none_int b t
    | str b => obtain ⟨t, rfl⟩ := rx; exact SeqAt.EqAt.none_str b t
    | _ => exact absurd (show false = true from fx) Bool.false_ne_true
  | bl a =>
    cases ry
    cases x with
    | non => cases rx; exact SeqAt.EqAt.bool_none a
    | bl b => cases rx; exact SeqAt.EqAt.bool_bool a b
    | int b => obtain ⟨t, rfl⟩ := rx; exact SeqAt.EqAt.bool_int a b t
    | str b => obtain ⟨t, rfl⟩ := rx; exact SeqAt.EqAt.bool_str a b t
    | _ => exact absurd (show false = true from fx) Bool.false_ne_true
  | int a =>
    obtain ⟨t', rfl⟩ := ry
    cases x with
    | non => cases rx; exact SeqAt.EqAt.int_none a t'
    | bl b => cases rx; exact SeqAt.EqAt.int_bool a t' b
    | int b => obtain ⟨t, rfl⟩ := rx; exact SeqAt.EqAt.int_int a t' b t
    | str b => obtain ⟨t, rfl⟩ := rx; exact SeqAt.EqAt.int_str a t' b t
    | _ => exact absurd (show false = true from fx) Bool.false_ne_true
  | str a =>
    obtain ⟨t', rfl⟩ := ry
    cases x with
    | non => cases rx; exact SeqAt.EqAt.str_none a t'
    | bl b => cases rx; exact SeqAt.EqAt.str_bool a t' b
    | int b => obtain ⟨t, rfl⟩ := rx; exact SeqAt.EqAt.str_int a t' b t
    | str b => obtain ⟨t, rfl⟩ := rx; exact SeqAt.EqAt.str_str a t' b t
    | _ => exact absurd (show false = true from fx) Bool.false_ne_true
  | _ => exact absurd (show false = true from fy) Bool.false_ne_true
/-- the items' answers, read off the values (a value's own answer does not lean on its token) -/
def eqU (x : V) (u : Value) : Bool := match u with
  | .none => eqV .non x
  | .bool b => eqV (.bl b) x
  | .int i _ => eqV (.int i) x
  | .str z _ => eqV (.str z) x
  | _ => false
theorem eqU_of {x y : V} {u : Value} (r : RelV y u) (f : flatV y = true) : eqU x u = eqV y x := by
  cases y with
  | non => cases r; rfl
  | bl b => cases r; rfl
  | int i => obtain ⟨t, rfl⟩ := r; rfl
  | str z => obtain ⟨t, rfl⟩ := r; rfl
  | _ => exact absurd (show false = true from f) Bool.false_ne_true
theorem any_eqU {x : V} : ∀ {xs : List V} {us : List Value}, Vals xs us → xs.all flatV = true → us.any (eqU x) = xs.any fun y => eqV y x
  | _, _, .nil, _ => rfl
  | y :: xs, u :: us, .cons r t, f => by
    rw [List.all_cons, Bool.and_eq_true] at f
    rw [List.any_cons, List.any_cons, eqU_of r f.1, any_eqU t f.2]
theorem mem_eqAt {A : Around} {s : Shared} {x : V} {v : Value} (rx : RelV x v) (fx : flatV x = true) : ∀ {xs : List V} {us : List Value}, Vals xs us → xs.all flatV = true → ∀ u ∈ us, SeqAt.EqAt A s u v (eqU x u)
  | _, _, .nil, _ => fun u hu => by cases hu
  | y :: xs, u :: us, .cons r t, f => fun u' hu => by
    rw [List.all_cons, Bool.and_eq_true] at f
    rcases List.mem_cons.mp hu with rfl | hu
    · rw [eqU_of r f.1]; exact eqAt_V r rx f.1 fx
    · exact mem_eqAt rx fx t f.2 u' hu
def inV (x : V) (xs : List V) : Bool := xs.any fun y => eqV y x
/-- x in a list or tuple of flat items -/
def rIn (K : PySem.W.Frag) (neg : Bool) : R2 := fun x y H Q => ∃ p xs, y = .ref p ∧ (SqL K H p xs ∨ SqT K H p xs) ∧ flatV x = true ∧ xs.all flatV = true ∧ Q (.bl (if neg then !inV x xs else inV x xs)) H
theorem op_in_seq : OpR X (compareOp .In) (rIn X.K false) := by
  intro pins s σ H x y v u Q I rx ry h
  obtain ⟨p, xs, rfl, hq, fx, fs, q⟩ := h
  cases ry
  rcases hq with hq | hq
  · obtain ⟨its, r, pl, hz⟩ := I.list hq
    refine SeqAt.in_listAt (eqU x) pl.isList (fun w hw => mem_eqAt rx fx r fs w (by simpa using hw)) ⟨.bl _, H, I, rfl, ?_⟩
    rw [show its.toArray.any (eqU x) = its.any (eqU x) by simp, any_eqU r fs]
    exact q
  · obtain ⟨its, r, pl, hz⟩ := I.tuple hq
    refine SeqAt.in_tupleAt (eqU x) pl (fun w hw => mem_eqAt rx fx r fs w (by simpa using hw)) ⟨.bl _, H, I, rfl, ?_⟩
    rw [show its.toArray.any (eqU x) = its.any (eqU x) by simp, any_eqU r fs]
    exact q
theorem op_notIn_seq : OpR X (compareOp .NotIn) (rIn X.K true) := by
  intro pins s σ H x y v u Q I rx ry h
  obtain ⟨p, xs, rfl, hq, fx, fs, q⟩ := h
  cases ry
  rcases hq with hq | hq
  · obtain ⟨its, r, pl, hz⟩ := I.list hq
    refine SeqAt.notIn_listAt (eqU x) pl.isList (fun w hw => mem_eqAt rx fx r fs w (by simpa using hw)) ⟨.bl _, H, I, rfl, ?_⟩
    rw [show its.toArray.any (eqU x) = its.any (eqU x) by simp, any_eqU r fs]
    exact q
  · obtain ⟨its, r, pl, hz⟩ := I.tuple hq
    refine SeqAt.notIn_tupleAt (eqU x) pl (fun w hw => mem_eqAt rx fx r fs w (by simpa using hw)) ⟨.bl _, H, I, rfl, ?_⟩
    rw [show its.toArray.any (eqU x) = its.any (eqU x) by simp, any_eqU r fs]
    exact q
theorem op_notIn_str : OpR X (compareOp .NotIn) (fun x y H Q => ∃ i j, x = .str i ∧ y = .str j ∧ Q (.bl (!(!(Builtin.Str.occurrences j i 0 j.length 1).isEmpty))) H) := by
  intro pins s σ H x y v u Q I rx ry h
  obtain ⟨i, j, rfl, rfl, q⟩ := h
  obtain ⟨t, rfl⟩ := rx
  obtain ⟨t', rfl⟩ := ry
  exact notIn_str ⟨.bl _, H, I, rfl, q⟩

/-! ### len, list(x), tuple(x) of any list or tuple that is read -/
theorem call_len_seq : CallR X (.builtin "len") (fun xs H Q => ∃ p ys, xs = [.ref p] ∧ (SqL X.K H p ys ∨ SqT X.K H p ys) ∧ Q (.int ys.length) H) := by
  intro pins s σ H xs us Q I r h
  obtain ⟨p, ys, rfl, hq, q⟩ := h
  obtain ⟨u, rfl, rx⟩ := vals1 r
  cases rx
  have hn := line63
  rcases hq with hq | hq
  · obtain ⟨its, r', pl, hz⟩ := I.list hq
    have hlen := r'.length
    exact Calls.call_len_list pl.isList (by simp only [List.size_toArray] <;> omega) ⟨.int ys.length, H, I.tok _, ⟨s.toks + 1, by rw [List.size_toArray, hlen]⟩, q⟩
  · obtain ⟨its, r', pl, hz⟩ := I.tuple hq
    have hlen := r'.length
    exact len_tuple pl (by simp only [List.size_toArray] <;> omega) ⟨.int ys.length, H, I.tok _, ⟨s.toks + 1, by rw [List.size_toArray, hlen]⟩, q⟩
theorem call_len_str : CallR X (.builtin "len") (fun xs H Q => ∃ z, xs = [.str z] ∧ z.length ≤ sizeLine ∧ Q (.int z.length) H) := by
  intro pins s σ H xs us Q I r h
  obtain ⟨z, rfl, hz, q⟩ := h
  obtain ⟨u, rfl, t, rfl⟩ := vals1 r
  have hn := line63
  exact len_str (by omega) ⟨.int z.length, H, I.tok _, ⟨_, rfl⟩, q⟩
theorem CallR.or {f : Value} {r r' : List V → Hp → VK → Prop} (h : CallR X f r) (h' : CallR X f r') : CallR X f (fun xs H Q => r xs H Q ∨ r' xs H Q) := by
  intro pins s σ H xs us Q I rs q
  rcases q with q | q
  · exact h pins s σ H xs us Q I rs q
  · exact h' pins s σ H xs us Q I rs q
theorem call_list_of : CallR X (.type "list") (fun xs H Q => ∃ p ys, xs = [.ref p] ∧ (SqL X.K H p ys ∨ SqT X.K H p ys) ∧ ∀ l, H l = none → Q (.ref l) (upd H l (.lst ys))) := by
  intro pins s σ H xs us Q I r h
  obtain ⟨p, ys, rfl, hq, q⟩ := h
  obtain ⟨u, rfl, rx⟩ := vals1 r
  cases rx
  have fin : ∀ (its : List Value), Vals ys its → ys.length ≤ sizeLine → ∀ (h' : Heap) (c' : Nat), (∀ b o', s.heap.get? b = some o' → h'.get? b = some o') →
      h'.get? s.heap.objs.size = some { cls := .type "list", dict := none, data := .seq its.toArray c', slots := #[] } → EP X pins σ Q (.ref s.heap.objs.size) { s with heap := h' } := fun its r' hz h' c' kp e =>
    ⟨.ref s.heap.objs.size, _, I.laid (t' := s.toks) kp (Nat.le_refl _) (show ObjOk X.prog X.w _ h' _ (.lst ys) from ⟨hz, its, c', r', e⟩), rfl, q _ (I.hok.fresh (Nat.le_refl _))⟩
  rcases hq with hq | hq
  · obtain ⟨its, r', pl, hz⟩ := I.list hq
    have hlen := r'.length
    obtain ⟨o, ho, hc, n, hd⟩ := pl.isList
    exact call_list_seq p (.inl rfl) ho hc hd (fun h' c' kp e => fin its r' hz h' c' kp e) (by simp only [List.size_toArray] <;> omega)
  · obtain ⟨its, r', pl, hz⟩ := I.tuple hq
    have hlen := r'.length
    obtain ⟨o, ho, hc, n, hd⟩ := pl
    exact call_list_seq p (.inr rfl) ho hc hd (fun h' c' kp e => fin its r' hz h' c' kp e) (by simp only [List.size_toArray] <;> omega)
theorem call_tuple_of : CallR X (.type "tuple") (fun xs H Q => ∃ p ys, xs = [.ref p] ∧ ((SqL X.K H p ys ∧ ∀ l, H l = none → Q (.ref l) (upd H l (.tup ys))) ∨ (SqT X.K H p ys ∧ Q (.ref p) H))) := by
  intro pins s σ H xs us Q I r h
  obtain ⟨p, ys, rfl, h⟩ := h
  obtain ⟨u, rfl, rx⟩ := vals1 r
  cases rx
  rcases h with ⟨hq, q⟩ | ⟨hq, q⟩
  · obtain ⟨its, r', pl, hz⟩ := I.list hq
    have hlen := r'.length
    refine call_tuple_list pl.isList (fun h' kp => ?_) (by simp only [List.size_toArray] <;> omega)
    have I1 : Inv X pins σ H { s with heap := h' } := I.kept (t' := s.toks) kp
    have I2 : Inv X pins σ (upd H h'.objs.size (.tup ys)) { s with heap := h'.push { cls := .type "tuple", data := .seq its.toArray } } :=
      I1.laid (t' := s.toks) (fun b o e => Heap.get?_push_of_some _ e) (Nat.le_refl _) (show ObjOk X.prog X.w _ _ _ (.tup ys) from ⟨hz, its, r', IsTup.new _ _⟩)
    exact ⟨.ref h'.objs.size, _, I2, rfl, q _ (I1.hok.fresh (Nat.le_refl _))⟩
  · obtain ⟨its, r', pl, hz⟩ := I.tuple hq
    exact call_tuple_same pl ⟨.ref p, H, I, rfl, q⟩

/-! ### the call of a builtin's method: o.m(..) -/
/-- the value is of that builtin type -/
def tyV (K : PySem.W.Frag) (T : String) (x : V) (H : Hp) : Prop := match x with
  | .str _ => T = "str"
  | .int _ => T = "int"
  | .ref p => (T = "list" ∧ ∃ xs, SqL K H p xs) ∨ (T = "tuple" ∧ ∃ o, K.lookup p = some o ∧ o.cls = .type "tuple" ∧ o.dict = none) ∨
      (T = "dict" ∧ ((∃ kvs, H p = some (.dK kvs)) ∨ ∃ kvs, H p = some (.dT kvs))) ∨ (T = "set" ∧ ∃ S n, H p = some (.set S n))
  | _ => False
theorem tyV_is {pins : List (Addr × Obj)} {σ : St} {H : Hp} {s : Shared} {T : String} {x : V} {v : Value} (I : Inv X pins σ H s) (r : RelV x v) (ty : tyV X.K T x H) :
    s.TypeIs v T ∧ ∀ a, v = .ref a → ∃ ob, s.heap.get? a = some ob ∧ ob.dict = none := by
  cases x with
  | str z =>
    obtain ⟨t, rfl⟩ := r
    cases (show T = "str" from ty)
    exact ⟨typeIs_str s z t, fun _ e => nomatch e⟩
  | int i =>
    obtain ⟨t, rfl⟩ := r
    cases (show T = "int" from ty)
    exact ⟨typeIs_int s i t, fun _ e => nomatch e⟩
  | ref p =>
    cases r
    rcases ty with ⟨rfl, xs, hq⟩ | ⟨rfl, o, hk, hc, hd⟩ | ⟨rfl, hk⟩ | ⟨rfl, S, n, hk⟩
    · obtain ⟨its, _, pl, _⟩ := I.list hq
      refine ⟨pl.isList.typeIs, fun a e => ?_⟩
      cases e
      obtain ⟨o, n, e, c, hd, _⟩ := pl
      exact ⟨o, e, hd⟩
    · refine ⟨⟨o, I.kIn p o hk, hc⟩, fun a e => ?_⟩
      cases e
      exact ⟨o, I.kIn _ o hk, hd⟩
    · have z : ∃ o, s.heap.get? p = some o ∧ o.ExactDict := by
        rcases hk with ⟨kvs, hk⟩ | ⟨kvs, hk⟩
        · obtain ⟨_, _, _, _, o, _, _, e, ex, _⟩ := I.hok p _ hk
          exact ⟨o, e, ex⟩
        · obtain ⟨_, _, _, _, o, _, _, e, ex, _⟩ := I.hok p _ hk
          exact ⟨o, e, ex⟩
      obtain ⟨o, e, ex⟩ := z
      refine ⟨⟨o, e, ex.1⟩, fun a e2 => ?_⟩
      cases e2
      exact ⟨o, e, ex.2.1⟩
    · obtain ⟨o, _, _, _, e, ex, _⟩ := I.hok p _ hk
      refine ⟨⟨o, e, ex.1⟩, fun a e2 => ?_⟩
      cases e2
      exact ⟨o, e, ex.2.1⟩
  | _ => exact False.elim ty
def tBM0 (K : PySem.W.Frag) (T : String) (r : V → List V → Hp → VK → Prop) (to : TE) : TE := fun σ H Q => to σ H fun x H1 => tyV K T x H1 ∧ r x [] H1 Q
def tBM (K : PySem.W.Frag) (T : String) (r : V → List V → Hp → VK → Prop) (to : TE) (t : TA) : TE := fun σ H Q => to σ H fun x H1 => tyV K T x H1 ∧ t σ H1 fun xs H2 => r x xs H2 Q
variable {o e : Expr} {es : List Expr} {to : TE} {t : TA} {name : Str} {apos cpos : Pos} {T id : String} {r : V → List V → Hp → VK → Prop}
theorem pe_bm0 (pa : PlainAttrs T) (slot : Slot T name id) (hty : typeOf (.builtin id) = pure (.type "method_descriptor")) (hm : MtR X id r) (ho : PE X o to)
    (hbase : attributeBase o name X.env (eval o X.env) = eval o X.env := by rfl) (hline : (apos.endLine == cpos.line) = true := by rfl) : PE X (.Call (.Attribute o name apos) [] [] cpos) (tBM0 X.K T r to) := by
  intro pins s σ H Q I h
  refine wpAny_Call_method0_late hbase hline (thn (ho pins s σ H _ I h) fun v s1 ⟨x, H1, I1, r1, ty, q1⟩ => ?_)
  obtain ⟨h1, h2⟩ := tyV_is I1 r1 ty
  exact ⟨T, id, pa, slot, hty, h1, h2, Calls.callWith_builtin rfl (PySem.evalArgs_none (hm pins s1 σ H1 x [] v [] Q I1 r1 .nil q1))⟩
theorem pe_bm (pa : PlainAttrs T) (slot : Slot T name id) (hty : typeOf (.builtin id) = pure (.type "method_descriptor")) (hm : MtR X id r) (ho : PE X o to) (ha : PA X (e :: es) t)
    (hbase : attributeBase o name X.env (eval o X.env) = eval o X.env := by rfl)
    (hfew : ((backTo cpos (starEach (e :: es) X.env)).all (fun x => !x.1) && (backToKw cpos (keywordEach [] X.env)).all (fun x => x.1.isSome)
      && decide ((e :: es).length + ([] : List Keyword).length + (if ([] : List Keyword).isEmpty then 0 else 1) < 30)) = true := by rfl)
    (hline : (apos.endLine == cpos.line) = true := by rfl) (hs : starEach (e :: es) X.env = (false, eval e X.env) :: starEach es X.env := by rfl) (hplain : (backTo cpos (starEach es X.env)).any (·.1) = false := by rfl) :
    PE X (.Call (.Attribute o name apos) (e :: es) [] cpos) (tBM X.K T r to t) := by
  intro pins s σ H Q I h
  refine wpAny_Call_method_late hbase hfew hline rfl (thn (ho pins s σ H _ I h) fun v s1 ⟨x, H1, I1, r1, ty, q1⟩ => ?_)
  obtain ⟨h1, h2⟩ := tyV_is I1 r1 ty
  refine ⟨T, id, pa, slot, hty, h1, h2, ?_⟩
  have hA := ha cpos pins s1 σ H1 _ I1 q1
  rw [hs] at hA ⊢
  refine Calls.callWith_builtin (by show (false || (backTo cpos (starEach es X.env)).any (·.1)) = false; rw [hplain] <;> rfl) (Calls.evalArgs_plain ?_)
  exact thn hA fun us s2 ⟨vs, H2, I2, r2, q2⟩ => hm pins s2 σ H2 x vs v us Q I2 r1 r2 q2
/- xs.append(e), list.index on a module's tuple .. are MtR facts of 06m -/
end
end L2

namespace L2
open PySem PySem.Spec PyProof.Rows

def MtM (X : Cx) (id : String) (r : V → List V → Hp → VK → Prop) : Prop :=
  ∀ (pins : List (Addr × Obj)) (s : Shared) (σ : St) (H : Hp) (x : V) (xs : List V) (v : Value) (us : List Value) (Q : VK), Inv X pins σ H s → RelV x v → Vals xs us → r x xs H Q →
    wpAny (model X.prog X.w) X.A (call (.builtin id) (v :: us)) (EP X pins σ Q) X.xe s

/-! ### lists of values -/
theorem Vals.one : ∀ {x : V} {us : List Value}, Vals [x] us → ∃ u, us = [u] ∧ RelV x u
  | _, _, .cons r .nil => ⟨_, rfl, r⟩
theorem Vals.two : ∀ {x y : V} {us : List Value}, Vals [x, y] us → ∃ u v, us = [u, v] ∧ RelV x u ∧ RelV y v
  | _, _, _, .cons r (.cons q .nil) => ⟨_, _, rfl, r, q⟩
theorem Vals.zero : ∀ {us : List Value}, Vals [] us → us = []
  | _, .nil => rfl
theorem Vals.dropLast {xs : List V} {us : List Value} (h : Vals xs us) : Vals xs.dropLast us.dropLast := by
  induction h with
  | nil => exact .nil
  | cons r t ih =>
    cases t with
    | nil => exact .nil
    | cons q t' => exact .cons r ih
theorem Vals.eraseIdx : ∀ {xs : List V} {us : List Value} (i : Nat), Vals xs us → Vals (xs.eraseIdx i) (us.eraseIdx i)
  | _, _, _, .nil => .nil
  | _, _, 0, .cons _ t => t
  | _, _, i + 1, .cons r t => .cons r (Vals.eraseIdx i t)
theorem Vals.reverse {xs : List V} {us : List Value} (h : Vals xs us) : Vals xs.reverse us.reverse := by
  induction h with
  | nil => exact .nil
  | cons r t ih => rw [List.reverse_cons, List.reverse_cons]; exact Vals.append ih (.cons r .nil)
theorem Vals.rep {xs : List V} {us : List Value} (h : Vals xs us) : ∀ k : Nat, Vals (List.replicate k xs).flatten (List.replicate k us).flatten
  | 0 => .nil
  | k + 1 => by
    rw [List.replicate_succ, List.replicate_succ, List.flatten_cons, List.flatten_cons]
    exact Vals.append h (Vals.rep h k)
theorem erase_last {α : Type} (l : List α) : l.eraseIdx (l.length - 1) = l.dropLast := by
  induction l with
  | nil => rfl
  | cons a r ih =>
    cases r with
    | nil => rfl
    | cons b r =>
      have e : (a :: b :: r).length - 1 = ((b :: r).length - 1) + 1 := by
        have h1 : (a :: b :: r).length = r.length + 2 := rfl
        have h2 : (b :: r).length = r.length + 1 := rfl
        omega
      rw [e, List.eraseIdx_cons_succ, ih]
      all_goals rfl
theorem len_erase {α : Type} : ∀ (l : List α) (i : Nat), (l.eraseIdx i).length ≤ l.length
  | [], _ => Nat.le_refl _
  | _ :: _, 0 => Nat.le_succ _
  | _ :: r, i + 1 => Nat.succ_le_succ (len_erase r i)
theorem foldl_rep (its : List Value) : ∀ (k : Nat) (acc : List Value),
    List.foldl (fun x1 x2 => x1 ++ x2) acc.toArray (List.replicate k its.toArray) = (acc ++ (List.replicate k its).flatten).toArray
  | 0, acc => by simp
  | k + 1, acc => by
    have e : acc.toArray ++ its.toArray = (acc ++ its).toArray := by simp
    have e2 : (acc ++ its) ++ (List.replicate k its).flatten = acc ++ (List.replicate (k + 1) its).flatten := by
      rw [List.replicate_succ, List.flatten_cons, List.append_assoc]
    rw [← e2, ← foldl_rep its k (acc ++ its), ← e, List.replicate_succ, List.foldl_cons]

section
variable {X : Cx} {pins : List (Addr × Obj)} {σ : St} {H : Hp} {s : Shared} {l b : Addr} {xs ys zs : List V}

/-! ### the two steps: a tracked list is rewritten, a new list is laid -/
theorem Inv.lset {its its' : List Value} {n : Nat} {f : Array Value → Array Value} {t' : Nat} (I : Inv X pins σ H s) (hH : H l = some (.lst xs))
    (e : s.heap.get? l = some { cls := .type "list", data := .seq its.toArray n }) (hf : f its.toArray = its'.toArray) (hv : Vals ys its') (hz : ys.length ≤ sizeLine) :
    Inv X pins σ (upd H l (.lst ys)) { s with heap := s.heap.update l (Obj.mapSeq f), toks := t' } := by
  have q := PySem.IsL.update e f
  rw [hf] at q
  refine I.write (x := l) (e := l) (by rw [hH]; exact trivial) (.inl rfl) (fun b' u hb hu => (Heap.get?_update_other s.heap (Obj.mapSeq f) (Ne.symm hb)).trans hu) ⟨_, q⟩ ?_
  exact ⟨hz, its', _, hv, q⟩
theorem Inv.lnew {its : List Value} {t' : Nat} (I : Inv X pins σ H s) (hv : Vals ys its) (hz : ys.length ≤ sizeLine) :
    Inv X pins σ (upd H s.heap.objs.size (.lst ys)) { s with heap := s.heap.push { cls := .type "list", data := .seq its.toArray }, toks := t' } :=
  I.laid (fun _ _ q => Heap.get?_push_of_some _ q) (Nat.le_refl _) ⟨hz, its, 0, hv, Heap.get?_push_size _ rfl⟩
theorem Inv.fresh (I : Inv X pins σ H s) : H s.heap.objs.size = none := I.hok.fresh (Nat.le_refl _)
theorem Inv.lstM (I : Inv X pins σ H s) (hH : H l = some (.lst xs)) : xs.length ≤ sizeLine ∧ ∃ (its : List Value) (n : Nat), Vals xs its ∧ xs.length = its.length ∧ s.heap.get? l = some { cls := .type "list", data := .seq its.toArray n } := by
  obtain ⟨z, its, n, r, e⟩ := I.hok l _ hH
  exact ⟨z, its, n, r, r.length, e⟩

theorem notLongL {n : Nat} (h : n ≤ sizeLine) : Builtin.List.listTooLong n = false := by
  unfold Builtin.List.listTooLong
  exact decide_eq_false (by omega)
end

section
variable {X : Cx}

/-! ### methods -/
def rAppend : V → List V → Hp → VK → Prop := fun x vs H Q => ∃ l xs y, x = .ref l ∧ vs = [y] ∧ H l = some (.lst xs) ∧ xs.length < sizeLine ∧ Q .non (upd H l (.lst (xs ++ [y])))
theorem mt_append : MtM X "list.append" rAppend := by
  intro pins s σ H x vs v us Q I rx rv h
  obtain ⟨l, xs, y, rfl, rfl, hH, hz, q⟩ := h
  cases rx
  obtain ⟨u, rfl, ru⟩ := rv.one
  obtain ⟨z, its, n, r, hl, e⟩ := I.lstM hH
  refine call_meets F.slot_list_append ⟨_, e, rfl⟩ F.entry_list_append (F.args_list_append_2 _ _) (PySem.list_append l its.toArray n u (by rw [List.size_toArray]; omega)) ⟨e, ?_⟩
  refine ⟨.non, _, I.lset (its' := its ++ [u]) hH e (by simp) (r.append (.cons ru .nil)) ?_, rfl, q⟩
  rw [List.length_append, List.length_singleton]
  omega

def rExtend : V → List V → Hp → VK → Prop := fun x vs H Q => ∃ l b xs zs, x = .ref l ∧ vs = [.ref b] ∧ H l = some (.lst xs) ∧ H b = some (.lst zs) ∧ xs.length + zs.length ≤ sizeLine ∧ Q .non (upd H l (.lst (xs ++ zs)))
theorem mt_extend : MtM X "list.extend" rExtend := by
  intro pins s σ H x vs v us Q I rx rv h
  obtain ⟨l, b, xs, zs, rfl, rfl, hH, hB, hz, q⟩ := h
  cases rx
  obtain ⟨u, rfl, ru⟩ := rv.one
  cases ru
  obtain ⟨z, its, n, r, hl, e⟩ := I.lstM hH
  obtain ⟨z2, its2, n2, r2, hl2, e2⟩ := I.lstM hB
  have hsz : its.toArray.size + its2.toArray.size ≤ sizeLine := by rw [List.size_toArray, List.size_toArray]; omega
  have hlong : ¬ (!its.toArray.isEmpty && Builtin.List.listTooLong (its.toArray.size + its2.toArray.size)) = true := by
    rw [notLongL hsz, Bool.and_false]
    exact Bool.false_ne_true
  refine call_meets F.slot_list_extend ⟨_, e, rfl⟩ F.entry_list_extend (F.args_list_extend_2 _ _)
    (AutoSeq1.list_extend_list_list_0 l its.toArray n b its2.toArray n2 hlong (by rw [List.size_toArray]; omega) (by omega)) ⟨e, e2, ?_⟩
  refine ⟨.non, _, I.lset (its' := its ++ its2) hH e (by simp) (r.append r2) ?_, rfl, q⟩
  rw [List.length_append]
  omega

def rPop : V → List V → Hp → VK → Prop := fun x vs H Q => ∃ l xs y, x = .ref l ∧ vs = [] ∧ H l = some (.lst xs) ∧ xs[xs.length - 1]? = some y ∧ Q y (upd H l (.lst xs.dropLast))
theorem mt_pop : MtM X "list.pop" rPop := by
  intro pins s σ H x vs v us Q I rx rv h
  obtain ⟨l, xs, y, rfl, rfl, hH, hy, q⟩ := h
  cases rx
  have hus := rv.zero
  subst hus
  obtain ⟨z, its, n, r, hl, e⟩ := I.lstM hH
  obtain ⟨u, hu, ru⟩ := r.get hy
  have hy' : its.toArray[its.toArray.size - 1]? = some u := by
    show its.toArray[its.length - 1]? = some u
    rw [← Array.getElem?_toList, ← hl]
    exact hu
  refine call_meets F.slot_list_pop ⟨_, e, rfl⟩ F.entry_list_pop (F.args_list_pop_1 _) (MeetsSeq.list_pop_last l its.toArray n u hy' (by rw [List.size_toArray]; omega)) ⟨e, ?_⟩
  refine ⟨y, _, I.lset (its' := its.dropLast) hH e ?_ r.dropLast ?_, ru, q⟩
  · show its.toArray.eraseIdxIfInBounds (its.toArray.size - 1) = its.dropLast.toArray
    rw [List.size_toArray, List.eraseIdxIfInBounds_toArray, erase_last]
  · rw [List.length_dropLast]
    omega

def rPopAt : V → List V → Hp → VK → Prop := fun x vs H Q => ∃ l xs i k y, x = .ref l ∧ vs = [.int i] ∧ H l = some (.lst xs) ∧ -(2 ^ 63) ≤ i ∧ i < 2 ^ 63 ∧ seqIndex? i xs.length = some k ∧ xs[k]? = some y ∧ Q y (upd H l (.lst (xs.eraseIdx k)))
theorem mt_popAt : MtM X "list.pop" rPopAt := by
  intro pins s σ H x vs v us Q I rx rv h
  obtain ⟨l, xs, i, k, y, rfl, rfl, hH, h1, h2, hk, hy, q⟩ := h
  cases rx
  obtain ⟨u, rfl, ru⟩ := rv.one
  obtain ⟨t, rfl⟩ := ru
  obtain ⟨z, its, n, r, hl, e⟩ := I.lstM hH
  obtain ⟨w, hw, rw'⟩ := r.get hy
  refine call_meets F.slot_list_pop ⟨_, e, rfl⟩ F.entry_list_pop (F.args_list_pop_2 _ _)
    (MeetsSeq.list_pop_at l its.toArray n i t k w (fitsIndex_both h1 h2) (by rw [List.size_toArray, ← hl]; exact hk) (by rw [← Array.getElem?_toList]; exact hw) (by rw [List.size_toArray]; omega)) ⟨e, ?_⟩
  refine ⟨y, _, I.lset (its' := its.eraseIdx k) hH e ?_ (r.eraseIdx k) ?_, rw', q⟩
  · show its.toArray.eraseIdxIfInBounds k = (its.eraseIdx k).toArray
    rw [List.eraseIdxIfInBounds_toArray]
  · have := len_erase xs k
    omega

def rReverse : V → List V → Hp → VK → Prop := fun x vs H Q => ∃ l xs, x = .ref l ∧ vs = [] ∧ H l = some (.lst xs) ∧ Q .non (upd H l (.lst xs.reverse))
theorem mt_reverse : MtM X "list.reverse" rReverse := by
  intro pins s σ H x vs v us Q I rx rv h
  obtain ⟨l, xs, rfl, rfl, hH, q⟩ := h
  cases rx
  have hus := rv.zero
  subst hus
  obtain ⟨z, its, n, r, hl, e⟩ := I.lstM hH
  refine call_meets F.slot_list_reverse ⟨_, e, rfl⟩ F.entry_list_reverse (F.args_list_reverse_1 _) (AutoSeq1.list_reverse_list_0 l its.toArray n (by rw [List.size_toArray]; omega)) ⟨e, ?_⟩
  refine ⟨.non, _, I.lset (its' := its.reverse) hH e (by simp) r.reverse ?_, rfl, q⟩
  rw [List.length_reverse]
  omega

def rClear : V → List V → Hp → VK → Prop := fun x vs H Q => ∃ l xs, x = .ref l ∧ vs = [] ∧ H l = some (.lst xs) ∧ Q .non (upd H l (.lst []))
theorem mt_clear : MtM X "list.clear" rClear := by
  intro pins s σ H x vs v us Q I rx rv h
  obtain ⟨l, xs, rfl, rfl, hH, q⟩ := h
  cases rx
  have hus := rv.zero
  subst hus
  obtain ⟨z, its, n, r, hl, e⟩ := I.lstM hH
  refine call_meets F.slot_list_clear ⟨_, e, rfl⟩ F.entry_list_clear (F.args_list_clear_1 _) (AutoSeq1.list_clear_list_0 l its.toArray n (by rw [List.size_toArray]; omega)) ⟨e, ?_⟩
  exact ⟨.non, _, I.lset (its' := []) (ys := []) hH e rfl .nil (Nat.zero_le _), rfl, q⟩

/-! ### list + list, list += list, list * int -/
def rCat : R2 := fun x y H Q => ∃ l b xs zs, x = .ref l ∧ y = .ref b ∧ H l = some (.lst xs) ∧ H b = some (.lst zs) ∧ xs.length + zs.length ≤ sizeLine ∧ ∀ p, H p = none → Q (.ref p) (upd H p (.lst (xs ++ zs)))
theorem op_cat : OpR X (binaryOp .Add) rCat := by
  intro pins s σ H x y v u Q I rx ry h
  obtain ⟨l, b, xs, zs, rfl, rfl, hH, hB, hz, q⟩ := h
  cases rx
  cases ry
  obtain ⟨z, its, n, r, hl, e⟩ := I.lstM hH
  obtain ⟨z2, its2, n2, r2, hl2, e2⟩ := I.lstM hB
  refine PySem.P.add_list e e2 ?_ (by rw [List.size_toArray, List.size_toArray]; omega)
  have ea : its.toArray ++ its2.toArray = (its ++ its2).toArray := by simp
  rw [ea]
  exact ⟨.ref _, _, I.lnew (t' := s.toks) (r.append r2) (by rw [List.length_append]; omega), rfl, q _ I.fresh⟩
/-- a list times an int (a negative one is nothing) -/
def rRep : R2 := fun x y H Q => ∃ l k xs, x = .ref l ∧ y = .int k ∧ H l = some (.lst xs) ∧ -(2 ^ 63) ≤ k ∧ k < 2 ^ 63 ∧ xs.length * k.toNat ≤ sizeLine ∧
  ∀ p, H p = none → Q (.ref p) (upd H p (.lst (List.replicate k.toNat xs).flatten))
theorem len_rep {α : Type} (xs : List α) (k : Nat) : (List.replicate k xs).flatten.length = k * xs.length := by
  induction k with
  | zero => simp
  | succ k ih => rw [List.replicate_succ, List.flatten_cons, List.length_append, ih, Nat.succ_mul, Nat.add_comm]
theorem op_rep : OpR X (binaryOp .Mult) rRep := by
  intro pins s σ H x y v u Q I rx ry h
  obtain ⟨l, k, xs, rfl, rfl, hH, h1, h2, hz, q⟩ := h
  cases rx
  obtain ⟨t, rfl⟩ := ry
  obtain ⟨z, its, n, r, hl, e⟩ := I.lstM hH
  have hlen : its.toArray.size * k.toNat ≤ sizeLine := by rw [List.size_toArray, ← hl]; exact hz
  have hcap : ¬ its.toArray.size * k.toNat > (2 ^ 63 - 1) / 8 := by
    have : (sizeLine : Nat) ≤ (2 ^ 63 - 1) / 8 := by decide
    omega
  have hfit : ¬ (!Builtin.List.listFitsIndex k) = true := by
    rw [fitsIndex_both h1 h2]
    exact Bool.false_ne_true
  have hlong : ¬ Builtin.List.listTooLong (its.toArray.size * k.toNat) = true := by
    rw [notLongL hlen]
    exact Bool.false_ne_true
  have hnew : List.foldl (fun x1 x2 => x1 ++ x2) #[] (List.replicate (if its.toArray.isEmpty = true then 0 else k.toNat) its.toArray) = (List.replicate k.toNat its).flatten.toArray := by
    have f0 : ∀ m : Nat, List.foldl (fun x1 x2 => x1 ++ x2) #[] (List.replicate m its.toArray) = (List.replicate m its).flatten.toArray := fun m => by
      have := foldl_rep its m []
      rw [List.nil_append] at this
      exact this
    rw [f0]
    cases its with
    | nil => simp
    | cons a r' => rw [if_neg (by simp)]
  refine wpAny_binaryOp_repeat_ref (T := "list") (U := "int") (by decide) ⟨_, e, rfl⟩ (fun s' => typeIs_int s' k t) noFill_list_mul F.fills_int_mul F.slot_int_rmul repeat_list F.slot_int_index.lookup
    (call_meets F.slot_int_rmul (typeIs_int s k t) F.entry_int_rmul (F.args_int_rmul_2 _ _) (int___rmul___int_list k t l its.toArray n)
      ⟨e, rfl, ⟨_, e, rfl⟩, call_meets F.slot_list_mul ⟨_, e, rfl⟩ F.entry_list_mul (F.args_list_mul_2 _ _) (AutoListH.list___mul___list_int_3 l its.toArray n k t hfit hcap hlong) ⟨e, ?_⟩⟩)
  rw [hnew]
  exact ⟨.ref _, _, I.lnew (t' := s.toks) (r.rep k.toNat) (by rw [len_rep, Nat.mul_comm]; exact hz), rfl, q _ I.fresh⟩

/-! ### del xs[i] -/
theorem del_list {pins : List (Addr × Obj)} {s : Shared} {σ : St} {H : Hp} {l : Addr} {xs : List V} {i : Int} {t : Tok} {k : Nat} {Q : Unit → Shared → Prop} (I : Inv X pins σ H s) (hH : H l = some (.lst xs))
    (h1 : -(2 ^ 63) ≤ i) (h2 : i < 2 ^ 63) (hk : seqIndex? i xs.length = some k) (h : ∀ s', Inv X pins σ (upd H l (.lst (xs.eraseIdx k))) s' → Q () s') :
    wpAny (model X.prog X.w) X.A (delItem (.ref l) (.int i t)) Q X.xe s := by
  obtain ⟨z, its, n, r, hl, e⟩ := I.lstM hH
  refine PySem.P.delItem_list (k := k) e (fitsIndex_both h1 h2) (by rw [List.size_toArray, ← hl]; exact hk) (h _ ?_) (by rw [List.size_toArray]; omega)
  refine I.lset (its' := its.eraseIdx k) (t' := s.toks) hH e ?_ (r.eraseIdx k) ?_
  · show its.toArray.eraseIdxIfInBounds k = (its.eraseIdx k).toArray
    rw [List.eraseIdxIfInBounds_toArray]
  · have := len_erase xs k
    omega
end

/-! ### xs[a:b] = ys -/
section
variable {prog : Program} {w : World} {A : Around} {E : Value → Shared → Prop} {s : Shared}
theorem splice_eq (its its2 : List Value) (a c : Nat) : its.toArray.extract 0 a ++ its2.toArray ++ its.toArray.extract c its.toArray.size = (its.take a ++ its2 ++ its.drop c).toArray := by
  apply Array.toList_inj.mp
  first
    | (simp
       exact List.take_of_length_le (by simp))
    | simp [List.take_of_length_le]
    | simp
theorem bounds_run {a c n : Nat} (hac : a ≤ c) (hc : c ≤ n) : sliceBounds (some (a : Int)) (some (c : Int)) none n = ((a : Int), (c : Int), 1) := by
  simp only [sliceBounds, Option.getD_none]
  have h1 : ¬ ((a : Int) < 0) := by omega
  have h2 : ¬ ((c : Int) < 0) := by omega
  simp only [h1, h2, if_false, show (1 : Int) > 0 by decide, if_true]
  congr 1
  · omega
  · congr 1; omega
set_option maxRecDepth 100000 in
/-- list.__setitem__ with a slice of step one and another list -/
theorem setItem_slice {l b sl : Addr} {items new : Array Value} {n n2 : Nat} {vl vu : Value} {a c : Nat} {Q : Unit → Shared → Prop}
    (e : s.heap.get? l = some { cls := .type "list", data := .seq items n }) (e2 : s.heap.get? b = some { cls := .type "list", data := .seq new n2 }) (hne : l ≠ b)
    (hs : s.heap.IsSliceOf sl vl vu .none) (pl : IsPart vl (some (a : Int))) (pu : IsPart vu (some (c : Int))) (hac : a ≤ c) (hc : c ≤ items.size)
    (hsz : items.size + new.size ≤ sizeLine) (h : Q () { s with heap := s.heap.update l (Obj.mapSeq fun xs => xs.extract 0 a ++ new ++ xs.extract c xs.size) }) :
    wpAny (model prog w) A (setItem (.ref l) (.ref sl) (.ref b)) Q E s := by
  have hl : s.heap.IsList l items := PySem.IsL.isList e
  have hb : s.heap.IsList b new := PySem.IsL.isList e2
  obtain ⟨os, hos, hcs, hds⟩ := id hs
  have hTs : s.TypeIs (.ref sl) "slice" := ⟨os, hos, hcs⟩
  have hstep : ¬ ((rawPart none == rawInt 0) = true) := Bool.false_ne_true
  have hsame : Builtin.List.listSameRef (.ref l) (.ref b) = false := by
    unfold Builtin.List.listSameRef
    exact beq_eq_false_iff_ne.mpr hne
  have hmax : (max (a : Int) (c : Int)).toNat = c := by omega
  have hz' : ((fun xs : Array Value => xs.extract 0 a ++ new ++ xs.extract c xs.size) items).size ≤ sizeLine + 1 := by
    simp only [Array.size_append, Array.size_extract]
    omega
  unfold setItem
  try with_reducible refine wpAny_holding ?_
  first | refine wpAny_bind (wpAny_pure ?_) | skip
  refine wpAny_bind (wpAny_sequenceKey hl.typeIs (by decide) ?_)
  refine wpAny_bind (wpAny_callSpecial?_slot (name := Str.ofString "__setitem__") hl.typeIs slot_list_setitem
    (wpAny_call_entry slot_list_setitem hl.typeIs entry_list_setitem ?_ (args_list_setitem _ _ _)))
  show wpAny _ _ (Builtin.List.listSubscript? (.ref sl) >>= _) _ _ s
  refine wpAny_bind ?_
  unfold Builtin.List.listSubscript?
  refine wpAny_bind (wpAny_specialOf hTs slice_no_index ?_)
  simp only [Option.isNone_none, if_true]
  refine wpAny_pure ?_
  show wpAny _ _ (typeOf (.ref sl) >>= _) _ _ s
  refine wpAny_bind (wpAny_typeOf hTs ?_)
  first
    | rw [if_neg (by decide)]
    | refine PySem.W.KFB.if_not (by decide) ?_
  rw [listSliceParts_eq]
  refine wpAny_bind (wpAny_bind (wpAny_field hos hds (x := .none) rfl (wpAny_bind (wpAny_listPart .none ?_))))
  rw [if_neg hstep]
  refine wpAny_bind (wpAny_field hos hds (x := vl) rfl (wpAny_bind (wpAny_listPart pl ?_)))
  refine wpAny_bind (wpAny_field hos hds (x := vu) rfl (wpAny_bind (wpAny_listPart pu (wpAny_pure ?_))))
  first
    | simp only [hsame, Bool.false_eq_true, if_false]
    | refine PySem.W.KFB.if_not hsame ?_
    | (dsimp only
       rw [if_neg (by rw [hsame]; exact Bool.false_ne_true)])
  refine wpAny_bind (m := Builtin.List.listAllItems (.ref b) "must assign iterable to extended slice") ?_
  unfold Builtin.List.listAllItems
  refine wpAny_bind (wpAny_typeOf hb.typeIs ?_)
  first
    | refine PySem.W.KFB.if_so (by decide) ?_
    | rw [if_pos (by decide)]
    | simp only [beq_self_eq_true, Bool.true_or, if_true]
  unfold Builtin.List.listItems
  refine wpAny_bind (wpAny_seqItems e2 rfl (wpAny_pure ?_))
  refine wpAny_bind (wpAny_bind (wpAny_seqItems e rfl (wpAny_pure ?_)))
  refine wpAny_bind (wpAny_of_eq ((sliceIndices_raw (some (a : Int)) (some (c : Int)) none items.size (by simp)).trans (congrArg (pure : Int × Int × Int → Sem (Int × Int × Int)) (bounds_run hac hc))) ?_)
  show wpAny _ _ (if ((1 : Int) == 1) = true then _ else _) _ _ s
  rw [if_pos (by decide)]
  refine wpAny_bind (wpAny_rule ?_)
  first
    | simp only [notLongL hsz, Bool.false_eq_true, if_false]
    | refine PySem.W.KFB.if_not (notLongL hsz) ?_
  first | refine wpAny_bind (wpAny_pure ?_) | skip
  show wpAny _ _ (updateSeq l (fun xs => xs.extract 0 ((a : Int)).toNat ++ new ++ xs.extract (max (a : Int) (c : Int)).toNat xs.size) >>= _) _ _ s
  rw [hmax, Int.toNat_natCast]
  refine wpAny_bind (wpAny_updateSeq (hz := Nat.le_trans (Nat.le_add_right _ _) hsz) (_hz' := hz') e rfl ?_)
  refine wpAny_bind (wpAny_letGo ?_)
  first
    | exact wpAny_bind (wpAny_pure (wpAny_pure ⟨.none, rfl, wpAny_pure h⟩))
    | exact wpAny_pure ⟨.none, rfl, wpAny_pure h⟩
end

section
variable {X : Cx}
/-- xs[a:c] = ys of another list, at the value level: sl is the slice object that was just made -/
theorem set_slice {pins : List (Addr × Obj)} {s : Shared} {σ : St} {H : Hp} {l b sl : Addr} {xs ys : List V} {a c : Int} {vl vu : Value} {Q : Unit → Shared → Prop} (I : Inv X pins σ H s)
    (hH : H l = some (.lst xs)) (hB : H b = some (.lst ys)) (hne : l ≠ b) (hs : s.heap.IsSliceOf sl vl vu .none) (ra : RelV (.int a) vl) (rc : RelV (.int c) vu) (h0 : 0 ≤ a) (hac : a ≤ c) (hc : c ≤ xs.length)
    (hz : xs.length + ys.length ≤ sizeLine) (h : ∀ s', Inv X pins σ (upd H l (.lst (xs.take a.toNat ++ ys ++ xs.drop c.toNat))) s' → Q () s') :
    wpAny (model X.prog X.w) X.A (setItem (.ref l) (.ref sl) (.ref b)) Q X.xe s := by
  obtain ⟨ta, rfl⟩ := ra
  obtain ⟨tc, rfl⟩ := rc
  obtain ⟨z, its, n, r, hl, e⟩ := I.lstM hH
  obtain ⟨z2, its2, n2, r2, hl2, e2⟩ := I.lstM hB
  obtain ⟨a', rfl⟩ := Int.eq_ofNat_of_zero_le h0
  obtain ⟨c', rfl⟩ := Int.eq_ofNat_of_zero_le (Int.le_trans h0 hac)
  simp only [Int.toNat_natCast] at h
  refine setItem_slice (a := a') (c := c') e e2 hne hs (.int _ _) (.int _ _) (by omega) (by rw [List.size_toArray]; omega) (by rw [List.size_toArray, List.size_toArray]; omega) (h _ ?_)
  refine I.lset (its' := its.take a' ++ its2 ++ its.drop c') (t' := s.toks) hH e ?_ (Vals.append (Vals.append (r.take _) r2) (r.drop _)) ?_
  · exact splice_eq its its2 a' c'
  · rw [List.length_append, List.length_append, List.length_take, List.length_drop]
    omega
end
end L2

namespace Att
open PySem PySem.W PySem.Calls PyProof.Rows

/-! ### the script -/
theorem ints_of_wellAll {P : Params} {h : Heap} : ∀ (ns : List Int) (vs : List Value), WellAll P h vs (ns.map WData.int) → IntsAre vs ns := by
  intro ns
  induction ns with
  | nil =>
    intro vs w
    rw [List.map_nil] at w
    cases w
    exact .nil
  | cons n ns ih =>
    intro vs w
    rw [List.map_cons] at w
    cases w with
    | cons a b =>
      cases a
      exact .cons _ _ (ih _ b)

theorem script_of {l : OpenLaw} {n : Nat} (hn : l.most = some n) {P : Params} {h : Heap} {args : List WData} {vals : List Value}
    (hpre : l.row.toRowW.claim.pre args = true) (hwl : WellAll P h vals args) :
    ∃ a vs ns, vals = [Value.ref a] ∧ args = [WData.list (ns.map WData.int)] ∧ h.get? a = some { cls := .type "list", data := .seq vs.toArray } ∧ IntsAre vs ns ∧ ns.length ≤ n := by
  have hsh : WShape.hasAll [] args [.list .int] = true := (pre_splitW hpre).1
  have hc : l.pre.holds [] { args := args } = true := (pre_splitW hpre).2
  obtain ⟨d, r, rfl, h1, h2⟩ := hasAllW_cons hsh
  obtain rfl := hasAllW_nil h2
  obtain ⟨xs, rfl, h3⟩ := hasW_list h1
  obtain ⟨ns, rfl⟩ := items_int h3
  have hlen : ns.length ≤ n := by
    unfold OpenLaw.pre at hc
    have h4 : (WTm.not (.lt (.lit (.int (n : Int))) (.len (.arg 0)))).holds [] { args := [.list (ns.map .int)] } = true := by
      have h4 := (holds_andW hc).1
      rw [hn] at h4
      exact h4
    have h5 := condW_of h4 (w_not (w_lt w_lit (w_len_list (w_arg rfl))))
    rw [List.length_map] at h5
    refine Nat.le_of_not_lt fun q => ?_
    have q' : (n : Int) < ((ns.length : Nat) : Int) := by omega
    first
      | (rw [decide_eq_true q'] at h5; exact absurd h5 (by decide))
      | (simp at h5; omega)
  cases hwl with
  | cons w1 w2 =>
    cases w2
    cases w1 with
    | list ho hall => exact ⟨_, _, ns, rfl, rfl, ho, ints_of_wellAll ns _ hall, hlen⟩

theorem post_true (l : OpenLaw) (args : List WData) : l.row.toRowW.claim.post args (.bool true) args = true :=
  postW_of (r := l.row.toRowW) (X := (true == true))
    (show WShape.has [] (.bool true) .bool = true by first | rfl | decide | simp [WShape.has, WShape.arms, WShape.armsAll])
    (show (WTm.eq .res (.lit (.bool true))).value [] { args := args, res := some (.bool true), after := args } = some (.bool (true == true)) from w_eq_bool (w_res rfl) w_lit) rfl

/-! ### the attachment: holds_open's last premise (the goal 'hc' behind k_head) from a wpAny of the law's body -/
theorem attach {l : OpenLaw} {n : Nat} {q : Program} {loose : List Str} {XP : (Str → Option Value) → Heap → Prop} {YP : World → Heap → Prop} {d : DefRec} {x : Str}
    (hn : l.most = some n) (hdf : d.params.defaults = [])
    (hbind : ∀ pm cd doc v : Value, bindArgs (docDef d.name d.params d.body d.scope pm cd doc) ⟨[v], []⟩ = pure [(x, v)])
    (hx : d.scope.names.lookup x = some .local ∨ d.scope.names.lookup x = some .cell)
    (hk : d.scope.kind = .function) (hco : d.scope.isCoroutine = false) (hgen : d.scope.isGenerator = false)
    (body : ∀ (w : World) (s₀ s₁ s : Shared) (mg mb : Str → Option Value) (fa : Addr) (o : Obj) (pm cd doc : Value) (a : Addr) (vs : List Value) (ns : List Int),
      Ground q loose [] XP w s₀ mg mb s₁.heap → YP w s₁.heap →
      s₁.heap.get? fa = some o → o.data = .func (docDef d.name d.params d.body d.scope pm cd doc) → s₁.heap.CodeRec cd d.name → mg d.name = some (.ref fa) →
      s₁.heap.get? a = some { cls := .type "list", data := .seq vs.toArray } → IntsAre vs ns → ns.length ≤ n →
      s.gens = #[] → s.os = s₁.os →
      Fr s₁.heap s₁.heap.objs.size s.heap (bindL (envOfC d.name d.scope s₁.heap.objs.size fa cd).kindOf [(x, .ref a)] fun _ => none) →
      Cl s₁.heap.objs.size (cellsFrom (s₁.heap.objs.size + 1) d.scope.names []) s.heap (bindC (envOfC d.name d.scope s₁.heap.objs.size fa cd).kindOf [(x, .ref a)] fun _ => none) →
      wpAny (model l.prog w) (callerA.deeper (envOfC d.name d.scope s₁.heap.objs.size fa cd)) (execs d.body (envOfC d.name d.scope s₁.heap.objs.size fa cd))
        (fun f s' => f = .ret (.bool true) ∧ OldK s₁.heap s'.heap ∧ s'.os = s₁.os ∧ AllBare s'.gens) (fun _ _ => False) s) :
    WalkO q loose XP YP l.row.toRowW d [] (fun f vs => PySem.call f vs) := by
  intro w s₀ s₁ mg mb G Y fa o pm cd doc dV kV ho hd hcd hD hmg hg args vals as hpre hlay hrd hwl hlo
  obtain rfl : dV = .none := Dflts.none hD hdf
  obtain rfl : kV = .none := Dflts.noKw hD
  obtain ⟨a, vs, ns, rfl, rfl, hobj, hints, hlen⟩ := script_of hn hpre hwl
  refine enter_call ?_
  refine call_cells_ret (o := o) (by rw [depth_caller]; decide) ho (fd_plain hd) G.T.nolimit hcd (hbind pm cd doc (.ref a)) (fun y hy => ?_) (fun h₁ tk F X => ?_) hco hgen hk
  · obtain rfl : y = (x, Value.ref a) := List.mem_singleton.mp hy
    rcases hx with e | e
    · exact .inl e
    · exact .inr ⟨e, cellsFrom_some _ _ _ (.inl e)⟩
  · refine wpAny_mono (body w s₀ s₁ { s₁ with heap := h₁, toks := tk } mg mb fa o pm cd doc a vs ns G Y ho (fd_plain hd) hcd hmg hobj hints hlen hg rfl F X) (fun f s' hq => ?_) (fun _ _ hq => hq)
    obtain ⟨rfl, h2, h3, h4⟩ := hq
    exact ⟨.inl ⟨.bool true, .bool true, [], rfl, fun _ => rfl, .bool true, post_true l _, fun _ => ⟨List.Pairwise.nil, fun _ hm => (nomatch hm)⟩⟩, h2, h3, h4⟩

/-- the same from a codeAny of the CALL (for a layer whose function contracts speak of calls) -/
theorem attach_call {l : OpenLaw} {n : Nat} {q : Program} {loose : List Str} {XP : (Str → Option Value) → Heap → Prop} {YP : World → Heap → Prop} {d : DefRec}
    (hn : l.most = some n) (hdf : d.params.defaults = [])
    (call : ∀ (w : World) (s₀ s₁ : Shared) (mg mb : Str → Option Value) (fa : Addr) (o : Obj) (pm cd doc : Value) (a : Addr) (vs : List Value) (ns : List Int),
      Ground q loose [] XP w s₀ mg mb s₁.heap → YP w s₁.heap →
      s₁.heap.get? fa = some o → o.data = .func (docDef d.name d.params d.body d.scope pm cd doc) → s₁.heap.CodeRec cd d.name → mg d.name = some (.ref fa) →
      s₁.heap.get? a = some { cls := .type "list", data := .seq vs.toArray } → IntsAre vs ns → ns.length ≤ n → s₁.gens = #[] →
      codeAny (model l.prog w) callerA (.call (.ref fa) ⟨[.ref a], []⟩) (fun r s' => r = .ok (.ret (.bool true)) ∧ OldK s₁.heap s'.heap ∧ s'.os = s₁.os ∧ AllBare s'.gens) s₁) :
    WalkO q loose XP YP l.row.toRowW d [] (fun f vs => PySem.call f vs) := by
  intro w s₀ s₁ mg mb G Y fa o pm cd doc dV kV ho hd hcd hD hmg hg args vals as hpre hlay hrd hwl hlo
  obtain rfl : dV = .none := Dflts.none hD hdf
  obtain rfl : kV = .none := Dflts.noKw hD
  obtain ⟨a, vs, ns, rfl, rfl, hobj, hints, hlen⟩ := script_of hn hpre hwl
  refine enter_call (codeAny_mono (call w s₀ s₁ mg mb fa o pm cd doc a vs ns G Y ho (fd_plain hd) hcd hmg hobj hints hlen hg) fun r s' hq => ?_)
  obtain ⟨rfl, h2, h3, h4⟩ := hq
  exact ⟨.inl ⟨.bool true, .bool true, [], rfl, fun _ => rfl, .bool true, post_true l _, fun _ => ⟨List.Pairwise.nil, fun _ hm => (nomatch hm)⟩⟩, h2, h3, h4⟩

/-- the same where the top left finished generators (o_head chose holds_openN): nothing may have changed at all and no generator may be left -/
theorem attachN {l : OpenLaw} {n : Nat} {q : Program} {loose : List Str} {XP : (Str → Option Value) → Heap → Prop} {YP : World → Heap → Prop} {d : DefRec} {x : Str}
    (hn : l.most = some n) (hdf : d.params.defaults = [])
    (hbind : ∀ pm cd doc v : Value, bindArgs (docDef d.name d.params d.body d.scope pm cd doc) ⟨[v], []⟩ = pure [(x, v)])
    (hx : d.scope.names.lookup x = some .local ∨ d.scope.names.lookup x = some .cell)
    (hk : d.scope.kind = .function) (hco : d.scope.isCoroutine = false) (hgen : d.scope.isGenerator = false)
    (body : ∀ (w : World) (s₀ s₁ s : Shared) (mg mb : Str → Option Value) (fa : Addr) (o : Obj) (pm cd doc : Value) (a : Addr) (vs : List Value) (ns : List Int),
      Ground q loose [] XP w s₀ mg mb s₁.heap → YP w s₁.heap →
      s₁.heap.get? fa = some o → o.data = .func (docDef d.name d.params d.body d.scope pm cd doc) → s₁.heap.CodeRec cd d.name → mg d.name = some (.ref fa) →
      s₁.heap.get? a = some { cls := .type "list", data := .seq vs.toArray } → IntsAre vs ns → ns.length ≤ n →
      s.gens = #[] → s.os = s₁.os →
      Fr s₁.heap s₁.heap.objs.size s.heap (bindL (envOfC d.name d.scope s₁.heap.objs.size fa cd).kindOf [(x, .ref a)] fun _ => none) →
      Cl s₁.heap.objs.size (cellsFrom (s₁.heap.objs.size + 1) d.scope.names []) s.heap (bindC (envOfC d.name d.scope s₁.heap.objs.size fa cd).kindOf [(x, .ref a)] fun _ => none) →
      wpAny (model l.prog w) (callerA.deeper (envOfC d.name d.scope s₁.heap.objs.size fa cd)) (execs d.body (envOfC d.name d.scope s₁.heap.objs.size fa cd))
        (fun f s' => f = .ret (.bool true) ∧ (∀ b o, s₁.heap.get? b = some o → s'.heap.get? b = some o) ∧ s'.os = s₁.os ∧ s'.gens = #[]) (fun _ _ => False) s) :
    WalkN q loose XP YP l.row.toRowW d [] (fun f vs => PySem.call f vs) := by
  intro w s₀ s₁ mg mb G Y fa o pm cd doc dV kV ho hd hcd hD hmg hg args vals as hpre hlay hrd hwl hlo
  obtain rfl : dV = .none := Dflts.none hD hdf
  obtain rfl : kV = .none := Dflts.noKw hD
  obtain ⟨a, vs, ns, rfl, rfl, hobj, hints, hlen⟩ := script_of hn hpre hwl
  refine enter_callW ?_
  refine call_cells_ret (o := o) (by rw [depth_caller]; decide) ho (fd_plain hd) G.T.nolimit hcd (hbind pm cd doc (.ref a)) (fun y hy => ?_) (fun h₁ tk F X => ?_) hco hgen hk
  · obtain rfl : y = (x, Value.ref a) := List.mem_singleton.mp hy
    rcases hx with e | e
    · exact .inl e
    · exact .inr ⟨e, cellsFrom_some _ _ _ (.inl e)⟩
  · refine wpAny_mono (body w s₀ s₁ { s₁ with heap := h₁, toks := tk } mg mb fa o pm cd doc a vs ns G Y ho (fd_plain hd) hcd hmg hobj hints hlen hg rfl F X) (fun f s' hq => ?_) (fun _ _ hq => hq)
    obtain ⟨rfl, h2, h3, h4⟩ := hq
    exact ⟨.inl ⟨.bool true, .bool true, [], rfl, fun _ => rfl, .bool true, post_true l _, fun _ => ⟨List.Pairwise.nil, fun _ hm => (nomatch hm)⟩⟩, h2, h3, h4⟩

/-! ### rules over ANY heap (no ledger) from facts about the written part K: the library's own take a ledger (News) for what they write -/
section
variable {prog : Program} {w : World} {A : Around} {E : Value → Shared → Prop} {s : Shared} {K : Frag}

/-- a def of the module, or a method (qual 'C.m'), entered: the frame is the next address; cells behind it -/
theorem call_fn {R : Result → Shared → Prop} {name qual : Str} {params : Arguments} {body : List Stmt} {scope : Scope} {dV kV doc pm cdv ct oc : Value} {an od : Option Addr} {osl : Array (Option Value)} {f : Addr} {args : Args} {binds : List (Str × Value)}
    (X : K.In s.heap) (hlim : s.heap.NoLimit) (ho : K.lookup f = some ⟨oc, od, .func (fnOf name qual params body scope dV kV doc pm an cdv ct), osl⟩) (hcd : codeIn K cdv qual = true) (hroom : A.depth < recursionLimit)
    (hbind : BindsTo s (fnOf name qual params body scope dV kV doc pm an cdv ct) args binds)
    (hkind : (binds.all fun y => scope.names.lookup y.1 == some .local || scope.names.lookup y.1 == some .cell) = true)
    (h : ∀ s₁, InCallC s s.heap.objs.size (bindL (envOfC qual scope s.heap.objs.size f cdv).kindOf binds fun _ => none) (cellsFrom (s.heap.objs.size + 1) scope.names [])
        (bindC (envOfC qual scope s.heap.objs.size f cdv).kindOf binds fun _ => none) s₁ →
      wpAny (model prog w) (A.deeper (envOfC qual scope s.heap.objs.size f cdv)) (execs body (envOfC qual scope s.heap.objs.size f cdv))
        (fun fl s' => R (.ok (.ret (match fl with | .ret v => v | _ => .none))) s')
        (fun e s' => wpAny (model prog w) (A.deeper (envOfC qual scope s.heap.objs.size f cdv)) (leaving (envOfC qual scope s.heap.objs.size f cdv) e) (fun _ s'' => R (.error e) s'') (fun e' s'' => R (.error e') s'') s') s₁)
    (hco : scope.isCoroutine = false) (hgen : scope.isGenerator = false) (hk : scope.kind = .function) : codeAny (model prog w) A (.call (.ref f) args) R s := by
  refine codeAny_call_function hroom (X _ _ ho) rfl hco hgen rfl (codeRec_of X hcd) (hbind _ _ _ _ ?_)
  refine wpAny_newFunctionEnv_cells hk (kindsX hkind _) fun env he s₁ x => ?_
  subst he
  exact ⟨hlim.keeps x.toInCall.keep, codeAny_func (h s₁ x)⟩

/-- C(..): dict at size, instance at size + 1, then __init__ -/
theorem make_obj {R : Result → Shared → Prop} {C fI : Addr} {rest : List Value} {kw : List (Str × Value)}
    (X : K.In s.heap) (hm : makesIn K C = true) (hi : findIn K (.ref C) "__init__" = some (some (.ref fI))) (hf : isFn K (.ref fI) = true)
    (h : codeAny (model prog w) (A.under (.builtin "type.__call__" ⟨.ref C :: rest, kw⟩)) (.call (.ref fI) ⟨.ref (s.heap.objs.size + 1) :: rest, kw⟩) (InitBack (s.heap.objs.size + 1) R)
      { s with heap := (s.heap.push emptyDict).push (instObj C s.heap.objs.size) }) : codeAny (model prog w) A (.call (.ref C) ⟨rest, kw⟩) R s := by
  obtain ⟨hh, g, d, t, os⟩ := s
  exact make_core (makes_of X hm) (looks_findIn X hi) (fun self => bind_fn X self (beq_iff_eq.mp hf)) (.inl rfl) h

/-- x.name where the instance's dict holds the name and the class does not -/
theorem get_field {x C : Addr} {ox : Obj} {es : List DictEntry} {n : Nat} {name : Str} {expr : Bool} {v : Value} {Q : Value → Shared → Prop}
    (X : K.In s.heap) (I : PySem.W.InstAt s.heap x ox C (some (dictOf es n))) (hg : plainGet K C name = true) (hh : hasDictIn K C = true) (ha : findIn K (.ref C) name = some none)
    (hl : getL name es = some (some v)) (hv : handedIn v = true) (h : Q v { s with toks := s.toks + 1 }) : wpAny (model prog w) A (getAttr (.ref x) name expr) Q E s :=
  get_value X I (plainGet_of hg).1 (findObj_own hh ha rfl hl) hv h

/-- x.m(..): the method found in the class -/
theorem get_method {x C f : Addr} {ox : Obj} {es : List DictEntry} {n : Nat} {name : Str} {pl : Sem Bool} {Q : Value × List Value → Shared → Prop}
    (X : K.In s.heap) (I : PySem.W.InstAt s.heap x ox C (some (dictOf es n))) (hg : plainGet K C name = true) (hf : findIn K (.ref C) name = some (some (.ref f))) (ht : isFn K (.ref f) = true)
    (hl : getL name es = some none) (h : Q (.ref f, [.ref x]) s) : wpAny (model prog w) A (getMethod (.ref x) name pl) Q E s :=
  method_fn X I (plainGet_of hg).1 (plainGet_of hg).2 hf (beq_iff_eq.mp ht) (by show (lookIn name (dictOf es n)).map _ = _; rw [lookIn_dict, hl]; rfl) h

/-! the whole heap as the ledger: makes every rule that writes through a ledger a rule over any heap -/
def noObjs (h : Heap) : Heap := { h with objs := #[] }
theorem noObjs_get (h : Heap) (b : Addr) : (noObjs h).get? b = none := by
  cases e : (noObjs h).get? b with
  | none => rfl
  | some o => exact absurd (Heap.lt_size e) (Nat.not_lt_zero _)
def ledger (h : Heap) (L d : Addr) : List (Addr × Obj) := (List.range h.objs.size).filterMap fun a => if a = L ∨ a = d then none else (h.get? a).map fun o => (a, o)
theorem mem_ledger {h : Heap} {L d a : Addr} {o : Obj} : (a, o) ∈ ledger h L d ↔ a ≠ L ∧ a ≠ d ∧ h.get? a = some o := by
  unfold ledger
  rw [List.mem_filterMap]
  constructor
  · rintro ⟨b, _, e⟩
    split at e
    · cases e
    · rename_i hb
      obtain ⟨o', ho, e'⟩ := Option.map_eq_some_iff.mp e
      cases e'
      exact ⟨fun q => hb (.inl q), fun q => hb (.inr q), ho⟩
  · rintro ⟨n1, n2, ho⟩
    refine ⟨a, List.mem_range.mpr (Heap.lt_size ho), ?_⟩
    rw [if_neg (show ¬ (a = L ∨ a = d) from fun q => q.elim n1 n2), ho] <;> rfl
theorem news_ledger {h : Heap} {L d : Addr} {od : Obj} (hne : d ≠ L) (ho : h.get? d = some od) : News (noObjs h) L h ([] ++ (d, od) :: ledger h L d) := by
  rintro ⟨a, o⟩ hp
  rcases List.mem_cons.mp hp with e | hp
  · cases e
    exact ⟨ho, hne, noObjs_get _ _⟩
  · obtain ⟨n1, n2, e⟩ := mem_ledger.mp hp
    exact ⟨e, n1, noObjs_get _ _⟩
theorem fr_all {h : Heap} {L : Addr} {m : Str → Option Value} (n : h.Ns L m) : Fr (noObjs h) L h m :=
  ⟨n, fun b o e => (by rw [noObjs_get] at e; cases e), Nat.zero_le _⟩
/-- Upd of the head entry (for append_K, setItem_K ..) -/
theorem upd_ledger {h : Heap} {L d : Addr} {o o' : Obj} : Upd d o o' ((d, o) :: ledger h L d) ((d, o') :: ledger h L d) :=
  .head fun ⟨_, _⟩ hp => (mem_ledger.mp hp).2.1

/-- x.name = v over any heap: L is any namespace of the heap (the frame's, say): its map stays, its object is not told; all else but the dict stays -/
theorem set_field {x C dx L : Addr} {ox : Obj} {m : Str → Option Value} {es es' : List DictEntry} {n n' : Nat} {name : Str} {v : Value} {Q : Unit → Shared → Prop}
    (X : K.In s.heap) (I : PySem.W.InstAt s.heap x ox C (some (dictOf es n))) (hd : ox.dict = some dx) (hL : s.heap.Ns L m) (hne : dx ≠ L)
    (hs : findIn K (.ref C) "__setattr__" = some (some (.builtin "object.__setattr__"))) (hp : plainOver K C = true) (ht : takerIn K C name = some none) (hh : hasDictIn K C = true) (hl : (getL name es).isSome = true)
    (e : (putL name (PyData.keyHash w.params name) (.str name (s.toks + 1)) v es, putN name es n) = (es', n')) (hz : es'.length ≤ 1000)
    (h : ∀ h' : Heap, h'.Ns L m → h'.get? dx = some (dictOf es' n') → (∀ b o, b ≠ dx → b ≠ L → s.heap.get? b = some o → h'.get? b = some o) → Q () { s with heap := h', toks := s.toks + 2 }) :
    wpAny (model prog w) A (setAttr (.ref x) name v) Q E s := by
  obtain ⟨e1, e2⟩ := Prod.mk.inj e
  have hdx : s.heap.get? dx = some (dictOf es n) := by
    have := I.dict
    rw [hd] at this
    exact this
  refine set_plain X I hs (osa_dict (s := { s with toks := s.toks + 1 }) (h₀ := noObjs s.heap) (L := L) (m := m) (od := dictOf es n) (od' := dictOf es' n') (es := es') (n := n') (pre := []) (post := ledger s.heap L dx)
    (fr_all hL) (news_ledger hne hdx) X I hd hp ht hh hl (fun _ q => nomatch q) (fun ⟨_, _⟩ q => (mem_ledger.mp q).2.1) (by rw [putName_dict, e1, e2]) rfl hz fun h' F' N' => ?_)
  exact h h' F'.ns (N'.get (List.Mem.head _)) fun b o n1 n2 ho => N'.get (List.Mem.tail _ (mem_ledger.mpr ⟨n2, n1, ho⟩))
end
end Att

namespace L2
open PySem PySem.Spec PyProof.Rows

theorem vals_ints : ∀ {vs : List Value} {ns : List Int}, IntsAre vs ns → Vals (ns.map V.int) vs
  | _, _, .nil => .nil
  | _, _, .cons n t h => .cons ⟨t, rfl⟩ (vals_ints h)

/-- nothing is tracked but the script, known to the object (or it is an object of the module) -/
def Only (H : Hp) : Prop := ∀ b, H b = none ∨ ∃ o xs, H b = some (.frz o (.lst xs))

/-- THE HEAD: the law's promise, at the heap behind the top. F, the promise of the law's def, may use that base is part of the heap (so K.In base, base.Ns mainGlobals mg stand in Mod) -/
theorem law_call {P : Program} {w : World} {K : PySem.W.Frag} {mg mb : Str → Option Value} {CX : CXT} {k : Nat} {fa a : Addr} {fd : FuncData} {x : Str} {sp : Sp} {s₁ : Shared} {vs : List Value} {ns : List Int}
    (KX : K.In s₁.heap) (hns : s₁.heap.Ns mainGlobals mg) (hb : s₁.heap.Ns builtinsNs mb) (hbb : ∀ x : Str, x ≠ "__name__" → mb x = bootBuiltins x) (hlim : s₁.heap.NoLimit) (hg : s₁.gens = #[])
    (ha : s₁.heap.get? a = some { cls := .type "list", data := .seq vs.toArray }) (hi : IntsAre vs ns) (hl : ns.length ≤ sizeLine) (hr : Room k callerA)
    (F : ∀ base : Heap, K.In base → base.Ns mainGlobals mg → FnOk P w K mg base CX k fa fd [x] sp) (hbind : ∀ (s : Shared) (u : Value), BindsTo s fd ⟨[u], []⟩ [(x, u)])
    (hsp : ∀ H : Hp, Only H → SqL K H a (ns.map V.int) → sp [.ref a] H (fun v _ => v = .bl true) fun _ _ _ => False)
    (hCX : ∀ H e s', CX [] H s₁ (fun _ _ _ => False) e s' → False) :
    codeAny (model P w) callerA (.call (.ref fa) ⟨[.ref a], []⟩) (fun r s' => r = .ok (.ret (.bool true)) ∧ OldK s₁.heap s'.heap ∧ s'.os = s₁.os ∧ AllBare s'.gens) s₁ := by
  have rv := vals_ints hi
  have lenV := hi.length
  -- from an abstract heap in which nothing but the script may be tracked
  have core : ∀ H : Hp, Only H → SqL K H a (ns.map V.int) → HOk P w H s₁.heap → (∀ b, H b ≠ none → b = a) → (H a ≠ none → K.lookup a = none) →
      codeAny (model P w) callerA (.call (.ref fa) ⟨[.ref a], []⟩) (fun r s' => r = .ok (.ret (.bool true)) ∧ OldK s₁.heap s'.heap ∧ s'.os = s₁.os ∧ AllBare s'.gens) s₁ := by
    intro H hO hS hok hA hK
    have base_of : ∀ {b : Addr} {o : Obj}, s₁.heap.get? b = some o → H b = none → (hidT s₁.heap H).get? b = some o := fun e n => hidT_get e n
    have noA : ∀ {b : Addr} {o : Obj} {es : Array DictEntry} {ep : Nat}, s₁.heap.get? b = some o → o.data = .dict es ep → H b = none := fun {b o es ep} e d => by
      cases q : H b with
      | none => rfl
      | some u =>
        have e' : b = a := hA b (by rw [q]; simp)
        subst e'
        rw [ha] at e; cases e
        have d' : Data.seq vs.toArray _ = Data.dict es ep := d
        cases d'
    have nsK : ∀ {b : Addr} {m : Str → Option Value}, s₁.heap.Ns b m → (hidT s₁.heap H).Ns b m := fun {b m} ⟨o, es, ep, e, d, r⟩ => ⟨o, es, ep, base_of e (noA e d), d, r⟩
    have hKb : K.In (hidT s₁.heap H) := fun b o e => base_of (KX b o e) (by
      cases q : H b with
      | none => rfl
      | some u =>
        have e' : b = a := hA b (by rw [q]; simp)
        subst e'
        rw [hK (by rw [q]; simp)] at e; cases e)
    have hM : Mod K mg (hidT s₁.heap H) := ⟨hKb, nsK hns, ⟨mb, nsK hb, hbb⟩, let ⟨mc, h1, h2⟩ := hlim; ⟨mc, nsK h1, h2⟩⟩
    have e0 : Env0 P w K mg (hidT s₁.heap H) callerA [] s₁ H := ⟨rfl, hM, fun b o e => of_hidT e, Nat.le_of_eq (hidT_size _ _), trivial, fun b hb => absurd (show b ∈ ([] : List Addr) from hb) (by simp), hok, .of_eq hg⟩
    refine codeAny_mono ((F _ hKb (nsK hns)).run callerA [] s₁ H ⟨[.ref a], []⟩ [.ref a] [.ref a] _ _ hr e0 (hbind s₁ (.ref a)) (.cons rfl .nil) (hsp H hO hS)) fun r s' h => ?_
    cases r with
    | error e => exact (hCX H e s' h).elim
    | ok fl =>
      cases fl with
      | next => exact False.elim h
      | brk => exact False.elim h
      | cont => exact False.elim h
      | ret u =>
        obtain ⟨v, H', os, bare, un, hok', r', q⟩ := h
        have q' : v = .bl true := q
        subst q'
        obtain rfl : u = Value.bool true := r'
        refine ⟨rfl, OldK.of_keep fun b o e => ?_, os, bare⟩
        cases q : H b with
        | none => exact un.keep b o e q (by intro z; exact absurd (show b ∈ ([] : List Addr) from z) (by simp)) (by simp)
        | some u =>
          rcases hO b with z | ⟨ob, xs, z⟩
          · rw [q] at z; cases z
          · have z2 := un.frzs b ob _ z
            obtain ⟨e1, _⟩ := hok b _ z
            obtain ⟨e2, _⟩ := hok' b _ z2
            rw [e] at e1; cases e1
            exact e2
  cases hk : K.lookup a with
  | some o =>
    -- the script is one of the module's own objects
    have e := KX a o hk
    rw [ha] at e
    cases e
    refine core (fun _ => none) (fun _ => .inl rfl) (.inr ⟨_, vs.toArray, _, hk, rfl, rfl, rfl, by rw [List.size_toArray, lenV]; exact hl, by simpa using rv⟩) (fun b u z => by have z' : (none : Option HO) = some u := z; cases z') (fun b z => absurd rfl z) fun z => absurd rfl z
  | none =>
    refine core (fun b => if b = a then some (.frz { cls := .type "list", data := .seq vs.toArray } (.lst (ns.map V.int))) else none) (fun b => ?_) (.inl (.inr ⟨{ cls := .type "list", data := .seq vs.toArray }, if_pos rfl⟩)) (fun b u z => ?_) (fun b z => ?_) fun _ => hk
    · by_cases hb : b = a
      · exact .inr ⟨_, _, if_pos hb⟩
      · exact .inl (if_neg hb)
    · by_cases hb : b = a
      · have z' := (if_pos hb).symm.trans z
        cases z'
        subst hb
        exact ⟨ha, by rw [List.length_map]; exact hl, vs, _, rv, ha⟩
      · have z' := (if_neg hb).symm.trans z
        cases z'
    · by_cases hb : b = a
      · exact hb
      · exact absurd (if_neg hb) z
end L2

namespace L2
open PySem PySem.Spec PyProof.Rows

abbrev KOf {K : PySem.W.Frag} {h : Heap} (_ : K.In h) : PySem.W.Frag := K

/-- the goal that k_head leaves (case hc), from the law's promise. F gives the function object fd (K's own) once, then the promise over every base -/
theorem walk_of {l : PySem.W.OpenLaw} {n k : Nat} {q : Program} {loose : List Str} {XP : (Str → Option Value) → Heap → Prop} {YP : World → Heap → Prop} {d : DefRec} {K : Params → PySem.W.Frag} {CX : World → CXT} {sp : World → Sp} {x : Str}
    (hn : l.most = some n) (hn2 : n ≤ sizeLine) (hdf : d.params.defaults = []) (hr : Room k callerA)
    (hY : ∀ (w : World) (h : Heap), YP w h → (K w.params).In h)
    (F : ∀ (w : World) (mg : Str → Option Value) (fa : Addr) (h : Heap), (K w.params).In h → h.Ns mainGlobals mg → mg d.name = some (.ref fa) →
      ∃ fd : FuncData, (∀ (s : Shared) (u : Value), BindsTo s fd ⟨[u], []⟩ [(x, u)]) ∧
        ∀ base : Heap, (K w.params).In base → base.Ns mainGlobals mg → FnOk l.prog w (K w.params) mg base (CX w) k fa fd [x] (sp w))
    (hsp : ∀ (w : World) (H : Hp) (a : Addr) (ns : List Int), ns.length ≤ n → Only H → SqL (K w.params) H a (ns.map V.int) → sp w [.ref a] H (fun v _ => v = .bl true) fun _ _ _ => False)
    (hCX : ∀ (w : World) (H : Hp) (s : Shared) (e : Value) (s' : Shared), CX w [] H s (fun _ _ _ => False) e s' → False) :
    PySem.W.WalkO q loose XP YP l.row.toRowW d [] (fun f vs => PySem.call f vs) := by
  refine Att.attach_call hn hdf fun w s₀ s₁ mg mb fa o pm cd doc a vs ns G Y ho hd hcd hmg hobj hints hlen hg => ?_
  have KX := hY w _ Y
  obtain ⟨fd, hb, hF⟩ := F w mg fa _ KX G.T.g hmg
  exact law_call KX G.T.g G.T.b G.T.builtins G.T.nolimit hg hobj hints (Nat.le_trans hlen hn2) hr hF hb (fun H hO hS => hsp w H a ns hlen hO hS) fun H e s' => hCX w H s₁ e s'
/-- the same where the promise hangs on the written part alone: (sp := My.sp_law), no hole under a binder -/
theorem walk_ofK {l : PySem.W.OpenLaw} {n k : Nat} {q : Program} {loose : List Str} {XP : (Str → Option Value) → Heap → Prop} {YP : World → Heap → Prop} {d : DefRec} {K : Params → PySem.W.Frag} {CX : CXT} {sp : PySem.W.Frag → Sp} {x : Str}
    (hn : l.most = some n) (hn2 : n ≤ sizeLine) (hdf : d.params.defaults = []) (hr : Room k callerA)
    (hY : ∀ (w : World) (h : Heap), YP w h → (K w.params).In h)
    (F : ∀ (w : World) (mg : Str → Option Value) (fa : Addr) (h : Heap), (K w.params).In h → h.Ns mainGlobals mg → mg d.name = some (.ref fa) →
      ∃ fd : FuncData, (∀ (s : Shared) (u : Value), BindsTo s fd ⟨[u], []⟩ [(x, u)]) ∧
        ∀ base : Heap, (K w.params).In base → base.Ns mainGlobals mg → FnOk l.prog w (K w.params) mg base CX k fa fd [x] (sp (K w.params)))
    (hsp : ∀ (K : PySem.W.Frag) (H : Hp) (a : Addr) (ns : List Int), ns.length ≤ n → Only H → SqL K H a (ns.map V.int) → sp K [.ref a] H (fun v _ => v = .bl true) fun _ _ _ => False)
    (hCX : ∀ (H : Hp) (s : Shared) (e : Value) (s' : Shared), CX [] H s (fun _ _ _ => False) e s' → False) :
    PySem.W.WalkO q loose XP YP l.row.toRowW d [] (fun f vs => PySem.call f vs) :=
  walk_of (K := K) (CX := fun _ => CX) (sp := fun w => sp (K w.params)) hn hn2 hdf hr hY F (fun w H a ns h1 h2 h3 => hsp (K w.params) H a ns h1 h2 h3) fun _ H s e s' => hCX H s e s'
end L2

/- THE LAST THEOREM (shape; LID, My.* are yours):
   My.Adr: a structure of the addresses that your layer names (classes, functions); My.Txt K t: a structure (Prop) of the equations over K;
   My.txt_mk : {K} {implicit addresses ..} (e1 : nsIn K mainGlobals "law" = some (some (.ref f))) (e2 : K.lookup f = some ⟨oc, od, .func (fnOf "law" "law" params body scope dV kV doc pm an cdv ct), sl⟩) (e3 : codeIn K cdv "law" = true) .. : ∃ t, My.Txt K t

set_option maxRecDepth 100000 in
set_option maxHeartbeats 0 in
theorem PySem.Challenge.cw_LID_holds : PySem.Challenge.rw_LID.Holds := by
  w_on; o_law; k_head; (case hw => w_witness2)
  k_fill
  refine L2.walk_of (l := PySem.Challenge.rw_LID) (n := 63) (k := 40) (x := "script") (CX := fun w => ..) (sp := fun _ => My.sp_law) rfl (by decide) rfl ⟨rfl, by decide, by decide⟩ (fun w h Y => PySem.W.kIn_of Y) ?F ?S ?C
  case F =>
    intro w mg fa h KX G hmg
    have T : ∃ t, My.Txt (L2.KOf KX) t := by
      dsimp only [L2.KOf]                          -- K must stand as «<heap const> w.params» for k_is
      refine' My.txt_mk ?e1 ?e2 ?e3 ..
      (case e1 => PySem.W.k_is)                    -- in the order: a name -> its address -> its object -> its parts
      (case e2 => PySem.W.k_is)
      ..
    obtain ⟨t, T⟩ := T
    have e0 := hmg.symm.trans (PySem.W.mg_of KX G T.law)
    cases e0                                       -- fa is the law's own address
    exact ⟨_, fun s u => .of_eq rfl, fun base kb nb => My.law_fn T kb nb⟩     -- if «.of_eq rfl» comes too early: refine' ⟨_, ?b, fun base kb nb => My.law_fn T kb nb⟩; exact fun s u => .of_eq rfl
  case S => exact fun w H a ns hl hO hS => ..
  case C => exact ..
(the tactic k_is has no namespace: write k_is) -/

/-! SHORT WORDS over the layer: a def of the text, its body, what a loop and a test want. -/
namespace L2
open PySem PySem.Spec PyProof.Rows

/-! ### the text by places -/
/-- the j-th statement of a class's body -/
def inClass (s : Stmt) (j : Nat) : Stmt := match s with
  | .ClassDef _ _ _ body _ _ _ _ _ _ _ => body.getD j (.Pass ⟨0, 0, 0, 0⟩)
  | _ => .Pass ⟨0, 0, 0, 0⟩
def defArgs (s : Stmt) : Arguments := match s with
  | .FunctionDef _ a _ _ _ _ _ _ _ _ => a
  | _ => { posonlyargs := [], args := [], vararg := none, kwonlyargs := [], kw_defaults := [], kwarg := none, defaults := [] }
def defBody (s : Stmt) : List Stmt := match s with
  | .FunctionDef _ _ b _ _ _ _ _ _ _ => b
  | _ => []
def defScope (s : Stmt) : Scope := match s with
  | .FunctionDef _ _ _ _ _ _ sc _ _ _ => sc
  | _ => { kind := .function, names := [], isGenerator := false, isCoroutine := false }

/-! ### no exception leaves a def -/
abbrev CX0 : CXT := fun _ _ _ _ _ _ => False
abbrev E0 : XK := fun _ _ _ => False
theorem pass0 {X : Cx} : Passes CX0 X E0 := fun _ _ _ _ _ _ _ h => h.elim

/-! ### a def (or method) of the text as it stands behind the top -/
structure Fun (K : PySem.W.Frag) (x qual : Str) (st : Stmt) (f : Addr) (fd : FuncData) : Prop where
  ex : ∃ (oc : Value) (od : Option Addr) (kV doc pm : Value) (an : Option Addr) (cdv ct : Value) (osl : Array (Option Value)),
    fd = PySem.W.fnOf x qual (defArgs st) (defBody st) (defScope st) .none kV doc pm an cdv ct ∧ K.lookup f = some ⟨oc, od, .func fd, osl⟩ ∧ PySem.W.codeIn K cdv qual = true
  kp : PySem.W.keepIn K (.ref f) = true
section
variable {P : Program} {w : World} {K : PySem.W.Frag} {mg : Str → Option Value} {base : Heap}
/-- THE RULE for a def: its body as a term of rules, and the reading of that term -/
theorem Fun.ok {x qual : Str} {st : Stmt} {f : Addr} {fd : FuncData} {N ps : List Str} {k : Nat} {sp : Sp} (F : Fun K x qual st f fd) (S : FnScope N ps (defScope st)) (len : ∀ vs H Q E, sp vs H Q E → vs.length = ps.length)
    (hbody : ∀ (cdv : Value) (A : Around) (outer : List Env) (s : Shared) (H : Hp) (vs : List V) (Q : VK) (E : XK), Room k (A.deeper (envOfC qual (defScope st) s.heap.objs.size f cdv)) → sp vs H Q E →
      ∃ t, PSs (cxOf CX0 P w K mg base N qual (defScope st) f cdv A outer s H E).nox (defBody st) t ∧ t { nx := fun _ H' => Q .non H', rt := Q } (start N vs) H) : FnOk P w K mg base CX0 (k + 1) f fd ps sp := by
  obtain ⟨oc, od, kV, doc, pm, an, cdv, ct, osl, rfl, lk, hcd⟩ := F.ex
  refine fn_of lk hcd S len fun A outer s H vs Q E hr hsp => ?_
  obtain ⟨t, h, q⟩ := hbody cdv A outer s H vs Q E hr hsp
  exact ⟨t, h.nox, q⟩
/-- how its arguments bind (no defaults): h is «fun _ _ _ _ _ _ us hl => match us, hl with | [_, _], _ => rfl», one _ a parameter -/
theorem Fun.binds {x qual : Str} {st : Stmt} {f : Addr} {fd : FuncData} {ps : List Str} (F : Fun K x qual st f fd)
    (h : ∀ (kV doc pm : Value) (an : Option Addr) (cdv ct : Value) (us : List Value), us.length = ps.length → bindArgs (PySem.W.fnOf x qual (defArgs st) (defBody st) (defScope st) .none kV doc pm an cdv ct) ⟨us, []⟩ = pure (ps.zip us)) : Binds K fd ps [] := by
  obtain ⟨oc, od, kV, doc, pm, an, cdv, ct, osl, rfl, lk, hcd⟩ := F.ex
  exact .all (h kV doc pm an cdv ct)
theorem fun_mk {x qual : Str} {st : Stmt} {f : Addr} {oc : Value} {od an : Option Addr} {osl : Array (Option Value)} {kV doc pm cdv ct : Value} (l : K.lookup f = some ⟨oc, od, .func (PySem.W.fnOf x qual (defArgs st) (defBody st) (defScope st) .none kV doc pm an cdv ct), osl⟩)
    (c : PySem.W.codeIn K cdv qual = true) (k : PySem.W.keepIn K (.ref f) = true) : Fun K x qual st f (PySem.W.fnOf x qual (defArgs st) (defBody st) (defScope st) .none kV doc pm an cdv ct) := ⟨⟨oc, od, kV, doc, pm, an, cdv, ct, osl, rfl, l, c⟩, k⟩
end
theorem hu_of {A : Around} {k : Nat} (hr : Room k A) : A.units + 1 < cLine := Nat.lt_of_le_of_lt (Nat.add_le_add_left (by decide : 1 ≤ 64) _) hr.units
theorem small1000 {n : Nat} (h : n ≤ 1000) : n < sizeLine := Nat.lt_of_le_of_lt h (by decide)

/-! ### expressions in short: the name that stands in the i-th slot -/
section
variable {X : Cx}
theorem pv (i : Nat) {x : Str} {pos : Pos} (hN : X.N[i]? = some x := by rfl) (hv : Vis X.env.scope x := by first | exact Or.inl rfl | exact Or.inr (Or.inl rfl) | exact Or.inr (Or.inr rfl)) (hd : (x == ("__debug__" : Str)) = false := by decide)
    (hcd : (x == ("__classdict__" : Str)) = false := by decide) : PE X (.Name x pos) (tVar i) := pe_var hN hv hd hcd
end

/-! ### tests -/
theorem iteF {A B : Prop} (h : B) : if false = true then A else B := by
  rw [if_neg Bool.false_ne_true]
  exact h
theorem iteT {A B : Prop} (h : A) : if true = true then A else B := by
  rw [if_pos rfl]
  exact h
theorem ite2 {c A B : Prop} [Decidable c] (h1 : c → A) (h2 : ¬ c → B) : if c then A else B := by
  by_cases h : c
  · rw [if_pos h]
    exact h1 h
  · rw [if_neg h]
    exact h2 h
theorem iteNS {c A B : Prop} [Decidable c] (hc : c) (h : B) : if (!decide c) = true then A else B := by
  rw [decide_eq_true hc]
  exact iteF h

/-! ### heaps -/
/-- all that was tracked is as it was -/
def Same (H H' : Hp) : Prop := ∀ b o, H b = some o → H' b = some o
theorem Same.refl (H : Hp) : Same H H := fun _ _ h => h
theorem Same.trans {H H1 H2 : Hp} (a : Same H H1) (b : Same H1 H2) : Same H H2 := fun c o h => b c o (a c o h)
theorem Same.free {H H' : Hp} (e : Same H H') {l : Addr} (h : H' l = Option.none) : H l = Option.none := by
  cases q : H l with
  | none => rfl
  | some o =>
    rw [e l o q] at h
    cases h
theorem Same.seq {K : PySem.W.Frag} {H H' : Hp} {a : Addr} {xs : List V} (e : Same H H') (h : SqL K H a xs) : SqL K H' a xs := by
  rcases h with (h | ⟨o, h⟩) | h
  · exact .inl (.inl (e _ _ h))
  · exact .inl (.inr ⟨o, e _ _ h⟩)
  · exact .inr h

end L2

set_option Elab.async false
set_option linter.all false
set_option maxRecDepth 100000
set_option maxHeartbeats 4000000
/-! A list comprehension (one clause, a plain name as target, no test) over the layer: its block is a context of its own. -/
namespace L2
open PySem PySem.Spec PyProof.Rows

/-! ### the cells that the block takes over -/
theorem forIn_fold {α β : Type} {f : α → β → Sem (ForInStep β)} (g : α → β → β) : ∀ (l : List α) (c : β), (∀ x ∈ l, ∀ c, f x c = pure (.yield (g x c))) → forIn l c f = (pure (l.foldl (fun c x => g x c) c) : Sem β)
  | [], _, _ => rfl
  | x :: l, c, h => by
    rw [List.forIn_cons, h x List.mem_cons_self, pure_bind]
    exact forIn_fold g l _ fun y hy => h y (List.mem_cons_of_mem _ hy)
def closStep (env : Env) (y : Str × NameKind) (cs : List (Str × Addr)) : List (Str × Addr) := if y.2 == NameKind.free then (y.1, (env.cells.lookup y.1).getD 0) :: cs else cs
def closOf (env : Env) (names : List (Str × NameKind)) : List (Str × Addr) := names.foldl (fun cs y => closStep env y cs) []
theorem closureFor_of {scope : Scope} {env : Env} (h : ∀ y ∈ scope.names, y.2 = .free → ∃ c, env.cells.lookup y.1 = some c) : closureFor scope env = pure (closOf env scope.names) := by
  simp only [closureFor]
  rw [forIn_fold (closStep env) scope.names [] (fun y hy c => ?_)]
  · rfl
  · obtain ⟨n, k⟩ := y
    dsimp only
    cases hk : (k == NameKind.free) with
    | false => simp [closStep, hk]
    | true =>
      obtain ⟨a, ha⟩ := h _ hy (by simpa using hk)
      dsimp only at ha
      simp [closStep, hk, cellOf, ha]
theorem lookup_head {β : Type} {x n : Str} {v : β} {l : List (Str × β)} : List.lookup x ((n, v) :: l) = if x = n then some v else l.lookup x := by
  rw [List.lookup_cons]
  by_cases h : x = n
  · subst h; simp
  · have : (x == n) = false := beq_eq_false_iff_ne.mpr h
    simp [this, h]
theorem clos_only {env : Env} {x : Str} {c : Addr} : ∀ (l : List (Str × NameKind)) (cs : List (Str × Addr)), (l.foldl (fun cs y => closStep env y cs) cs).lookup x = some c →
    (c = (env.cells.lookup x).getD 0 ∧ ∃ y ∈ l, y.1 = x ∧ y.2 = .free) ∨ cs.lookup x = some c
  | [], _, h => .inr h
  | y :: l, cs, h => by
    rw [List.foldl_cons] at h
    rcases clos_only l _ h with ⟨h1, z, hz, h2⟩ | h1
    · exact .inl ⟨h1, z, List.mem_cons_of_mem _ hz, h2⟩
    · unfold closStep at h1
      split at h1
      · rename_i hk
        rw [lookup_head] at h1
        split at h1
        · rename_i hx
          cases h1
          exact .inl ⟨by rw [hx], y, List.mem_cons_self, hx.symm, by simpa using hk⟩
        · exact .inr h1
      · exact .inr h1
theorem clos_keep {env : Env} {x : Str} : ∀ (l : List (Str × NameKind)) (cs : List (Str × Addr)), cs.lookup x = some ((env.cells.lookup x).getD 0) → (l.foldl (fun cs y => closStep env y cs) cs).lookup x = some ((env.cells.lookup x).getD 0)
  | [], _, h => h
  | y :: l, cs, h => by
    rw [List.foldl_cons]
    refine clos_keep l _ ?_
    unfold closStep
    split
    · rw [lookup_head]
      split
      · rename_i hx; rw [hx]
      · exact h
    · exact h
theorem clos_has {env : Env} {x : Str} : ∀ (l : List (Str × NameKind)) (cs : List (Str × Addr)), (∃ y ∈ l, y.1 = x ∧ y.2 = .free) → (l.foldl (fun cs y => closStep env y cs) cs).lookup x = some ((env.cells.lookup x).getD 0)
  | [], _, ⟨_, h, _⟩ => by cases h
  | y :: l, cs, ⟨z, hz, e, k⟩ => by
    rw [List.foldl_cons]
    rcases List.mem_cons.mp hz with q | q
    · subst q
      refine clos_keep l _ ?_
      unfold closStep
      rw [if_pos (by rw [k]; rfl), lookup_head, if_pos e.symm, e]
    · exact clos_has l _ ⟨z, q, e, k⟩
theorem relabel_cell {env : Env} {x : Str} : ∀ {names : List (Str × NameKind)}, (∀ y ∈ names, y.2 ≠ .cell) →
    ((names.map fun (n, k) => if (k == NameKind.free && env.scope.kind == .function && env.kindOf n == some .cell) then (n, NameKind.cell) else (n, k)).lookup x = some .cell ∨
     (names.map fun (n, k) => if (k == NameKind.free && env.scope.kind == .function && env.kindOf n == some .cell) then (n, NameKind.cell) else (n, k)).lookup x = some .free) → names.lookup x = some .free
  | [], _, h => by simp at h
  | (n, k) :: r, hc, h => by
    have ih := @relabel_cell env x r fun y hy => hc y (List.mem_cons_of_mem _ hy)
    rw [List.map_cons] at h
    rw [lookup_head]
    by_cases hx : x = n
    · rw [if_pos hx]
      have nk : k ≠ .cell := hc (n, k) List.mem_cons_self
      dsimp only at h
      split at h
      · rename_i hk
        simp only [Bool.and_eq_true] at hk
        have : k = .free := by simpa using hk.1.1
        rw [this]
      · rw [lookup_head, if_pos hx] at h
        rcases h with h | h
        · exact absurd (Option.some.inj h) nk
        · exact h
    · rw [if_neg hx]
      refine ih ?_
      dsimp only at h
      split at h <;> (rw [lookup_head, if_neg hx] at h; exact h)
theorem relabel_free {env : Env} {x : Str} (hf : env.scope.kind = .function) (hk : env.kindOf x = some .cell) : ∀ {names : List (Str × NameKind)}, names.lookup x = some .free →
    (names.map fun (n, k) => if (k == NameKind.free && env.scope.kind == .function && env.kindOf n == some .cell) then (n, NameKind.cell) else (n, k)).lookup x = some .cell
  | [], h => by simp at h
  | (n, k) :: r, h => by
    rw [lookup_head] at h
    rw [List.map_cons]
    dsimp only
    by_cases hx : x = n
    · rw [if_pos hx] at h
      have hk' : k = .free := Option.some.inj h
      subst hx; subst hk'
      rw [if_pos (by rw [hf, hk]; rfl), lookup_head, if_pos rfl]
    · rw [if_neg hx] at h
      have ih := relabel_free hf hk h
      split <;> (rw [lookup_head, if_neg hx]; exact ih)

/-! ### the block's context -/
def capSt (σ : St) (ix : List (Option Nat)) : St := ix.map fun o => o.bind fun i => (σ[i]?).join
theorem capSt_get {σ : St} {ix : List (Option Nat)} {j : Nat} {v : V} (h : (capSt σ ix)[j]? = some (some v)) : ∃ i, ix[j]? = some (some i) ∧ σ[i]? = some (some v) := by
  unfold capSt at h
  rw [List.getElem?_map] at h
  cases e : ix[j]? with
  | none => rw [e] at h; cases h
  | some o =>
    rw [e] at h
    have h : (o.bind fun i => (σ[i]?).join) = some v := Option.some.inj h
    cases o with
    | none => cases h
    | some i =>
      have h : (σ[i]?).join = some v := h
      refine ⟨i, rfl, ?_⟩
      cases e2 : σ[i]? with
      | none => rw [e2] at h; cases h
      | some w =>
        rw [e2] at h
        have h : w = some v := h
        rw [h]
def capOk (N : List Str) (sc scope : Scope) : List (Option Nat) → List Str → Bool
  | [], [] => true
  | o :: r, y :: ys => (match o with | none => true | some i => decide (N[i]? = some y) && decide (sc.names.lookup y = some .cell) && decide (scope.names.lookup y = some .free)) && capOk N sc scope r ys
  | _, _ => false
theorem capOk_at {N : List Str} {sc scope : Scope} : ∀ {ix : List (Option Nat)} {ys : List Str}, capOk N sc scope ix ys = true → ∀ {j i : Nat} {y : Str}, ix[j]? = some (some i) → ys[j]? = some y → N[i]? = some y ∧ sc.names.lookup y = some .cell ∧ scope.names.lookup y = some .free
  | [], _, _, _, _, _, e, _ => by simp at e
  | _ :: _, [], h, _, _, _, _, _ => by simp [capOk] at h
  | o :: r, z :: zs, h, 0, i, y, e1, e2 => by
    simp at e1 e2; subst e1; subst e2
    simp only [capOk, Bool.and_eq_true, decide_eq_true_eq] at h
    exact ⟨h.1.1.1, h.1.1.2, h.1.2⟩
  | o :: r, z :: zs, h, j + 1, i, y, e1, e2 => by
    simp only [capOk, Bool.and_eq_true] at h
    exact capOk_at h.2 (by simpa using e1) (by simpa using e2)
theorem capOk_len {N : List Str} {sc scope : Scope} : ∀ {ix : List (Option Nat)} {ys : List Str}, capOk N sc scope ix ys = true → ix.length = ys.length
  | [], [], _ => rfl
  | [], _ :: _, h => by simp [capOk] at h
  | _ :: _, [], h => by simp [capOk] at h
  | o :: r, z :: zs, h => by
    simp only [capOk, Bool.and_eq_true] at h
    rw [List.length_cons, List.length_cons, capOk_len h.2]
/-- the closed facts of a comprehension: N, sc the def's names and scope; Nc, scope the block's; ti the target's slot; ix where the block's names stand in N -/
structure CompOk (N : List Str) (sc : Scope) (Nc : List Str) (scope : Scope) (ti : Nat) (x : Str) (ix : List (Option Nat)) : Prop where
  kind : scope.kind = .function
  nocell : ∀ y ∈ scope.names, y.2 ≠ .cell
  names : ∀ y ∈ scope.names, y.2 = .local → scope.names.lookup y.1 = some .local
  tgt : scope.names.lookup x = some .local
  nd : Nc.Nodup
  «at» : Nc[ti]? = some x
  free : ∀ y ∈ scope.names, y.2 = .free → sc.names.lookup y.1 = some .cell
  cap : capOk N sc scope ix Nc = true
abbrev Cx.comp (X : Cx) (Nc : List Str) (scope : Scope) (cl : List (Str × Addr)) (C : Addr) (s : Shared) (H : Hp) (fp : List Addr) : Cx :=
  { prog := X.prog, w := X.w, K := X.K, mg := X.mg, base := X.base, A := X.A, N := Nc, s₀ := s, H₀ := H, env := compEnvC scope cl C X.env, outer := X.stack, stack := X.stack, ex := fp, fn := fun _ => false, calm := X.calm, pn := [], xe := fun _ _ => False }
section
variable {X : Cx} {pins : List (Addr × Obj)} {σ : St} {H : Hp} {s : Shared} {Nc : List Str} {scope : Scope} {ti : Nat} {x : Str} {ix : List (Option Nat)} {fp : List Addr}
theorem fp_stack (I : Inv X pins σ H s) {b : Addr} (f : FpOk X pins H b) : b ∉ frs X.stack := fun hb => by
  rcases List.mem_cons.mp (I.stkSub b hb) with e | hb
  · exact f.2.1 e
  · exact f.2.2.1 hb
theorem inv_comp (hc : CompOk X.N X.env.scope Nc scope ti x ix) (I : Inv X pins σ H s) (f : ∀ b ∈ fp, FpOk X pins H b) (hb : ∀ b ∈ fp, b < s.heap.objs.size) {h' : Heap} {tk : Nat} {m0 : Str → Option Value}
    (hn : h'.Ns s.heap.objs.size m0) (hk : ∀ b o, s.heap.get? b = some o → h'.get? b = some o) :
    Inv (X.comp Nc scope (closOf X.env scope.names) s.heap.objs.size s H fp) [] (capSt σ ix) H { s with heap := h', toks := tk } := by
  have sub : ∀ {y : Str} {c : Addr}, (closOf X.env scope.names).lookup y = some c → X.env.cells.lookup y = some c := fun {y c} e => by
    rcases clos_only scope.names [] e with ⟨h1, z, hz, h2, h3⟩ | h1
    · obtain ⟨c', hc'⟩ := I.ok.has y (.inl (by rw [← h2]; exact hc.free z hz h3))
      rw [hc'] at h1 ⊢
      rw [h1]; rfl
    · simp at h1
  have sup : ∀ {y : Str}, scope.names.lookup y = some .free → ∃ c, (closOf X.env scope.names).lookup y = some c ∧ X.env.cells.lookup y = some c := fun {y} e => by
    have mem := PySem.mem_of_lookup e
    obtain ⟨c', hc'⟩ := I.ok.has y (.inl (hc.free _ mem rfl))
    refine ⟨c', ?_, hc'⟩
    have q := clos_has (env := X.env) scope.names [] ⟨_, mem, rfl, rfl⟩
    rw [hc'] at q
    exact q
  refine ⟨⟨I.ok.mod, hc.kind, I.ok.glob, I.ok.blt, Nat.le_refl _, fun y z c h1 h2 => I.ok.inj y z c (sub h1) (sub h2), fun y hy => ?_, fun _ _ z => (nomatch (show false = true from z)), I.ok.hd, I.ok.frames, .inl rfl, fun b hb' => ⟨Nat.ne_of_lt (hb b hb'), fun y c e => (f b hb').2.2.2.2.1 y c (sub e)⟩,
    fun b o e => I.bs b o e, Nat.le_trans I.ok.bsz I.sz, fun b o e hb' => ?_, fun b hb' => fp_stack I (f b hb'), I.stack, I.stkFree⟩,
    rfl, I.bare, Un.kept hk, ⟨m0, hn, fun j y v h1 h2 h3 => ?_⟩, fun y c e => ?_, I.fresh, fun y c e => I.freeC y c (sub e), fun p hp => absurd (show p ∈ ([] : List (Addr × Obj)) from hp) (by simp), I.hok.kept hk, ?_⟩
  · obtain ⟨c, e, _⟩ := sup (relabel_cell hc.nocell hy)
    exact ⟨c, e⟩
  · rcases (f b hb').2.2.2.1 with z | z
    · exact I.ok.noex b o e z
    · exact absurd (Nat.lt_of_lt_of_le (Heap.lt_size e) (Nat.le_trans I.ok.bsz z)) (Nat.lt_irrefl _)
  · obtain ⟨i, e1, e2⟩ := capSt_get h2
    obtain ⟨q1, q2, q3⟩ := capOk_at hc.cap e1 h1
    obtain ⟨mo, hno, hl⟩ := I.loc
    obtain ⟨u, r, l⟩ := hl i y v q1 e2 (.inr (.inl q2))
    refine ⟨u, r, ?_⟩
    rcases l with ⟨z, _⟩ | ⟨_, c, ec, z⟩
    · have z : X.env.scope.names.lookup y = some .local := z
      rw [q2] at z; cases z
    · obtain ⟨c', e3, e4⟩ := sup q3
      rw [ec] at e4; cases e4
      obtain ⟨o, ho, hd⟩ := z
      exact .inr ⟨.inl (relabel_free I.ok.kind q2 q3), c, e3, ⟨o, hk _ _ ho, hd⟩⟩
  · obtain ⟨v, o, ho, hd⟩ := I.cell y c (sub e)
    exact ⟨v, o, hk _ _ ho, hd⟩
  · unfold capSt
    rw [List.length_map]
    exact capOk_len hc.cap
theorem comp_back {σc : St} {H' : Hp} {s' : Shared} {cl : List (Str × Addr)} (I : Inv X pins σ H s) (f : ∀ b ∈ fp, FpOk X pins H b)
    (J : Inv (X.comp Nc scope cl s.heap.objs.size s H fp) [] σc H' s') : Inv X pins σ H' s' ∧ FpOk X pins H' s.heap.objs.size :=
  ⟨I.call' (ch := fp) J.os J.base J.hok J.bare fun b hb => ⟨(f b hb).2.2.2.1, (f b hb).2.1, (f b hb).2.2.2.2.1, (f b hb).2.2.2.2.2⟩, I.fpOk (Nat.le_refl _) J.free⟩
theorem Inv.scrub {C : Addr} {h' : Heap} (I : Inv X pins σ H s) (f : FpOk X pins H C) (hs : Heap.SameBut C s.heap h') : Inv X pins σ H { s with heap := h' } :=
  I.turned (t' := s.toks) (fun b o hb e => (hs.2 b hb).trans e) f.1 f.2.1 f.2.2.2.1 f.2.2.2.2.1 f.2.2.2.2.2
end

/-! ### the loop of a comprehension -/
section
variable {prog : Program} {w : World} {A : Around} {R : Result → Shared → Prop} {s : Shared}
theorem compLoop_own {elt target iter : Expr} {scope : Scope} {pos : Pos} {it acc : Value} {env : Env} (I : Nat → Shared → Prop)
    (turn : ∀ n s, I n s → wpAny (model prog w) A (pyNext it) (fun r s₁ => match r with
      | none => R (.ok .next) s₁
      | some v => wpAny (model prog w) A (letOwnedTupleGo target it v) (fun _ s1 => wpAny (model prog w) A (assign target env v) (fun _ s₂ => wpAny (model prog w) A (eval elt env) (fun y s₃ =>
          wpAny (model prog w) A (call (.builtin "list.append") [acc, y]) (fun _ s₄ => ∃ m, m < n ∧ I m s₄) (fun _ _ => False) s₃) (fun _ _ => False) s₂) (fun _ _ => False) s1) (fun _ _ => False) s₁) (fun _ _ => False) s)
    (n : Nat) (h : I n s) : codeAny (model prog w) A (.compLoop (.ListComp elt [⟨target, iter, [], 0⟩] scope pos) 0 it acc env) R s := by
  refine codeAny_loop rfl I (fun n s hI => ?_) n h
  show wpAny _ _ ((compTurn (.ListComp elt [⟨target, iter, [], 0⟩] scope pos) 0 it acc env).onRaise (fun x => do noteFrame x env; theTreesLotGoes x)) _ _ s
  refine wpAny_noted ?_
  rw [compTurn_list1]
  refine wpAny_bind (wpAny_standAt (wpAny_bind (wpAny_mono (turn n s hI) (fun r s₁ h₁ => ?_) fun _ _ h' => False.elim h')))
  cases r with
  | none => exact wpAny_pure h₁
  | some v =>
    refine wpAny_bind (wpAny_mono h₁ (fun _ s1 h1 => ?_) fun _ _ h' => False.elim h')
    exact wpAny_bind (wpAny_mono h1 (fun _ s₂ h₂ => wpAny_bind (wpAny_bind (wpAny_mono h₂ (fun x s₃ h₃ => wpAny_bind (wpAny_mono h₃
      (fun _ s₄ h₄ => wpAny_pure (wpAny_pure ⟨rfl, h₄⟩)) fun _ _ h' => False.elim h')) fun _ _ h' => False.elim h'))) fun _ _ h' => False.elim h')
end

/-- what is wanted of a comprehension once its iterator J stands: D the new list, W the invariant by the turn, a measure and the items so far -/
def LCw (ix : List (Option Nat)) (ti : Nat) (te : TE) (σ : St) (Q : VK) (J : It) (H1 : Hp) : Prop :=
  ∀ D, H1 D = none → ∃ W : Nat → Nat → List V → Hp → Prop, (∃ m, W 0 m [] (upd H1 D (.lst []))) ∧ ∀ i m ys H2, W i m ys H2 →
    H2 D = some (.lst ys) ∧ ((J.stop i H2 ∧ Q (.ref D) H2) ∨ (J.go i H2 ∧ ∀ x H', J.yld i H2 x H' → te ((capSt σ ix).set ti (some x)) H' fun y H3 => ys.length < sizeLine ∧ H3 D = some (.lst ys) ∧ ∃ m', m' < m ∧ W (i + 1) m' (ys ++ [y]) (upd H3 D (.lst (ys ++ [y])))))
def tLC (wi : TI) (ix : List (Option Nat)) (ti : Nat) (te : TE) : TE := fun σ H Q => wi σ H (LCw ix ti te σ Q)
section
variable {X : Cx} {pins : List (Addr × Obj)} {σ : St} {Nc : List Str} {scope : Scope} {ti : Nat} {x : Str} {ix : List (Option Nat)}
theorem comp_run {elt iter : Expr} {px pos : Pos} {te : TE} {Q : VK} {E : Value → Shared → Prop} {H1 : Hp} {s2 : Shared} {it : Addr} {fp : List Addr} {tn : Nat → Heap → Prop} {J : It} {RR : Value → Addr → Result → Shared → Prop}
    (hcalm : X.calm = true) (hc : CompOk X.N X.env.scope Nc scope ti x ix) (he : ∀ cl C s H fp, PE (X.comp Nc scope cl C s H fp) elt te)
    (I2 : Inv X pins σ H1 s2) (T : Turn X.prog X.w X.K (.Name x px) J fp it tn) (t0 : tn 0 s2.heap) (f2 : ∀ b ∈ fp, FpOk X pins H1 b) (hR : LCw ix ti te σ Q J H1)
    (fin : ∀ D C H' s', Inv X pins σ H' s' → FpOk X pins H' C → (∃ m, s'.heap.Ns C m) → Q (.ref D) H' → RR (.ref D) C (.ok .next) s') :
    wpAny (model X.prog X.w) X.A (newList []) (fun acc s₃ => wpAny (model X.prog X.w) X.A (newFunctionEnv scope X.env.globals (closOf X.env scope.names) [] X.env.qual none .none (some X.env)) (fun cenv s₄ =>
      codeAny (model X.prog X.w) X.A (.compStart (.ListComp elt [⟨.Name x px, iter, [], 0⟩] scope pos) 0 (.ref it) acc { cenv with scope := relabel scope X.env }) (RR acc cenv.locals) s₄) E s₃) E s2 := by
  refine wpAny_newObj_type (wpAny_newFunctionEnv hc.nocell (by intro y hy; simp at hy) (fun h₁ hns₁ hsb₁ => ?_) hc.kind)
  dsimp only at hns₁ hsb₁ ⊢
  obtain ⟨W, ⟨m0, w0⟩, turn⟩ := hR s2.heap.objs.size I2.fresh
  have I3 : Inv X pins σ (upd H1 s2.heap.objs.size (.lst [])) { s2 with heap := s2.heap.push { cls := .type "list", data := .seq ([] : List Value).toArray } } := I2.lnew (t' := s2.toks) .nil (Nat.zero_le _)
  generalize hH3 : upd H1 s2.heap.objs.size (.lst []) = H3 at I3 w0
  generalize hs3 : ({ s2 with heap := s2.heap.push { cls := .type "list", data := .seq ([] : List Value).toArray } } : Shared) = s3 at I3
  have hh3 : s2.heap.push { cls := .type "list", data := .seq ([] : List Value).toArray } = s3.heap := by rw [← hs3]
  have kp3 : ∀ b o, s2.heap.get? b = some o → s3.heap.get? b = some o := fun b o e => by rw [← hh3]; exact Heap.get?_push_of_some _ e
  have f3 : ∀ b ∈ fp, FpOk X pins H3 b := fun b hb => by
    obtain ⟨o, e, _⟩ := T.obj 0 _ t0 b hb
    refine ⟨?_, (f2 b hb).2⟩
    rw [← hH3, upd_ne (Nat.ne_of_lt (Heap.lt_size e))]
    exact (f2 b hb).1
  have lt3 : ∀ b ∈ fp, b < s3.heap.objs.size := fun b hb => by
    obtain ⟨o, e, _⟩ := T.obj 0 _ t0 b hb
    exact Heap.lt_size (kp3 _ _ e)
  have kp4 : ∀ b o, s3.heap.get? b = some o → h₁.get? b = some o := fun b o e => by
    have hsb := hsb₁
    rw [hh3] at hsb
    exact hsb.extBut b o (Nat.ne_of_lt (Heap.lt_size e)) (Heap.get?_push_of_some _ e)
  have hns : h₁.Ns s3.heap.objs.size (fun x => ([] : List (Str × Value)).reverse.lookup x) := by rw [← hh3]; exact hns₁
  have t4 : tn 0 h₁ := T.keep 0 _ _ t0 fun b _ o e => kp4 _ _ (kp3 _ _ e)
  have szE : (s2.heap.push { cls := .type "list", data := .seq ([] : List Value).toArray }).objs.size = s3.heap.objs.size := by rw [hh3]
  have I4 : ∀ tk, Inv (X.comp Nc scope (closOf X.env scope.names) s3.heap.objs.size s3 H3 fp) [] (capSt σ ix) H3 { s3 with heap := h₁, toks := tk } := fun tk => inv_comp hc I3 f3 lt3 hns kp4
  have fpc : ∀ {H' : Hp}, (∀ b ∈ fp, H' b = none) → ∀ b ∈ fp, FpOk (X.comp Nc scope (closOf X.env scope.names) s3.heap.objs.size s3 H3 fp) [] H' b := fun {H'} hn b hb =>
    ⟨hn b hb, Nat.ne_of_lt (lt3 b hb), fp_stack I3 (f3 b hb), .inl hb, fun y c e => (I4 0).ok.exf b hb |>.2 y c e, fun p hp => absurd (show p ∈ ([] : List (Addr × Obj)) from hp) (by simp)⟩
  have loop : ∀ s4 : Shared, (∃ tk, s4 = { s3 with heap := h₁, toks := tk }) →
      codeAny (model X.prog X.w) X.A (.compLoop (.ListComp elt [⟨.Name x px, iter, [], 0⟩] scope pos) 0 (.ref it) (.ref s2.heap.objs.size) (compEnvC scope (closOf X.env scope.names) s3.heap.objs.size X.env))
        (RR (.ref s2.heap.objs.size) s3.heap.objs.size) s4 := by
    rintro s4 ⟨tk, rfl⟩
    refine compLoop_own (fun n s' => ∃ i ys o H', Inv (X.comp Nc scope (closOf X.env scope.names) s3.heap.objs.size s3 H3 fp) [] ((capSt σ ix).set ti o) H' s' ∧ tn i s'.heap ∧ (∀ b ∈ fp, H' b = none) ∧ W i n ys H') ?_ m0
      ⟨0, [], none, H3, (I4 tk).weak (by simp) fun j v e => ?_, t4, fun b hb => (f3 b hb).1, w0⟩
    · rintro n s5 ⟨i, ys, o, H5, I5, t5, fr5, w5⟩
      obtain ⟨hD, hw⟩ := turn i n ys H5 w5
      rcases hw with ⟨stop, q⟩ | ⟨go, step⟩
      · refine thn (T.done (X.comp Nc scope (closOf X.env scope.names) s3.heap.objs.size s3 H3 fp) rfl rfl rfl hcalm i [] s5 _ H5 _ I5 (fpc fr5) t5 stop) fun r s6 ⟨hr, I6⟩ => ?_
        subst hr
        obtain ⟨I7, f7⟩ := comp_back I3 f3 I6
        obtain ⟨m, hm, _⟩ := I6.loc
        exact fin _ _ _ _ I7 f7 ⟨m, hm⟩ q
      · refine thn (T.item (X.comp Nc scope (closOf X.env scope.names) s3.heap.objs.size s3 H3 fp) rfl rfl rfl hcalm i [] s5 _ H5 _ I5 (fpc fr5) t5 go) fun r s6 ⟨u, hr, h6⟩ => ?_
        subst hr
        refine thn h6 fun _ s7 ⟨z, H7, I7, r7, y7, t7, fr7⟩ => ?_
        have I7' := I7.pinned (fpc fr7) (T.obj _ _ t7)
        refine thn (pg_name (X := X.comp Nc scope (closOf X.env scope.names) s3.heap.objs.size s3 H3 fp) (i := ti) hc.nd hc.at (.inl (lookup_relabel_local hc.tgt)) (.inr (lookup_relabel_local hc.tgt)) _ s7 _ H7 z u
          (fun σ' H' => σ' = (capSt σ ix).set ti (some z) ∧ H' = H7) I7' r7 ⟨by rw [List.set_set], rfl⟩) fun _ s8 ⟨σ8, H8, I8, e8, e8'⟩ => ?_
        subst e8; subst e8'
        refine thn (he _ _ _ _ _ _ s8 _ _ _ I8 (step z _ y7)) fun yv s9 ⟨y, H9, I9, r9, hlen, hD9, m', hm', w9⟩ => ?_
        refine thn (mt_append _ s9 _ H9 (.ref s2.heap.objs.size) [y] (.ref s2.heap.objs.size) [yv] (fun _ H' => H' = upd H9 s2.heap.objs.size (.lst (ys ++ [y]))) I9 rfl (.cons r9 .nil) ⟨_, ys, y, rfl, rfl, hD9, hlen, rfl⟩) fun _ s10 ⟨_, H10, I10, _, e10⟩ => ?_
        subst e10
        refine ⟨m', hm', i + 1, ys ++ [y], some z, _, I10.pins_of (fun p hp => nomatch hp), T.keep _ _ _ t7 fun b hb ob e => (I10.pin (b, ob) (List.mem_append_right _ (List.mem_append_right _ (mem_pinsAt hb e)))).1, fun b hb => ?_, w9⟩
        obtain ⟨ob, e, _⟩ := T.obj _ _ t7 b hb
        exact (I10.pin (b, ob) (List.mem_append_right _ (List.mem_append_right _ (mem_pinsAt hb e)))).2.1
    · by_cases hj : j = ti
      · subst hj
        rw [List.getElem?_set] at e
        simp only [if_true] at e
        split at e <;> cases e
      · rw [List.getElem?_set_ne (Ne.symm hj)] at e
        exact e
  have hst : ∃ tk, ({ s2 with heap := h₁, toks := s2.toks + ([] : List (Str × Value)).length } : Shared) = { s3 with heap := h₁, toks := tk } := ⟨s2.toks, by rw [← hs3]; rfl⟩
  have L := loop _ hst
  rw [← szE] at L
  exact codeAny_compStart_list L (T.self X.A 0 _ _ _ t4 L)
/-- [elt for x in iter] -/
theorem pe_lc {elt iter : Expr} {px pos : Pos} {wi : TI} {te : TE} (hcalm : X.calm = true) (hc : CompOk X.N X.env.scope Nc scope ti x ix) (hi : PI X (.Name x px) iter wi) (he : ∀ cl C s H fp, PE (X.comp Nc scope cl C s H fp) elt te)
    (hs : ∀ x, foldedSetIterable iter X.env x = pure x := by intro _; rfl) : PE X (.ListComp elt [⟨.Name x px, iter, [], 0⟩] scope pos) (tLC wi ix ti te) := by
  intro pins s σ H Q I h
  rw [eval_ListComp]
  refine wpAny_comprehension_free (use := none) rfl hs (closureFor_of fun y hy hf => I.ok.has y.1 (.inl (hc.free y hy hf))) hc.kind hc.names (thn (hi pins s σ H _ I h) fun v s1 h1 => thn h1 fun itv s2 h2 => ?_)
  obtain ⟨it, fp, tn, J, H1, rfl, I2, T, t0, f2, hR⟩ := h2
  refine comp_run hcalm hc he I2 T t0 f2 hR (RR := fun acc C => compPost (model X.prog X.w) X.A X.xe none (EP X pins σ Q) acc C) fun D C H' s' I' f' ⟨m, hm⟩ q => ?_
  exact ⟨m, hm, fun h' hs' => ⟨.ref D, H', I'.scrub f' hs', rfl, q⟩⟩
/-- name = [elt for x in iter] on one row: stored ahead of the letting go -/
theorem ps_lc {elt iter : Expr} {px pos spos py : Pos} {wi : TI} {te : TE} {y : Str} {j : Nat} (hN : X.N.Nodup) (hj : X.N[j]? = some y) (hy : X.env.scope.names.lookup y = some .local) (hcalm : X.calm = true)
    (hc : CompOk X.N X.env.scope Nc scope ti x ix) (hi : PI X (.Name x px) iter wi) (he : ∀ cl C s H fp, PE (X.comp Nc scope cl C s H fp) elt te)
    (hsw : swapsWith (.ListComp elt [⟨.Name x px, iter, [], 0⟩] scope pos) (some (.Name y py)) spos.line X.env = pure true)
    (hs : ∀ x, foldedSetIterable iter X.env x = pure x := by intro _; rfl) : PS X (.Assign [.Name y py] (.ListComp elt [⟨.Name x px, iter, [], 0⟩] scope pos) spos) (tAsg (tLC wi ix ti te) (gName j)) := by
  intro pins s σ H D I h
  rw [exec_Assign_Name_used _ _ _ _ hsw]
  refine wpAny_bind (wpAny_standAt (wpAny_bind ?_))
  show wpAny _ _ (do let _ ← comprehension (.ListComp elt [⟨.Name x px, iter, [], 0⟩] scope pos) scope X.env _ (newList []) false (eval iter X.env) (some (assign (.Name y py) X.env))) _ _ s
  refine wpAny_bind (wpAny_mono (wpAny_comprehension_free (use := some (assign (.Name y py) X.env)) (Q := fun _ s' => SP X pins D .next s') rfl hs (closureFor_of fun y hy hf => I.ok.has y.1 (.inl (hc.free y hy hf))) hc.kind hc.names
    (thn (hi pins s σ H _ I h) fun v s1 h1 => thn h1 fun itv s2 h2 => ?_)) (fun _ s' hq => wpAny_pure (wpAny_pure hq)) fun _ _ e => e)
  obtain ⟨it, fp, tn, J, H1, rfl, I2, T, t0, f2, hR⟩ := h2
  refine comp_run hcalm hc he I2 T t0 f2 hR (RR := fun acc C => compPost (model X.prog X.w) X.A X.xe (some (assign (.Name y py) X.env)) (fun _ s' => SP X pins D .next s') acc C) fun L C H' s' I' f' ⟨m, hm⟩ q => ?_
  show wpAny _ _ (assign (.Name y py) X.env (.ref L)) _ _ _
  refine wpAny_assign_Name (store_ok2 I' hN hj (.inl hy) (v := .ref L) rfl (fun s6 I6 ⟨a, hsb, ha⟩ => ?_) (.inr hy))
  have hCa : C ≠ a := by
    rcases ha with rfl | ha
    · exact f'.2.1
    · exact fun z => f'.2.2.2.2.1 _ _ ha z.symm
  exact ⟨m, hm.sameBut hsb hCa, fun h' hs' => ⟨_, H', I6.scrub f' hs', q⟩⟩
end

/-! ### the forms one uses -/
/-- what an element must reach: the list D is as it was, the word holds with one item more -/
def LcK (Pv : Addr → Nat → List V → Hp → Prop) (D : Addr) (n i : Nat) (ys : List V) : VK := fun y H3 => ys.length < sizeLine ∧ H3 D = some (.lst ys) ∧ ∃ m', m' < n - i ∧ (m' = n - (i + 1) ∧ i + 1 ≤ n ∧ Pv D (i + 1) (ys ++ [y]) (upd H3 D (.lst (ys ++ [y]))))
theorem LcK.mk {Pv : Addr → Nat → List V → Hp → Prop} {D : Addr} {n i : Nat} {ys : List V} {y : V} {H3 : Hp} (hi : i < n) (hz : n ≤ sizeLine) (hy : ys.length ≤ i) (h1 : H3 D = some (.lst ys)) (h2 : Pv D (i + 1) (ys ++ [y]) (upd H3 D (.lst (ys ++ [y])))) : LcK Pv D n i ys y H3 :=
  ⟨by omega, h1, n - (i + 1), by omega, rfl, hi, h2⟩
theorem lc_list {K : PySem.W.Frag} {a : Addr} {xs : List V} {te : TE} {σ : St} {H : Hp} {Q : VK} {ix : List (Option Nat)} {ti : Nat} (Pv : Addr → Nat → List V → Hp → Prop)
    (h0 : ∀ D, H D = none → Pv D 0 [] (upd H D (.lst []))) (hl : ∀ D i ys H2, i ≤ xs.length → Pv D i ys H2 → H2 D = some (.lst ys) ∧ SqL K H2 a xs)
    (hs : ∀ D i x ys H2, H D = none → xs[i]? = some x → Pv D i ys H2 → i < xs.length → te ((capSt σ ix).set ti (some x)) H2 (LcK Pv D xs.length i ys))
    (hd : ∀ D ys H2, H D = none → Pv D xs.length ys H2 → Q (.ref D) H2) : LCw ix ti te σ Q (Itl K a) H := by
  intro D hD
  refine ⟨fun i m ys H2 => m = xs.length - i ∧ i ≤ xs.length ∧ Pv D i ys H2, ⟨xs.length, by simp, Nat.zero_le _, h0 D hD⟩, ?_⟩
  rintro i m ys H2 ⟨rfl, hi, p⟩
  obtain ⟨q1, q2⟩ := hl D i ys H2 hi p
  refine ⟨q1, ?_⟩
  by_cases hlt : i < xs.length
  · refine .inr ⟨⟨xs, xs[i], q2, by simp [hlt]⟩, fun x H' y => ?_⟩
    obtain ⟨e, y⟩ := y
    subst e
    exact hs D i x ys _ hD (y xs q2) p hlt
  · have e : i = xs.length := by omega
    subst e
    exact .inl ⟨⟨xs, q2, Nat.le_refl _⟩, hd D ys H2 hD p⟩
theorem lc_range {lo : Int} {n : Nat} {te : TE} {σ : St} {H : Hp} {Q : VK} {ix : List (Option Nat)} {ti : Nat} (Pv : Addr → Nat → List V → Hp → Prop)
    (h0 : ∀ D, H D = none → Pv D 0 [] (upd H D (.lst []))) (hl : ∀ D i ys H2, i ≤ n → Pv D i ys H2 → H2 D = some (.lst ys))
    (hs : ∀ D i ys H2, H D = none → i < n → Pv D i ys H2 → te ((capSt σ ix).set ti (some (.int (lo + i)))) H2 (LcK Pv D n i ys))
    (hd : ∀ D ys H2, H D = none → Pv D n ys H2 → Q (.ref D) H2) : LCw ix ti te σ Q (Itr lo n) H := by
  intro D hD
  refine ⟨fun i m ys H2 => m = n - i ∧ i ≤ n ∧ Pv D i ys H2, ⟨n, by simp, Nat.zero_le _, h0 D hD⟩, ?_⟩
  rintro i m ys H2 ⟨rfl, hi, p⟩
  have q1 := hl D i ys H2 hi p
  refine ⟨q1, ?_⟩
  by_cases hlt : i < n
  · refine .inr ⟨hlt, fun x H' y => ?_⟩
    obtain ⟨e, y⟩ := y
    subst e y
    exact hs D i ys _ hD hlt p
  · have e : i = n := by omega
    subst e
    exact .inl ⟨Nat.le_refl _, hd D ys H2 hD p⟩
end L2

/-! ### more rules -/
namespace L2
open PySem PySem.Spec PyProof.Rows
/-- both factors below 2^1000 -/
def CBig (i j : Int) : Prop := (-(2 ^ 1000) < i ∧ i < 2 ^ 1000) ∧ (-(2 ^ 1000) < j ∧ j < 2 ^ 1000)
theorem bits1000 {k : Int} (h : -(2 ^ 1000) < k ∧ k < 2 ^ 1000) : Builtin.Int.intBits k ≤ 2 ^ 20 := by
  unfold Builtin.Int.intBits
  split
  · exact Nat.zero_le _
  · have hn : k.natAbs < 2 ^ 1000 := by omega
    have : k.natAbs.log2 < 1000 := by
      rcases Nat.eq_zero_or_pos k.natAbs with h0 | hp
      · rw [h0]; decide
      · exact (Nat.log2_lt (Nat.ne_of_gt hp)).mpr hn
    exact Nat.le_trans (Nat.succ_le_of_lt this) (by decide)
theorem CBig.ok {i j : Int} (h : CBig i j) : IntMulOk i j := IntMulOk.of_bits (bits1000 h.1) (bits1000 h.2)
section
variable {X : Cx}
theorem op_mulB : OpR X (binaryOp .Mult) (rI CBig fun i j => .int (i * j)) := opI fun _ _ _ _ _ _ _ hc q => mul_int q hc.ok
/-- isinstance(x, T), T a built-in class -/
def isT (t U : String) : Option Bool := if (Value.type t == Value.type U) = true then some true else if PySem.W.kitMeta U = true then (PySem.fastBuiltinMro t).map (·.contains (Value.type U)) else none
theorem call_isinst : CallR X (.builtin "isinstance") (fun xs H Q => ∃ x U t b, xs = [x, .ty U] ∧ TyOf X.K H x (.type t) ∧ isT t U = some b ∧ Q (.bl b) H) := by
  intro pins s σ H xs us Q I r h
  obtain ⟨x, U, t, b, rfl, ty, e, q⟩ := h
  obtain ⟨u, w, rfl, r1, r2⟩ := vals2 r
  cases r2
  exact isinst_ok I r1 ty (show PySem.W.kitOne X.K (.type t) (.type U) = some b from e) fun tk => ⟨.bl b, H, I.tok tk, rfl, q⟩
end
theorem isT_int_int : isT "int" "int" = some true := by decide +kernel
theorem isT_int_bool : isT "int" "bool" = some false := by decide +kernel
theorem isT_list_list : isT "list" "list" = some true := by decide +kernel
theorem isT_tuple_tuple : isT "tuple" "tuple" = some true := by decide +kernel
theorem isT_non_tuple : isT "NoneType" "tuple" = some false := by decide +kernel
/-- places in the text -/
def nthS (l : List Stmt) (i : Nat) : Stmt := l.getD i (.Pass ⟨0, 0, 0, 0⟩)
def ifBody : Stmt → List Stmt
  | .If _ b _ _ => b
  | _ => []
def ifElse : Stmt → List Stmt
  | .If _ _ b _ => b
  | _ => []
def lcScope : Stmt → Scope
  | .Assign _ (.ListComp _ _ sc _) _ => sc
  | .Return (some (.ListComp _ _ sc _)) _ => sc
  | _ => { kind := .function, names := [], isGenerator := false, isCoroutine := false }
theorem abs_eq (i : Int) : (if i < 0 then -i else i) = (i.natAbs : Int) := by split <;> omega
end L2
namespace L2
open PySem PySem.Spec PyProof.Rows
theorem Same.upd {H : Hp} {p : Addr} {o : HO} (h : H p = none) : Same H (L2.upd H p o) := fun b u e => by rw [upd_ne (ne_of_none e h)]; exact e
theorem Same.seqT {K : PySem.W.Frag} {H H' : Hp} {a : Addr} {xs : List V} (e : Same H H') (h : SqT K H a xs) : SqT K H' a xs := by
  rcases h with (h | ⟨o, h⟩) | h
  · exact .inl (.inl (e _ _ h))
  · exact .inl (.inr ⟨o, e _ _ h⟩)
  · exact .inr h
theorem SqL.up {K : PySem.W.Frag} {H : Hp} {a p : Addr} {xs : List V} {o : HO} (h : SqL K H a xs) (hp : H p = none) : SqL K (L2.upd H p o) a xs := (Same.upd hp).seq h
theorem SqT.up {K : PySem.W.Frag} {H : Hp} {a p : Addr} {xs : List V} {o : HO} (h : SqT K H a xs) (hp : H p = none) : SqT K (L2.upd H p o) a xs := (Same.upd hp).seqT h
theorem SqL.here {K : PySem.W.Frag} {H : Hp} {p : Addr} {xs : List V} : SqL K (L2.upd H p (.lst xs)) p xs := .of upd_same
theorem SqT.here {K : PySem.W.Frag} {H : Hp} {p : Addr} {xs : List V} : SqT K (L2.upd H p (.tup xs)) p xs := .of upd_same
/-- whole numbers that are drawn here -/
abbrev Bd (i : Int) : Prop := -(2 ^ 400) ≤ i ∧ i ≤ 2 ^ 400
theorem ints_at {ns : List Int} {k : Int} (h0 : 0 ≤ k) (h1 : k < ns.length) : atI (ns.map V.int) k = some (.int (ns.getD k.toNat 0)) := by
  obtain ⟨j, rfl⟩ : ∃ j : Nat, k = (j : Int) := ⟨k.toNat, by omega⟩
  have hj : j < ns.length := by omega
  refine atI_nat ?_
  rw [List.getElem?_map, List.getElem?_eq_getElem hj]
  show some (V.int ns[j]) = _
  congr 2
  simp [hj]
theorem cut_front {ns : List Int} {m : Int} (hm : (ns.length : Int) ≤ m) : cutV (ns.map V.int) none (some m) = ns.map V.int := by
  unfold cutV
  rw [HT.sIx_none]
  obtain ⟨j, rfl⟩ : ∃ j : Nat, m = (j : Int) := ⟨m.toNat, by omega⟩
  rw [HT.sIx_nat, List.drop_zero]
  refine List.take_of_length_le ?_
  rw [List.length_map]; omega
end L2

set_option Elab.async false
set_option linter.all false
set_option maxRecDepth 100000
set_option maxHeartbeats 4000000
/-! Lists of points: pairs of ints at tracked addresses; == and != of such lists. -/

namespace L2
open PySem PySem.Spec PyProof.Rows
/-- a point stands at a -/
def PtAt (H : Hp) (a : Addr) (p : Int × Int) : Prop := H a = some (.tup [.int p.1, .int p.2])
def PtsAt (H : Hp) : List Addr → List (Int × Int) → Prop := Paired (PtAt H)
/-- a list of points stands at l -/
def LPts (H : Hp) (l : Addr) (as : List Addr) (ps : List (Int × Int)) : Prop := H l = some (.lst (as.map V.ref)) ∧ PtsAt H as ps
theorem PtAt.sq {K : PySem.W.Frag} {H : Hp} {a : Addr} {p : Int × Int} (h : PtAt H a p) : SqT K H a [.int p.1, .int p.2] := .of h
theorem PtAt.same {H H' : Hp} {a : Addr} {p : Int × Int} (e : Same H H') (h : PtAt H a p) : PtAt H' a p := e _ _ h
theorem PtsAt.same {H H' : Hp} {as : List Addr} {ps : List (Int × Int)} (e : Same H H') (h : PtsAt H as ps) : PtsAt H' as ps := Paired.mapP h fun _ _ q => q.same e
theorem LPts.same {H H' : Hp} {l : Addr} {as : List Addr} {ps : List (Int × Int)} (e : Same H H') (h : LPts H l as ps) : LPts H' l as ps := ⟨e _ _ h.1, h.2.same e⟩
theorem LPts.sq {K : PySem.W.Frag} {H : Hp} {l : Addr} {as : List Addr} {ps : List (Int × Int)} (h : LPts H l as ps) : SqL K H l (as.map V.ref) := .of h.1
theorem PtsAt.len {H : Hp} {as : List Addr} {ps : List (Int × Int)} (h : PtsAt H as ps) : as.length = ps.length := Paired.length h
/-- a list that is written leaves the points -/
theorem PtAt.wr {H : Hp} {a l : Addr} {p : Int × Int} {xs : List V} {o : HO} (h : PtAt H a p) (hl : H l = some (.lst xs)) : PtAt (L2.upd H l o) a p := by
  unfold PtAt
  rw [upd_ne (ne_of h hl (by intro z; cases z))]
  exact h
theorem PtsAt.wr {H : Hp} {as : List Addr} {l : Addr} {ps : List (Int × Int)} {xs : List V} {o : HO} (h : PtsAt H as ps) (hl : H l = some (.lst xs)) : PtsAt (L2.upd H l o) as ps := Paired.mapP h fun _ _ q => q.wr hl
theorem PtsAt.snoc {H : Hp} {as : List Addr} {ps : List (Int × Int)} {a : Addr} {p : Int × Int} (h : PtsAt H as ps) (q : PtAt H a p) : PtsAt H (as ++ [a]) (ps ++ [p]) := Paired.snoc h q
theorem paired_get {α β : Type} {F : α → β → Prop} : ∀ {l₁ : List α} {l₂ : List β} {i : Nat} {b : β}, Paired F l₁ l₂ → l₂[i]? = some b → ∃ a, l₁[i]? = some a ∧ F a b
  | _, _, _, _, .nil, e => by simp at e
  | _, _, 0, _, .cons r _, e => by simp at e; subst e; exact ⟨_, rfl, r⟩
  | _, _, i + 1, b, .cons _ t, e => by
    obtain ⟨a, h1, h2⟩ := paired_get (i := i) (b := b) t (by simpa using e)
    exact ⟨a, by simpa using h1, h2⟩
/-- the i-th point, for reading l[i] -/
theorem LPts.at {H : Hp} {l : Addr} {as : List Addr} {ps : List (Int × Int)} (h : LPts H l as ps) {i : Nat} (hi : i < ps.length) : ∃ a, atI (as.map V.ref) (i : Int) = some (.ref a) ∧ PtAt H a (ps.getD i (0, 0)) := by
  obtain ⟨a, e, q⟩ := paired_get h.2 (List.getElem?_eq_getElem hi)
  refine ⟨a, atI_nat (by rw [List.getElem?_map, e]; rfl), ?_⟩
  rw [List.getD_eq_getElem?_getD, List.getElem?_eq_getElem hi]
  exact q
theorem LPts.atZ {H : Hp} {l : Addr} {as : List Addr} {ps : List (Int × Int)} (h : LPts H l as ps) {i : Int} (h0 : 0 ≤ i) (hi : i < ps.length) : ∃ a, atI (as.map V.ref) i = some (.ref a) ∧ PtAt H a (ps.getD i.toNat (0, 0)) := by
  obtain ⟨j, rfl⟩ : ∃ j : Nat, i = (j : Int) := ⟨i.toNat, by omega⟩
  exact h.at (by omega)
theorem vals_refs : ∀ {as : List Addr} {us : List Value}, Vals (as.map V.ref) us → us = as.map Value.ref
  | [], _, .nil => rfl
  | _ :: _, _, .cons r t => by rw [List.map_cons, ← vals_refs t]; cases r; rfl
section
variable {X : Cx} {pins : List (Addr × Obj)} {σ : St} {H : Hp} {s : Shared} {A : Around}
theorem pt_tuple (I : Inv X pins σ H s) {a : Addr} {p : Int × Int} (h : PtAt H a p) : ∃ t u : Tok, s.heap.IsTuple a #[.int p.1 t, .int p.2 u] := by
  obtain ⟨_, its, r, q⟩ := I.hok a _ h
  obtain ⟨v, w, rfl, r1, r2⟩ := vals2 r
  obtain ⟨t, rfl⟩ := r1
  obtain ⟨u, rfl⟩ := r2
  exact ⟨t, u, q⟩
theorem eqAt_pt (I : Inv X pins σ H s) (hu : A.units < cLine) {a b : Addr} {p q : Int × Int} (ha : PtAt H a p) (hb : PtAt H b q) : SeqAt.EqAt A s (.ref a) (.ref b) (decide (p = q)) := by
  by_cases hab : a = b
  · subst hab
    unfold PtAt at ha hb
    rw [ha] at hb
    injection hb with e
    injection e with e
    injection e with e1 e2
    injection e2 with e2 _
    injection e1 with e1
    injection e2 with e2
    rw [decide_eq_true (Prod.ext e1 e2)]
    exact SeqAt.EqAt.same _
  · obtain ⟨t, u, h1⟩ := pt_tuple I ha
    obtain ⟨t', u', h2⟩ := pt_tuple I hb
    have h := SeqAt.RcAt.tuples (A := A) (e := fun j => if j = 0 then (p.1 == q.1) else (p.2 == q.2)) h1 h2 hu (fun j k1 k2 => by
      have k1 : j < 2 := k1
      rcases (by omega : j = 0 ∨ j = 1) with rfl | rfl
      · exact SeqAt.EqAt.int_int _ _ _ _
      · exact SeqAt.EqAt.int_int _ _ _ _)
    have e : ((List.range (min (#[Value.int p.1 t, Value.int p.2 u] : Array Value).size (#[Value.int q.1 t', Value.int q.2 u'] : Array Value).size)).all (fun j => if j = 0 then (p.1 == q.1) else (p.2 == q.2)) && (#[Value.int p.1 t, Value.int p.2 u] : Array Value).size == (#[Value.int q.1 t', Value.int q.2 u'] : Array Value).size) = decide (p = q) := by
      show (((p.1 == q.1) && ((p.2 == q.2) && true)) && true) = decide (p = q)
      obtain ⟨a1, a2⟩ := p
      obtain ⟨b1, b2⟩ := q
      rw [Bool.eq_iff_iff]
      simp
    rw [e] at h
    exact SeqAt.EqAt.of_refs hab h
theorem paired_all {as bs : List Addr} {ps qs : List (Int × Int)} (hl : ps.length = qs.length) : ((List.range ps.length).all fun j => decide (ps[j]? = qs[j]?)) = decide (ps = qs) := by
  rw [Bool.eq_iff_iff, List.all_eq_true, decide_eq_true_eq]
  constructor
  · intro h
    refine List.ext_getElem? fun i => ?_
    by_cases hi : i < ps.length
    · exact of_decide_eq_true (h i (List.mem_range.mpr hi))
    · rw [List.getElem?_eq_none_iff.mpr (by omega), List.getElem?_eq_none_iff.mpr (by omega)]
  · rintro rfl i _
    exact decide_eq_true rfl
theorem eqs_pts (I : Inv X pins σ H s) (hu : A.units < cLine) {as bs : List Addr} {ps qs : List (Int × Int)} (ha : PtsAt H as ps) (hb : PtsAt H bs qs) :
    ∀ j (h1 : j < (as.map Value.ref).toArray.size) (h2 : j < (bs.map Value.ref).toArray.size), SeqAt.EqAt A s (as.map Value.ref).toArray[j] (bs.map Value.ref).toArray[j] (decide (ps[j]? = qs[j]?)) := by
  intro j h1 h2
  have k1 : j < as.length := by simpa using h1
  have k2 : j < bs.length := by simpa using h2
  have l1 := ha.len
  have l2 := hb.len
  obtain ⟨a, e1, q1⟩ := paired_get ha (List.getElem?_eq_getElem (show j < ps.length by omega))
  obtain ⟨b, e2, q2⟩ := paired_get hb (List.getElem?_eq_getElem (show j < qs.length by omega))
  have h := eqAt_pt (A := A) I hu q1 q2
  have g1 : (as.map Value.ref).toArray[j] = .ref a := by
    rw [List.getElem?_eq_getElem k1] at e1
    simp [Option.some.inj e1]
  have g2 : (bs.map Value.ref).toArray[j] = .ref b := by
    rw [List.getElem?_eq_getElem k2] at e2
    simp [Option.some.inj e2]
  rw [g1, g2, List.getElem?_eq_getElem (show j < ps.length by omega), List.getElem?_eq_getElem (show j < qs.length by omega)]
  have e : decide (some ps[j] = some qs[j]) = decide (ps[j] = qs[j]) := by
    rw [Bool.eq_iff_iff]; simp
  rw [e]
  exact h
/-- l != m, two lists of points -/
def rNeP : R2 := fun x y H Q => ∃ a b as bs ps qs, x = .ref a ∧ y = .ref b ∧ LPts H a as ps ∧ LPts H b bs qs ∧ Q (.bl (!decide (ps = qs))) H
def rEqP : R2 := fun x y H Q => ∃ a b as bs ps qs, x = .ref a ∧ y = .ref b ∧ LPts H a as ps ∧ LPts H b bs qs ∧ Q (.bl (decide (ps = qs))) H
theorem lst_at (I : Inv X pins σ H s) {a : Addr} {as : List Addr} {ps : List (Int × Int)} (h : LPts H a as ps) : ∃ n, s.heap.get? a = some { cls := .type "list", data := .seq (as.map Value.ref).toArray n } := by
  obtain ⟨_, its, n, r, e⟩ := I.hok a _ h.1
  rw [vals_refs r] at e
  exact ⟨n, e⟩
theorem op_neL (hu : X.A.units + 1 < cLine) : OpR X (compareOp .NotEq) rNeP := by
  intro pins s σ H x y v u Q I rx ry h
  obtain ⟨a, b, as, bs, ps, qs, rfl, rfl, ha, hb, q⟩ := h
  cases rx
  cases ry
  obtain ⟨n, e1⟩ := lst_at I ha
  obtain ⟨m, e2⟩ := lst_at I hb
  have l1 := ha.2.len
  have l2 := hb.2.len
  show wpAny _ _ (richCompare .NotEq (.ref a) (.ref b)) _ _ _
  by_cases hl : ps.length = qs.length
  · have hsz : (as.map Value.ref).toArray.size = (bs.map Value.ref).toArray.size := by simp; omega
    have fin : EP X pins σ Q (.bool (!decide (ps = qs))) s := ⟨.bl _, H, I, rfl, q⟩
    rw [← paired_all (as := as) (bs := bs) hl, ← l1] at fin
    have hsz2 : as.length = (as.map Value.ref).toArray.size := by simp
    rw [hsz2] at fin
    exact richCompare_meets_room (op := .NotEq) ⟨_, e1, rfl⟩ ⟨_, e2, rfl⟩ F.slot_list_ne F.entry_list_ne (F.args_list_ne_2 _ _) (SeqAt.list_neAt a b _ _ n m none none #[] #[] hsz _)
      ⟨e1, e2, eqs_pts I (by show X.A.units + 1 < cLine; exact hu) ha.2 hb.2, ⟨(fun z => nomatch z), fin⟩⟩ (by omega)
  · have hsz : ((as.map Value.ref).toArray.size != (bs.map Value.ref).toArray.size) = true := by simp; omega
    have hne : ¬ ps = qs := fun z => hl (by rw [z])
    rw [decide_eq_false hne] at q
    exact richCompare_meets_room (op := .NotEq) ⟨_, e1, rfl⟩ ⟨_, e2, rfl⟩ F.slot_list_ne F.entry_list_ne (F.args_list_ne_2 _ _) (SeqAt.list_ne_lengthsAt a b _ _ n m none none #[] #[] hsz)
      ⟨e1, e2, ⟨(fun z => nomatch z), ⟨.bl _, H, I, rfl, q⟩⟩⟩ (by omega)
theorem op_eqL (hu : X.A.units + 1 < cLine) : OpR X (compareOp .Eq) rEqP := by
  intro pins s σ H x y v u Q I rx ry h
  obtain ⟨a, b, as, bs, ps, qs, rfl, rfl, ha, hb, q⟩ := h
  cases rx
  cases ry
  obtain ⟨n, e1⟩ := lst_at I ha
  obtain ⟨m, e2⟩ := lst_at I hb
  have l1 := ha.2.len
  have l2 := hb.2.len
  have i1 : s.heap.IsList a (as.map Value.ref).toArray := ⟨_, e1, rfl, n, rfl⟩
  have i2 : s.heap.IsList b (bs.map Value.ref).toArray := ⟨_, e2, rfl, m, rfl⟩
  by_cases hl : ps.length = qs.length
  · have hsz : (as.map Value.ref).toArray.size = (bs.map Value.ref).toArray.size := by simp; omega
    have fin : EP X pins σ Q (.bool (decide (ps = qs))) s := ⟨.bl _, H, I, rfl, q⟩
    rw [← paired_all (as := as) (bs := bs) hl, ← l1] at fin
    have hsz2 : as.length = (as.map Value.ref).toArray.size := by simp
    rw [hsz2] at fin
    exact SeqAt.eq_listAt i1 i2 hsz (by omega) (eqs_pts I (by show X.A.units + 1 < cLine; exact hu) ha.2 hb.2) fin
  · have hsz : ((as.map Value.ref).toArray.size != (bs.map Value.ref).toArray.size) = true := by simp; omega
    have hne : ¬ ps = qs := fun z => hl (by rw [z])
    rw [decide_eq_false hne] at q
    exact SeqAt.eq_list_lengthsAt i1 i2 hsz (by omega) ⟨.bl _, H, I, rfl, q⟩
end
/-- for .. in range(n) -/
theorem for_range0 {n : Nat} {g : TG} {tb : TS} {D : Ends} {σ : St} {H : Hp} (Pv : Nat → St → Hp → Prop) (h0 : Pv 0 σ H)
    (hs : ∀ (i : Nat) σ H, i < n → Pv i σ H → g (.int (i : Int)) σ H fun σ2 H2 => tb { D with nx := Pv (i + 1), ct := Pv (i + 1), bk := D.nx } σ2 H2) (hd : ∀ σ H, Pv n σ H → D.nx σ H) :
    ∃ W : Nat → Nat → St → Hp → Prop, (∃ m, W 0 m σ H) ∧ ∀ i m σ H, W i m σ H →
      ((Itr 0 n).stop i H ∧ D.nx σ H) ∨ ((Itr 0 n).go i H ∧ ∃ N : St → Hp → Prop, (∀ σ' H', N σ' H' → ∃ m', m' < m ∧ W (i + 1) m' σ' H') ∧ ∀ x H', (Itr 0 n).yld i H x H' → g x σ H' fun σ2 H2 => tb { D with nx := N, ct := N, bk := D.nx } σ2 H2) :=
  for_range (lo := 0) Pv h0 (fun i σ H hi p => by rw [Int.zero_add]; exact hs i σ H hi p) hd
end L2
/-! rules with the written part K by name (inside a comprehension the reading may not speak of the block) -/
namespace L2
open PySem PySem.Spec PyProof.Rows
section
variable {X : Cx} {K : PySem.W.Frag}
theorem ixL_K (h : X.K = K) : IxR X (rIxL K) := by subst h; exact ix_list
theorem ixT_K (h : X.K = K) : IxR X (rIxT K) := by subst h; exact ix_tup
theorem slL_K (h : X.K = K) : SlR X (rSlL K) := by subst h; exact sl_list
theorem len_K (h : X.K = K) : CallR X (.builtin "len") (fun xs H Q => ∃ p ys, xs = [.ref p] ∧ (SqL K H p ys ∨ SqT K H p ys) ∧ Q (.int ys.length) H) := by subst h; exact call_len_seq
end
end L2

/-! two lists of ints compared -/
namespace L2
open PySem PySem.Spec PyProof.Rows
section
variable {X : Cx}
theorem ints_all {ns ms : List Int} (hl : ns.length = ms.length) : ((List.range ns.length).all fun j => decide (ns[j]? = ms[j]?)) = decide (ns = ms) := by
  rw [Bool.eq_iff_iff, List.all_eq_true, decide_eq_true_eq]
  constructor
  · intro h
    refine List.ext_getElem? fun i => ?_
    by_cases hi : i < ns.length
    · exact of_decide_eq_true (h i (List.mem_range.mpr hi))
    · rw [List.getElem?_eq_none_iff.mpr (by omega), List.getElem?_eq_none_iff.mpr (by omega)]
  · rintro rfl i _
    exact decide_eq_true rfl
theorem int_item {ns : List Int} {its : List Value} (r : Vals (ns.map V.int) its) {j : Nat} (hj : j < its.toArray.size) : ∃ t, its.toArray[j] = .int (ns.getD j 0) t ∧ ns[j]? = some (ns.getD j 0) := by
  have hl := r.length
  rw [List.length_map] at hl
  have hj' : j < its.length := by simpa using hj
  have hn : j < ns.length := by omega
  obtain ⟨u, e1, ru⟩ := Vals.get r (i := j) (x := .int ns[j]) (by rw [List.getElem?_map, List.getElem?_eq_getElem hn]; rfl)
  obtain ⟨t, rfl⟩ := ru
  rw [List.getElem?_eq_getElem hj'] at e1
  have eg : ns.getD j 0 = ns[j] := by rw [List.getD_eq_getElem?_getD, List.getElem?_eq_getElem hn]; rfl
  refine ⟨t, ?_, ?_⟩
  · rw [eg]; simp [Option.some.inj e1]
  · rw [eg, List.getElem?_eq_getElem hn]
def rEqI (K : PySem.W.Frag) : R2 := fun x y H Q => ∃ (a b : Addr) (ns ms : List Int), x = .ref a ∧ y = .ref b ∧ SqL K H a (ns.map V.int) ∧ SqL K H b (ms.map V.int) ∧ Q (.bl (decide (ns = ms))) H
theorem op_eqI (hu : X.A.units + 1 < cLine) : OpR X (compareOp .Eq) (rEqI X.K) := by
  intro pins s σ H x y v u Q I rx ry h
  obtain ⟨a, b, ns, ms, rfl, rfl, ha, hb, q⟩ := h
  cases rx
  cases ry
  obtain ⟨its, r1, ⟨o1, n1, e1, c1, d1, t1⟩, _⟩ := I.list ha
  obtain ⟨its2, r2, ⟨o2, n2, e2, c2, d2, t2⟩, _⟩ := I.list hb
  have l1 := r1.length
  have l2 := r2.length
  rw [List.length_map] at l1 l2
  have i1 : s.heap.IsList a its.toArray := ⟨o1, e1, c1, n1, t1⟩
  have i2 : s.heap.IsList b its2.toArray := ⟨o2, e2, c2, n2, t2⟩
  by_cases hl : ns.length = ms.length
  · have hsz : its.toArray.size = its2.toArray.size := by simp; omega
    have fin : EP X pins σ Q (.bool (decide (ns = ms))) s := ⟨.bl _, H, I, rfl, q⟩
    rw [← ints_all hl, l1, show its.length = its.toArray.size by simp] at fin
    refine SeqAt.eq_listAt i1 i2 hsz (by omega) (fun j h1 h2 => ?_) fin
    obtain ⟨ta, ea, na⟩ := int_item r1 h1
    obtain ⟨tb, eb, nb⟩ := int_item r2 h2
    rw [ea, eb, na, nb]
    have e : decide (some (ns.getD j 0) = some (ms.getD j 0)) = (ns.getD j 0 == ms.getD j 0) := by rw [Bool.eq_iff_iff]; simp
    rw [e]
    exact SeqAt.EqAt.int_int _ _ _ _
  · have hsz : (its.toArray.size != its2.toArray.size) = true := by simp; omega
    have hne : ¬ ns = ms := fun z => hl (by rw [z])
    rw [decide_eq_false hne] at q
    exact SeqAt.eq_list_lengthsAt i1 i2 hsz (by omega) ⟨.bl _, H, I, rfl, q⟩
end
end L2

set_option Elab.async false
set_option linter.all false
set_option maxRecDepth 100000
set_option maxHeartbeats 4000000
/-! Exceptions of own classes over the layer: raised in a def, passed on through its callers. -/
namespace L2
open PySem PySem.Spec PyProof.Rows
theorem ObjOk.there {P : Program} {w : World} {H : Hp} {h : Heap} {a : Addr} {o : HO} (x : ObjOk P w H h a o) : ∃ ob, h.get? a = some ob := by
  cases o with
  | lst xs => obtain ⟨_, _, _, _, e⟩ := x; exact ⟨_, e⟩
  | tup xs => obtain ⟨_, _, _, _, e, _⟩ := x; exact ⟨_, e⟩
  | dK kvs => obtain ⟨_, _, _, _, o, _, _, e, _⟩ := x; exact ⟨_, e⟩
  | dT kvs => obtain ⟨_, _, _, _, o, _, _, e, _⟩ := x; exact ⟨_, e⟩
  | set S n => obtain ⟨o, _, _, _, e, _⟩ := x; exact ⟨_, e⟩
  | ins C dx fs => obtain ⟨_, _, _, e, _⟩ := x; exact ⟨_, e⟩
  | own y => exact x
  | xd fs => obtain ⟨_, ⟨_, _, _, e, _⟩, _⟩ := x; exact ⟨_, e⟩
  | rng lo hi => obtain ⟨_, _, _, e⟩ := x; exact ⟨_, e⟩
  | frz ob u => obtain ⟨e, _⟩ := x; exact ⟨_, e⟩
  | tbl ps => exact ⟨_, (show h.get? a = some _ from x)⟩
  | met f y => exact ⟨_, (show h.get? a = some _ from x)⟩
  | ext φ => obtain ⟨_, e, _⟩ := x; exact e
/-- how an exception lies behind a call: it flies over the callers' frames; B holds all else that stood and all that is tracked -/
def Fly (P : Program) (w : World) : CXT := fun outer H₀ s₀ E e s' =>
  ∃ (x : Addr) (cls : Value) (H' : Hp) (B : Heap) (t : Addr), e = .ref x ∧ s'.os = s₀.os ∧ AllBare s'.gens ∧ Un (frs outer) [] H₀ H' s₀.heap s'.heap ∧ HOk P w H' s'.heap ∧ Heap.FlyingW B outer x cls (.ref t) s'.heap ∧
    (∀ b o, s₀.heap.get? b = some o → H₀ b = none → b ∉ frs outer → B.get? b = some o) ∧ (∀ b u, H' b = some u → ∃ o, B.get? b = some o) ∧ (∀ b o, s₀.heap.get? b = some o → b ∉ frs outer → ∃ o', B.get? b = some o') ∧ E cls none H'
section
variable {X : Cx} {pins : List (Addr × Obj)} {σ : St} {H : Hp} {s : Shared}
theorem stk_mem (hst : X.stack = X.env :: X.outer) (hf : X.env.frame = some X.env.locals) {b : Addr} : b ∈ frs X.stack ↔ b = X.env.locals ∨ b ∈ frs X.outer := by
  rw [hst]
  unfold frs
  rw [List.filterMap_cons, hf]
  exact List.mem_cons
theorem fly_made {M : Model} {E' : Value → Shared → Prop} {E : XK} {h1 : Heap} {x : Addr} {cls : Value} {vs : List Value} (hst : X.stack = X.env :: X.outer) (hf : X.env.frame = some X.env.locals) (hex : X.ex = [])
    (I : Inv X pins σ H s) (hm : Heap.MadeExcOf s.heap h1 x cls vs) (hE : E cls none H) :
    wpAny M X.A (leaving X.env (.ref x)) (fun _ s'' => Fly X.prog X.w X.outer X.H₀ X.s₀ E (.ref x) s'') E' { s with heap := h1 } := by
  have hfr : X.A.frames = some (X.env :: X.outer) := by rw [← hst]; exact I.ok.frames
  have hl : s.heap.FunFrames (PySem.W.hideAll s.heap (frs X.stack)) (X.env :: X.outer) := by
    have q := I.stack
    rw [hst] at q ⊢
    exact PySem.W.funFrames_hide q fun env he a ha => List.mem_filterMap.mpr ⟨env, he, ha⟩
  have noex : ∀ b : Addr, b ∉ X.ex := fun b z => by rw [hex] at z; cases z
  refine wpAny_leaves_madeW (base := PySem.W.hideAll s.heap (frs X.stack)) (h := s.heap) hfr hf (fun b o q => PySem.W.of_hideAll _ q) hl hm fun h' t fl _ _ up => ?_
  have keepB : ∀ b o, s.heap.get? b = some o → b ∉ frs X.stack → (PySem.W.hideAll s.heap (frs X.stack)).get? b = some o := fun b o e n => PySem.W.hideAll_get _ e n
  have out : ∀ b o, X.s₀.heap.get? b = some o → b ∉ frs X.outer → b ∉ frs X.stack := fun b o e n z => by
    rcases (stk_mem hst hf).mp z with z | z
    · exact absurd (Nat.lt_of_lt_of_le (Heap.lt_size e) I.ok.above) (by rw [z]; exact Nat.lt_irrefl _)
    · exact n z
  have slotF : ∀ b o, s.heap.get? b = some o → b ∈ frs X.outer → ∃ sl, h'.get? b = some { o with slots := sl } := fun b o e hb => by
    obtain ⟨_, o', ho', nf⟩ := I.funs.mem hb
    rw [e] at ho'; cases ho'
    exact up b o (hm.keeps _ _ e) nf
  refine ⟨x, cls, H, _, t, rfl, I.os, I.bare, ⟨fun b o e n hb _ => ?_, fun b o e n hb _ => ?_, fun b o e n _ => I.base.free b o e n (noex b), fun b o e _ => ?_, I.base.tups, I.base.frzs, I.base.tbls⟩, fun b u e => ?_, fl, fun b o e n hb => ?_, fun b u e => ?_, fun b o e hb => ?_, hE⟩
  · exact fl.1 _ _ (keepB b o (I.base.keep b o e n hb (noex b)) (out b o e hb))
  · obtain ⟨sl, e1⟩ := I.base.slot b o e n hb (noex b)
    obtain ⟨sl2, e2⟩ := slotF b _ e1 hb
    exact ⟨sl2, e2⟩
  · obtain ⟨o', e1⟩ := I.base.there b o e (noex b)
    by_cases hb : b ∈ frs X.outer
    · obtain ⟨sl, e2⟩ := slotF b _ e1 hb
      exact ⟨_, e2⟩
    · exact ⟨o', fl.1 _ _ (keepB b o' e1 (out b o e hb))⟩
  · refine (I.hok b u e).stay (fun c v hc q => fl.1 _ _ (keepB c v q ?_)) (fun _ q => q) fun _ _ q => q
    intro z
    have zf := I.stkFree c z
    rcases hc with rfl | hc
    · rw [zf] at e; cases e
    · rw [zf] at hc; cases hc
  · exact keepB b o (I.base.keep b o e n hb (noex b)) (out b o e hb)
  · obtain ⟨ob, hob⟩ := (I.hok b u e).there
    refine ⟨ob, keepB b ob hob fun z => ?_⟩
    rw [I.stkFree b z] at e; cases e
  · obtain ⟨o', e1⟩ := I.base.there b o e (noex b)
    exact ⟨o', keepB b o' e1 (out b o e hb)⟩
theorem fly_pass {M : Model} {E' : Value → Shared → Prop} {E : XK} {e : Value} {s' : Shared} (hst : X.stack = X.env :: X.outer) (hf : X.env.frame = some X.env.locals) (hex : X.ex = [])
    (I : Inv X pins σ H s) (hF : Fly X.prog X.w X.stack H s E e s') :
    wpAny M X.A (leaving X.env e) (fun _ s'' => Fly X.prog X.w X.outer X.H₀ X.s₀ E e s'') E' s' := by
  obtain ⟨x, cls, H', B, t, rfl, os, bare, un, hok, fl, i, ii, iii, hE⟩ := hF
  have hfr : X.A.frames = some (X.env :: X.outer) := by rw [← hst]; exact I.ok.frames
  have noex : ∀ b : Addr, b ∉ X.ex := fun b z => by rw [hex] at z; cases z
  have fl0 := fl
  rw [hst] at fl
  refine wpAny_leaves_onW hfr hf fl fun h' fl' up => ?_
  have out : ∀ b o, X.s₀.heap.get? b = some o → b ∉ frs X.outer → b ∉ frs X.stack := fun b o e n z => by
    rcases (stk_mem hst hf).mp z with z | z
    · exact absurd (Nat.lt_of_lt_of_le (Heap.lt_size e) I.ok.above) (by rw [z]; exact Nat.lt_irrefl _)
    · exact n z
  have inS : ∀ b, b ∈ frs X.outer → b ∈ frs X.stack := fun b hb => (stk_mem hst hf).mpr (.inr hb)
  have i' : ∀ b o, X.s₀.heap.get? b = some o → X.H₀ b = none → b ∉ frs X.outer → B.get? b = some o := fun b o e n hb => i b o (I.base.keep b o e n hb (noex b)) (I.base.free b o e n (noex b)) (out b o e hb)
  have iii' : ∀ b o, X.s₀.heap.get? b = some o → b ∉ frs X.outer → ∃ o', B.get? b = some o' := fun b o e hb => by
    obtain ⟨o', e1⟩ := I.base.there b o e (noex b)
    exact iii b o' e1 (out b o e hb)
  refine ⟨x, cls, H', B, t, rfl, os.trans I.os, bare, ⟨fun b o e n hb _ => fl'.1 _ _ (i' b o e n hb), fun b o e n hb _ => ?_, fun b o e n _ => ?_, fun b o e _ => ?_, fun b xs e => un.tups b xs (I.base.tups b xs e), fun b o u e => un.frzs b o u (I.base.frzs b o u e), fun b ps e => ?_⟩, fun b u e => ?_, fl', i', ii, iii', hE⟩
  · obtain ⟨sl, e1⟩ := I.base.slot b o e n hb (noex b)
    obtain ⟨sl2, e2⟩ := un.slot b _ e1 (I.base.free b o e n (noex b)) (inS b hb) (by simp)
    obtain ⟨_, o', ho', nf⟩ := fl0.2.2.1.mem (inS b hb)
    rw [e2] at ho'; cases ho'
    obtain ⟨sl3, e3⟩ := up b _ e2 nf
    exact ⟨sl3, e3⟩
  · obtain ⟨o', e1⟩ := I.base.there b o e (noex b)
    exact un.free b o' e1 (I.base.free b o e n (noex b)) (by simp)
  · by_cases hb : b ∈ frs X.outer
    · obtain ⟨_, o', ho', _⟩ := fl'.2.2.1.mem hb
      exact ⟨o', ho'⟩
    · obtain ⟨o', e1⟩ := iii' b o e hb
      exact ⟨o', fl'.1 _ _ e1⟩
  · obtain ⟨m1, e1⟩ := I.base.tbls b ps e
    obtain ⟨m2, e2⟩ := un.tbls b _ e1
    exact ⟨m1 ++ m2, by rw [e2, Array.append_assoc]⟩
  · refine (hok b u e).stay (fun c v hc q => ?_) (fun _ q => q) fun _ _ q => q
    have hc' : ∃ ob, B.get? c = some ob := by
      rcases hc with rfl | hc
      · exact ii _ _ e
      · exact ii _ _ hc
    obtain ⟨ob, hob⟩ := hc'
    have q' := fl0.1 _ _ hob
    rw [q] at q'; cases q'
    exact fl'.1 _ _ hob
end
/-- an own exception that is made here reaches what is wanted of exceptions -/
def Raises (X : Cx) (E : XK) : Prop := ∀ (pins : List (Addr × Obj)) (σ : St) (H : Hp) (s : Shared) (h1 : Heap) (x : Addr) (cls : Value) (vs : List Value), Inv X pins σ H s → Heap.MadeExcOf s.heap h1 x cls vs → E cls none H → X.xe (.ref x) { s with heap := h1 }
section
variable {P : Program} {w : World} {K : PySem.W.Frag} {mg : Str → Option Value} {base : Heap} {N : List Str} {qual : Str} {scope : Scope} {f : Addr} {cd : Value} {A : Around} {outer : List Env} {s : Shared} {H : Hp} {E : XK}
theorem raises_fly : Raises (cxOf (Fly P w) P w K mg base N qual scope f cd A outer s H E) E := fun _ _ _ _ _ _ _ _ I hm hE => fly_made rfl rfl rfl I hm hE
theorem pass_fly : Passes (Fly P w) (cxOf (Fly P w) P w K mg base N qual scope f cd A outer s H E) E := fun _ _ _ _ _ _ I h => fly_pass rfl rfl rfl I h
end
/-- an own class of errors under ValueError, as the top has made it -/
def ErrC (K : PySem.W.Frag) (C : Addr) : Prop := PySem.W.excIn K C [.type "ValueError", .type "Exception", .type "BaseException", .type "object"] "ValueError.__new__" = true
theorem ErrC.obj {K : PySem.W.Frag} {h : Heap} {C : Addr} (X : K.In h) (q : ErrC K C) :
    ∃ bm N nm qn bs hdct sn sub ab col dd k0 k1 k2 k3 k5 mN, h.get? C = some (excClassObj nm qn C N bs bm hdct sn sub ab col dd k0 k1 k2 k3 k5 "ValueError.__new__") ∧ h.Ns N mN ∧ mN "__init__" = none ∧ OwnTail h [.type "ValueError", .type "Exception", .type "BaseException", .type "object"] bm := by
  unfold ErrC PySem.W.excIn at q
  split at q
  · rename_i dd cd sl ho
    split at q
    · rename_i C' bm k0 k1 k2 k3 n k5 hm hs
      simp only [Bool.and_eq_true, beq_iff_eq, Bool.not_eq_true'] at q
      obtain ⟨⟨⟨⟨⟨rfl, rfl⟩, hdel⟩, ht⟩, hok⟩, hni⟩ := q
      obtain ⟨nm, bs, mro, ns, qn, hd, sn, sub, ab, col, del⟩ := cd
      dsimp only at hm hdel hok hni
      subst hm hdel
      have hsl : sl = #[k0, k1, k2, k3, some (.builtin "ValueError.__new__"), k5] := by
        obtain ⟨l⟩ := sl
        simp only at hs
        rw [hs]
      subst hsl
      exact ⟨bm, ns, nm, qn, bs, hd, sn, sub, ab, col, dd, k0, k1, k2, k3, k5, _, X _ _ ho, .of_isNs (PySem.W.isNs_of_in X hok), PySem.W.nsMap_none_of_in X hok hni, PySem.W.tail_of_in X ht⟩
    · cases q
  · cases q
section
variable {X : Cx} {c : Str} {C : Addr} {E : XK} {np cpos pos : Pos} {e0 : Expr} {es : List Expr} {t : TA}
/-- raise C(..) -/
def tRaise (C : Addr) (E : XK) (t : TA) : TS := fun _ σ H => t σ H fun vs H1 => vs.length ≤ sizeLine ∧ E (.ref C) none H1
theorem ps_raise (hc : X.calm = true) (hx : Raises X E) (q : ErrC X.K C) (hg : Gl X c) (hm : X.mg c = some (.ref C)) (ha : PA X (e0 :: es) t) (hd : (c == ("__debug__" : Str)) = false := by decide)
    (he : starEach (e0 :: es) X.env = (false, eval e0 X.env) :: starEach es X.env := by rfl) (hplain : (backTo cpos (starEach es X.env)).any (·.1) = false := by rfl) :
    PS X (.Raise (some (.Call (.Name c np) (e0 :: es) [] cpos)) none pos) (tRaise C E t) := by
  intro pins s σ H D I h
  obtain ⟨bm, N, nm, qn, bs, hdct, sn, sub, ab, col, dd, k0, k1, k2, k3, k5, mN, hC, hN, hni, TL⟩ := q.obj I.mod.kin
  refine wpAny_Raise_call_subT (C := C) (nm := nm) (q := qn) (N := N) (bs := bs) (bm := bm) (hdct := hdct) (sn := sn) (sub := sub) (ab := ab) (col := col) (dd := dd) (k0 := k0) (k1 := k1) (k2 := k2) (k3 := k3) (k5 := k5)
    PySem.F.excBase_ValueError (mN := mN) (TL.hasType (by decide)) (I.ok.hd hc) (by rw [he]; show (false || (backTo cpos (starEach es X.env)).any (·.1)) = false; rw [hplain]; rfl) hni (ld_glob I hg hm ⟨rfl, ?_⟩ hd)
  have hA := ha cpos pins s σ H _ I h
  rw [he] at hA ⊢
  refine Calls.evalArgs_plain (thn hA fun us s2 ⟨vs, H2, I2, r2, hz, hE⟩ => ⟨rfl, ?_, I2.bk _ _ hC, hN.keeps I2.bk, TL.keeps I2.bk, fun h' x hmk => hx pins σ H2 s2 h' x _ us I2 hmk hE⟩)
  rw [← r2.length]
  exact hz
theorem ps_raise0 (hc : X.calm = true) (hx : Raises X E) (q : ErrC X.K C) (hg : Gl X c) (hm : X.mg c = some (.ref C)) (hd : (c == ("__debug__" : Str)) = false := by decide) :
    PS X (.Raise (some (.Call (.Name c np) [] [] cpos)) none pos) (tRaise C E tNil) := by
  intro pins s σ H D I h
  obtain ⟨bm, N, nm, qn, bs, hdct, sn, sub, ab, col, dd, k0, k1, k2, k3, k5, mN, hC, hN, hni, TL⟩ := q.obj I.mod.kin
  refine wpAny_Raise_call_subT (C := C) (nm := nm) (q := qn) (N := N) (bs := bs) (bm := bm) (hdct := hdct) (sn := sn) (sub := sub) (ab := ab) (col := col) (dd := dd) (k0 := k0) (k1 := k1) (k2 := k2) (k3 := k3) (k5 := k5)
    PySem.F.excBase_ValueError (mN := mN) (TL.hasType (by decide)) (I.ok.hd hc) rfl hni (ld_glob I hg hm ⟨rfl, ?_⟩ hd)
  exact evalArgs_empty ⟨rfl, Nat.zero_le _, I.bk _ _ hC, hN.keeps I.bk, TL.keeps I.bk, fun h' x hmk => hx pins σ H s h' x _ [] I hmk h.2⟩
end
end L2

namespace L2
open PySem PySem.Spec PySem.Calls PyProof.Rows PySem.W
open Builtin Builtin.Getset_descriptor Builtin.ObjectAttr
section
variable {prog : Program} {w : World} {A : Around} {E : Value → Shared → Prop} {s : Shared} {K : Frag} {x D : Addr} {R : Result → Shared → Prop}
/-- an object of the class D stands at x -/
def OfCls (x D : Addr) (h : Heap) : Prop := ∃ o, h.get? x = some o ∧ o.cls = .ref D
theorem OfCls.type {M : Model} {h : Heap} (p : OfCls x D h) : Looks M h (typeOf (.ref x)) (.ref D) := by
  obtain ⟨o, e, c⟩ := p
  exact c ▸ (Looks.ld e).andThen .now
theorem xclass_get {tp : Value} (X : K.In s.heap) (p : OfCls x D s.heap) (hm : mroIn K D (.type "object") = some true) (h : R (.ok (.ret (.ref D))) s) :
    codeAny (model prog w) A (.call (.builtin "getset_descriptor.__get__") ⟨[.builtin "object.__class__", .ref x, tp], []⟩) R s := by
  obtain ⟨hh, g, dr, t, os⟩ := s
  have L0 := p.type (M := model prog w)
  have L1 := looks_mroIn (M := model prog w) X hm
  refine codeAny_call_builtin KF.slot_gs.plain KF.entry_gs (KF.slot_gs.check _ _ _ _ _ _ _ _ KF.type_class (KF.args_gs _ _ _) ?_)
  unfold Builtin.«getset_descriptor.__get__» descrGet
  rw [dga_obj]
  refine wpAny_bind (wpAny_pure ?_)
  unfold descrGetter descrCheckInstance descrNameAndClass isInstance
  simp only [KF.owner_class]
  repeat lk
  refine ⟨Code.quiet_builtin _ (by decide +kernel), codeAny_builtin KF.entry_class ?_⟩
  unfold Builtin.«object.__class__» shownTypeOf
  repeat lk
  exact h
theorem xclass_entry {tk : Tok} {Q : Fin → Shared → Prop} (X : K.In s.heap) (p : OfCls x D s.heap) (hca : findIn K (.ref D) "__class__" = some (some (.builtin "object.__class__"))) (hm : mroIn K D (.type "object") = some true)
    (h : Q (.done (.ret (.ref D))) s) : wpAny (model prog w) A (Builtin.«object.__getattribute__» ⟨[.ref x, .str "__class__" tk], []⟩) Q E s := by
  obtain ⟨hh, g, dr, t, os⟩ := s
  have L0 := p.type (M := model prog w)
  have L1 := looks_findIn (M := model prog w) X hca
  have f5 := F.typeOf_object_class
  have f6 := F.slot_gs_get.lookup
  have f7 := F.slot_gs_set.lookup
  repeat (any_goals (first | assumption | with_reducible refine Looks.at (by assumption) ?_ | wp_step))
  refine xclass_get X p hm ?_
  repeat (any_goals (first | assumption | with_reducible refine Looks.at (by assumption) ?_ | wp_step))
theorem xclass_check {M : Model} {nameV : Value} {Q : Unit → Shared → Prop} (X : K.In s.heap) (p : OfCls x D s.heap) (hb : mroIn K D (.type "BaseException") = some true) (h : Q () s) :
    wpAny M A (checkBuiltinCall "BaseException.__getattribute__" ⟨[.ref x, nameV], []⟩) Q E s := by
  obtain ⟨hh, g, dr, t, os⟩ := s
  have L0 := p.type (M := M)
  have L1 := looks_mroIn (M := M) X hb
  have hk : builtinKind "BaseException.__getattribute__" = some .slot := by decide +kernel
  have hsplit : splitId "BaseException.__getattribute__" = some ("BaseException", "__getattribute__") := by decide +kernel
  have ha := F.args_bexc_ga (.ref x) nameV
  simp only [checkBuiltinCall, hk, hsplit]
  refine wpAny_bind ?_
  unfold isInstance
  repeat (any_goals (first | with_reducible refine Looks.at (by assumption) ?_ | wp_step))
  exact h
/-- what the class of an own error has of Python's own -/
structure ErrA (K : Frag) (D : Addr) : Prop where
  ga : findIn K (.ref D) "__getattribute__" = some (some (.builtin "BaseException.__getattribute__"))
  gt : findIn K (.ref D) "__getattr__" = some none
  ca : findIn K (.ref D) "__class__" = some (some (.builtin "object.__class__"))
  mo : mroIn K D (.type "object") = some true
  mb : mroIn K D (.type "BaseException") = some true
  cl : (clsIn K D).isSome = true
theorem xclass_by {tk : Tok} {fill expr : Bool} {Q : Value → Shared → Prop} (Z : ErrA K D) (X : K.In s.heap) (p : OfCls x D s.heap) (h : Q (.ref D) s) : wpAny (model prog w) A (getAttrBy (.ref x) (.str "__class__" tk) fill expr) Q E s := by
  obtain ⟨hh, g, dr, t, os⟩ := s
  have L0 := p.type (M := model prog w)
  have L1 := looks_findIn (M := model prog w) X Z.ga
  have L2' := looks_findIn (M := model prog w) X Z.gt
  have f3 := F.excAttr_ValueError.ga.bind (.ref x)
  have hx0 : (expr && onTheHeap (Value.builtin "BaseException.__getattribute__")) = false := by cases expr <;> rfl
  have hx2 : (Value.builtin "BaseException.__getattribute__" == Value.builtin "object.__getattribute__") = false := by decide +kernel
  have hx1 : (onTheHeap (Value.ref D) && Value.builtin "BaseException.__getattribute__" == Value.builtin "object.__getattribute__") = false := by rw [hx2]; rfl
  repeat (any_goals (first | assumption | with_reducible refine Looks.at (by assumption) ?_ | wp_step))
  refine codeAny_call_builtin F.excAttr_ValueError.ga.plain F.entry_bexc_ga (xclass_check X p Z.mb (xclass_entry X p Z.ca Z.mo ?_))
  repeat (any_goals (first | assumption | with_reducible refine Looks.at (by assumption) ?_ | wp_step))
theorem xclass_attr {Q : Option Value → Shared → Prop} (Z : ErrA K D) (X : K.In s.heap) (p : OfCls x D s.heap) (h : Q (some (.ref D)) { s with toks := s.toks + 1 }) : wpAny (model prog w) A (getAttr? (.ref x) "__class__") Q E s := by
  obtain ⟨hh, g, dr, t, os⟩ := s
  unfold getAttr? getAttrBy?
  exact wpAny_bind (wpAny_mkText (wpAny_bind (wpAny_attempt (xclass_by (s := ⟨hh, g, dr, t + 1, os⟩) Z X p (wpAny_pure h)))))
theorem kitx_err (Z : ErrA K D) : KitX K (.ref x) (.ref D) (OfCls x D) where
  ty := fun _ _ _ p => p.type
  it := fun _ _ X _ => by
    have hcD := Z.cl
    unfold clsIn at hcD
    split at hcD
    · rename_i c' d' cd' sl' ho
      intro A' Q' E' s' k q
      unfold isType loadHead
      exact wpAny_bind (wpAny_loadPart (k _ _ (X _ _ ho)) (wpAny_pure q))
    · cases hcD
  ne := fun h tp dd its n sl X htp => by
    have hcD := Z.cl
    refine Bool.eq_false_iff.mpr fun q => ?_
    have e : D = tp := Value.ref.inj (beq_iff_eq.mp q)
    subst e
    unfold clsIn at hcD
    split at hcD
    · rename_i c' d' cd' sl' ho
      have z := (X _ _ ho).symm.trans htp
      cases z
    · cases hcD
  ca := fun X p k => xclass_attr Z X p k
end
end L2

/-! ### try: .. except C as n: .. -/
namespace L2
open PySem PySem.Spec PyProof.Rows
section
variable {X : Cx} {pins pins' : List (Addr × Obj)} {σ : St} {H : Hp} {s : Shared}
/-- another surrounding, other pins, another wish -/
abbrev Cx.re (X : Cx) (A : Around) (calm : Bool) (pn : List (Addr × Obj)) (xe : Value → Shared → Prop) : Cx := { X with A := A, calm := calm, pn := pn, xe := xe }
theorem Inv.re (I : Inv X pins σ H s) {A : Around} {calm : Bool} {pn : List (Addr × Obj)} {xe : Value → Shared → Prop} (hfr : A.frames = some X.stack) (hd : calm = true → A.handled = none) (hp : ∀ p ∈ pn ++ pins', p ∈ X.pn ++ pins) :
    Inv (X.re A calm pn xe) pins' σ H s :=
  ⟨⟨I.ok.mod, I.ok.kind, I.ok.glob, I.ok.blt, I.ok.above, I.ok.inj, I.ok.has, I.ok.cab, hd, hfr, I.ok.stk, I.ok.exf, I.ok.bs, I.ok.bsz, I.ok.noex, I.ok.exfs, I.ok.funs, I.ok.frf⟩, I.os, I.bare, I.base, I.loc, I.cell, I.free, I.freeC, fun p q => I.pin p (hp p q), I.hok, I.len⟩
theorem Inv.unre {A : Around} {calm : Bool} {xe : Value → Shared → Prop} (ok : X.Ok) (I : Inv (X.re A calm (X.pn ++ pins) xe) pins' σ H s) : Inv X pins σ H s :=
  ⟨ok, I.os, I.bare, I.base, I.loc, I.cell, I.free, I.freeC, fun p q => I.pin p (List.mem_append_left _ q), I.hok, I.len⟩
/-- an exception that a call has let out -/
def TryW (X : Cx) (pn : List (Addr × Obj)) (Ew : XK) : Value → Shared → Prop := fun e s1 => ∃ (pins' : List (Addr × Obj)) (σ₁ : St) (H₁ : Hp) (s₁ : Shared), Inv (X.re X.A X.calm pn fun _ _ => False) pins' σ₁ H₁ s₁ ∧ Fly X.prog X.w X.stack H₁ s₁ Ew e s1
abbrev Cx.tryC (X : Cx) (pn : List (Addr × Obj)) (Ew : XK) : Cx := X.re X.A X.calm pn (TryW X pn Ew)
/-- within the handler's suite -/
abbrev Cx.supC (X : Cx) (x : Addr) (pn : List (Addr × Obj)) : Cx := X.re (X.A.mark (some (.ref x))) false pn fun _ _ => False
theorem pass_try {pn : List (Addr × Obj)} {Ew : XK} : Passes (Fly X.prog X.w) (X.tryC pn Ew) Ew := fun pins σ H s e s' I h =>
  ⟨pins, σ, H, s, ⟨⟨I.ok.mod, I.ok.kind, I.ok.glob, I.ok.blt, I.ok.above, I.ok.inj, I.ok.has, I.ok.cab, I.ok.hd, I.ok.frames, I.ok.stk, I.ok.exf, I.ok.bs, I.ok.bsz, I.ok.noex, I.ok.exfs, I.ok.funs, I.ok.frf⟩, I.os, I.bare, I.base, I.loc, I.cell, I.free, I.freeC, I.pin, I.hok, I.len⟩, h⟩
/-- a local name is let go -/
theorem Inv.drop {i : Nat} {n : Str} {m : Str → Option Value} {u : Option Value} {h' : Heap} (I : Inv X pins σ H s) (hN : X.N.Nodup) (hi : X.N[i]? = some n) (hm0 : ∀ (i : Nat) (x : Str) (v : V), X.N[i]? = some x → σ[i]? = some (some v) → Vis X.env.scope x → ∃ u, RelV v u ∧ Look X.env s.heap m x u)
    (hn' : h'.Ns X.env.locals (fun y => if y = n then u else m y)) (hs : Heap.SameBut X.env.locals s.heap h') : Inv X pins (σ.set i none) H { s with heap := h' } := by
  obtain ⟨m1, ⟨oL, _, _, hoL, _⟩, _⟩ := I.loc
  refine ⟨I.ok, I.os, I.bare, ⟨fun b o e n hb hx => ?_, fun b o e n hb hx => ?_, I.base.free, fun b o e hx => ?_, I.base.tups, I.base.frzs, I.base.tbls⟩, ⟨_, hn', fun j y v' e1 e2 e3 => ?_⟩, fun y c e => ?_, I.free, I.freeC, fun p hp => ?_, fun b ob e => ?_, by simpa using I.len⟩
  · exact (hs.2 b (Nat.ne_of_lt (Nat.lt_of_lt_of_le (Heap.lt_size e) I.ok.above))).trans (I.base.keep b o e n hb hx)
  · obtain ⟨sl, e1⟩ := I.base.slot b o e n hb hx
    exact ⟨sl, (hs.2 b (Nat.ne_of_lt (Nat.lt_of_lt_of_le (Heap.lt_size e) I.ok.above))).trans e1⟩
  · obtain ⟨o', e1⟩ := I.base.there b o e hx
    exact ⟨o', (hs.2 b (Nat.ne_of_lt (Nat.lt_of_lt_of_le (Heap.lt_size e) I.ok.above))).trans e1⟩
  · by_cases hj : j = i
    · subst hj
      rw [List.getElem?_set] at e2
      simp only [if_true] at e2
      split at e2 <;> cases e2
    · rw [List.getElem?_set_ne (Ne.symm hj)] at e2
      obtain ⟨u', r', q⟩ := hm0 j y v' e1 e2 e3
      refine ⟨u', r', ?_⟩
      rcases q with ⟨k, e⟩ | ⟨k, c, e, z⟩
      · refine .inl ⟨k, ?_⟩
        have : y ≠ n := fun e => hj (nodup_ix hN e1 (e ▸ hi))
        simp [this, e]
      · exact .inr ⟨k, c, e, z.sameBut hs (I.cne y c e)⟩
  · obtain ⟨w', z⟩ := I.cell y c e
    exact ⟨w', z.sameBut hs (I.cne y c e)⟩
  · obtain ⟨e, n, ne, nf, d⟩ := I.pin p hp
    exact ⟨(hs.2 p.1 ne).trans e, n, ne, nf, d⟩
  · refine (I.hok b ob e).stay (fun c w' hc q => (hs.2 c ?_).trans q) (fun _ q => q) fun _ _ q => q
    rintro rfl
    rcases hc with rfl | hc
    · rw [I.free] at e; cases e
    · rw [I.free] at hc; cases hc
end
/-- what flies is looked at again: all that B holds stays -/
theorem Un.land {L : List Env} {B : Heap} {H₁ H' : Hp} {h₁ h2 h' : Heap} (un : Un (frs L) [] H₁ H' h₁ h2) (st : B.StaysIn h') (ff : h'.FunFrames B L) (ff2 : h2.FunFrames B L) (up : h2.UpToSlots h')
    (i : ∀ b o, h₁.get? b = some o → H₁ b = none → b ∉ frs L → B.get? b = some o) (iii : ∀ b o, h₁.get? b = some o → b ∉ frs L → ∃ o', B.get? b = some o') : Un (frs L) [] H₁ H' h₁ h' := by
  refine ⟨fun b o e n hb _ => st _ _ (i b o e n hb), fun b o e n hb _ => ?_, fun b o e n _ => un.free b o e n (by simp), fun b o e _ => ?_, un.tups, un.frzs, un.tbls⟩
  · obtain ⟨sl2, e2⟩ := un.slot b o e n hb (by simp)
    obtain ⟨_, o', ho', nf⟩ := ff2.mem hb
    rw [e2] at ho'; cases ho'
    obtain ⟨sl3, e3⟩ := up b _ e2 nf
    exact ⟨sl3, e3⟩
  · by_cases hb : b ∈ frs L
    · obtain ⟨_, o', ho', _⟩ := ff.mem hb
      exact ⟨o', ho'⟩
    · obtain ⟨o', e1⟩ := iii b o e hb
      exact ⟨o', st _ _ e1⟩
theorem HOk.land {P : Program} {w : World} {B : Heap} {H' : Hp} {h2 h' : Heap} (hok : HOk P w H' h2) (st2 : B.StaysIn h2) (st : B.StaysIn h') (ii : ∀ b u, H' b = some u → ∃ o, B.get? b = some o) : HOk P w H' h' := fun b u e => by
  refine (hok b u e).stay (fun c v hc q => ?_) (fun _ q => q) fun _ _ q => q
  have hc' : ∃ ob, B.get? c = some ob := by
    rcases hc with rfl | hc
    · exact ii _ _ e
    · exact ii _ _ hc
  obtain ⟨ob, hob⟩ := hc'
  have q' := st2 _ _ hob
  rw [q] at q'; cases q'
  exact st _ _ hob
/-- an object is tracked from here on -/
theorem HOk.track {P : Program} {w : World} {H : Hp} {h : Heap} {x : Addr} {o : HO} (hok : HOk P w H h) (hn : H x = none) (new : ObjOk P w (upd H x o) h x o) : HOk P w (upd H x o) h := fun b u e => by
  by_cases hb : b = x
  · subst hb; rw [upd_same] at e; cases e; exact new
  · rw [upd_ne hb] at e
    exact (hok b u e).stay (fun c v _ q => q) (fun c q => by rw [upd_ne (ne_of_none q hn)]; exact q) fun c xs q => by rw [upd_ne (ne_of_none q hn)]; exact q
theorem Un.track {fs : List Addr} {H H' : Hp} {h h' : Heap} {x : Addr} {o : HO} (un : Un fs [] H H' h h') (hn : H' x = none) (hx : h.get? x = none) : Un fs [] H (upd H' x o) h h' :=
  ⟨un.keep, un.slot, fun b ob e n hb => by rw [upd_ne (fun z => by rw [z, hx] at e; cases e)]; exact un.free b ob e n hb, un.there, fun b xs e => by have q := un.tups b xs e; rw [upd_ne (ne_of_none q hn)]; exact q,
    fun b ob u e => by have q := un.frzs b ob u e; rw [upd_ne (ne_of_none q hn)]; exact q, fun b ps e => by obtain ⟨m, q⟩ := un.tbls b ps e; exact ⟨m, by rw [upd_ne (ne_of_none q hn)]; exact q⟩⟩
/-- ie: the slot of the name behind 'as'; D: the class that is caught -/
def tTry (K : PySem.W.Frag) (ie : Nat) (D : Addr) (tb : XK → TS) (ts : TS) : TS := fun Dn σ H => ∃ Ew : XK, tb Ew Dn σ H ∧ ∀ (x : Addr) (cls : Value) (σ₁ : St) (H₁ : Hp), Ew cls none H₁ → H₁ x = none → σ₁.length = σ.length →
  ∃ C, cls = .ref C ∧ PySem.W.exmOne K (.ref C) (.ref D) = some true ∧
    ts { nx := fun σ' H' => Dn.nx (σ'.set ie none) H', rt := Dn.rt, bk := fun σ' H' => Dn.bk (σ'.set ie none) H', ct := fun σ' H' => Dn.ct (σ'.set ie none) H' } (σ₁.set ie (some (.ref x))) (upd H₁ x (.ext (OfCls x C)))
section
variable {X : Cx} {c n : Str} {D : Addr} {ie : Nat} {np hpos pos : Pos} {body : List Stmt} {b0 : Stmt} {suite : List Stmt} {tb : XK → TS} {ts : TS}
theorem ps_try (hst : X.stack = X.env :: X.outer) (hf : X.env.frame = some X.env.locals) (hN : X.N.Nodup) (hi : X.N[ie]? = some n) (hloc : X.env.scope.names.lookup n = some .local) (hg : Gl X c) (hm : X.mg c = some (.ref D))
    (hbody : ∀ pn Ew, PSs (X.tryC pn Ew) body (tb Ew)) (hsuite : ∀ x pn, PSs (X.supC x pn) (b0 :: suite) ts) (hd : (c == ("__debug__" : Str)) = false := by decide) :
    PS X (.Try body [.ExceptHandler (some (.Name c np)) (some n) (b0 :: suite) hpos] [] [] pos) (tTry X.K ie D tb ts) := by
  intro pins s σ H Dn I h
  obtain ⟨Ew, hb, hh⟩ := h
  refine wpAny_Try_except ?_
  have Ib : Inv (X.tryC (X.pn ++ pins) Ew) [] σ H s := I.re I.ok.frames I.ok.hd fun p q => by rw [List.append_nil] at q; exact q
  refine wpAny_mono (hbody _ Ew [] s σ H Dn Ib hb) (fun f s1 q => ?_) (fun e s1 q => ?_)
  · cases f with
    | next => obtain ⟨σ', H', I', q⟩ := q; exact wpAny_execs_nil ⟨σ', H', I'.unre I.ok, q⟩
    | brk => obtain ⟨σ', H', I', q⟩ := q; exact ⟨σ', H', I'.unre I.ok, q⟩
    | cont => obtain ⟨σ', H', I', q⟩ := q; exact ⟨σ', H', I'.unre I.ok, q⟩
    | ret u => obtain ⟨v, σ', H', I', r, q⟩ := q; exact ⟨v, σ', H', I'.unre I.ok, r, q⟩
  · obtain ⟨pins', σ₁, H₁, s₁, I1, x, cls, H', B, t, rfl, os, bare, un, hok, fl, i, ii, iii, hE⟩ := q
    have hfr : X.A.frames = some (X.env :: X.outer) := by rw [← hst]; exact I.ok.frames
    have hHx : H' x = none := by
      cases z : H' x with
      | none => rfl
      | some u => obtain ⟨o, e⟩ := ii x u z; rw [fl.2.1] at e; cases e
    have hsx : s₁.heap.get? x = none := by
      cases z : s₁.heap.get? x with
      | none => rfl
      | some o =>
        by_cases hx : x ∈ frs X.stack
        · obtain ⟨_, o', ho', nf⟩ := fl.2.2.1.mem hx
          obtain ⟨oe, vs, he, _, hde, _⟩ := fl.first
          rw [he] at ho'; cases ho'
          exact absurd hde (nf vs)
        · obtain ⟨o', e⟩ := iii x o z hx; rw [fl.2.1] at e; cases e
    obtain ⟨C, rfl, hex, hs⟩ := hh x cls σ₁ H' hE hHx (by rw [I.len]; exact I1.len)
    have fl0 := fl
    rw [hst] at fl
    refine wpAny_looks_onW hfr hf fl fun h4 held up4 => ?_
    refine wpAny_landsW held fun h5 fl5 up5 => ?_
    rw [← hst] at fl5
    have un5 := un.land fl5.1 fl5.2.2.1 fl0.2.2.1 (up4.trans up5) i iii
    have I5 : Inv (X.re X.A X.calm (X.pn ++ pins) fun _ _ => False) pins' σ₁ H' { s1 with heap := h5 } := I1.call' (ch := []) os un5 (hok.land fl0.1 fl5.1 ii) bare fun _ z => nomatch z
    have IY : Inv (X.supC x (X.pn ++ pins)) [] σ₁ H' { s1 with heap := h5 } := Inv.re (X := X.re X.A X.calm (X.pn ++ pins) fun _ _ => False) I5 I.ok.frames (fun z => nomatch z) fun p q => by rw [List.append_nil] at q; exact List.mem_append_left _ q
    refine wpAny_handleBy_cons (codeAny_handlers_test (ld_glob (X := X.supC x (X.pn ++ pins)) IY hg hm ?_ hd)) (by intro q; cases q)
    have LT : PySem.W.Looks (model X.prog X.w) h5 (typeOf (.ref x)) (.ref C) := OfCls.type fl5.there
    refine PySem.W.exm_one (h := h5) IY.kIn LT hex _ _ _ _ (fun _ _ e => e) ?_
    show codeAny _ _ (.handlers (.ref x) [.ExceptHandler none (some n) (b0 :: suite) hpos] X.env) _ _
    refine codeAny_handlers_suite_as ?_
    refine lands_againW fl5 fun h6 fl6 up6 => ?_
    have un6 := (un.land fl6.1 fl6.2.2.1 fl0.2.2.1 ((up4.trans up5).trans up6) i iii).track (x := x) (o := .ext (OfCls x C)) hHx hsx
    have hok6 : HOk X.prog X.w (upd H' x (.ext (OfCls x C))) h6 := (hok.land fl0.1 fl6.1 ii).track hHx ⟨fl6.there, (let ⟨o, e, _⟩ := fl6.there; ⟨o, e⟩), fun a b ⟨o, e, q⟩ k => ⟨o, k o e, q⟩⟩
    have I6' : Inv (X.re X.A X.calm (X.pn ++ pins) fun _ _ => False) pins' σ₁ (upd H' x (.ext (OfCls x C))) { s1 with heap := h6 } := I1.call' (ch := []) os un6 hok6 bare fun _ z => nomatch z
    have I6 : Inv (X.supC x (X.pn ++ pins)) [] σ₁ (upd H' x (.ext (OfCls x C))) { s1 with heap := h6 } := Inv.re (X := X.re X.A X.calm (X.pn ++ pins) fun _ _ => False) I6' I.ok.frames (fun z => nomatch z) fun p q => by rw [List.append_nil] at q; exact List.mem_append_left _ q
    refine store_ok (X := X.supC x (X.pn ++ pins)) I6 hN hi (.inl hloc) (v := .ref x) rfl (fun s7 I7 => ?_) (.inr hloc)
    refine wpAny_mono (hsuite x _ [] s7 _ _ _ I7 hs) (fun f s8 q8 => ?_) fun _ _ z => False.elim z
    show wpAny _ X.A (do bindName X.env n .none; unbindBehindTheSuite X.env n hpos) (fun _ s9 => SP X pins Dn f s9) X.xe s8
    have fin : ∀ {σ8 : St} {H8 : Hp}, Inv (X.supC x (X.pn ++ pins)) [] σ8 H8 s8 → (∀ s9, Inv X pins (σ8.set ie none) H8 s9 → SP X pins Dn f s9) → wpAny (model X.prog X.w) X.A (do bindName X.env n .none; unbindBehindTheSuite X.env n hpos) (fun _ s9 => SP X pins Dn f s9) X.xe s8 := fun {σ8 H8} I8 k => by
      refine wpAny_bind (wpAny_bindName (store_ok (Inv.unre I.ok I8) hN hi (.inl hloc) (v := .non) rfl (fun s9 I9 => ?_) (.inr hloc)))
      unfold unbindBehindTheSuite
      obtain ⟨m, hn9, hl9⟩ := I9.loc
      have hlen : ie < σ8.length := by rw [I8.len]; exact (List.getElem?_eq_some_iff.mp hi).1
      obtain ⟨u, ru, lu⟩ := hl9 ie n .non hi (by rw [List.getElem?_set_self hlen]) (.inl hloc)
      have hu : m n = some u := by
        rcases lu with ⟨_, e⟩ | ⟨k', _⟩
        · exact e
        · have k' : X.env.scope.names.lookup n = some .cell ∨ X.env.scope.names.lookup n = some .free := k'
          rw [hloc] at k'
          rcases k' with z | z <;> cases z
      refine wpAny_onRaise (wpAny_unbindName_local hloc hn9 hu (by rw [I.ok.kind]; rfl) fun h10 u' hn10 hs10 => ?_)
      have I10 := I9.drop hN hi hl9 hn10 hs10
      rw [List.set_set] at I10
      exact k _ I10
    cases f with
    | next => obtain ⟨σ', H'', I', q⟩ := q8; exact fin I' fun s9 I9 => ⟨_, H'', I9, q⟩
    | brk => obtain ⟨σ', H'', I', q⟩ := q8; exact fin I' fun s9 I9 => ⟨_, H'', I9, q⟩
    | cont => obtain ⟨σ', H'', I', q⟩ := q8; exact fin I' fun s9 I9 => ⟨_, H'', I9, q⟩
    | ret u => obtain ⟨v, σ', H'', I', r, q⟩ := q8; exact fin I' fun s9 I9 => ⟨v, _, H'', I9, r, q⟩
end
/-! ### isinstance of a caught error -/
section
variable {X : Cx}
/-- isinstance(e, c), c an own class or one of Python's own -/
theorem call_isinstX : CallR X (.builtin "isinstance") (fun xs H Q => ∃ x C c b, xs = [.ref x, c] ∧ H x = some (.ext (OfCls x C)) ∧ ErrA X.K C ∧ (∀ u, RelV c u → PySem.W.kitOne X.K (.ref C) u = some b) ∧ Q (.bl b) H) := by
  intro pins s σ H xs us Q I r h
  obtain ⟨x, C, c, b, rfl, hx, Z, e, q⟩ := h
  obtain ⟨u, w, rfl, r1, r2⟩ := vals2 r
  cases r1
  obtain ⟨p, _, _⟩ := I.hok x _ hx
  exact PySem.W.kia_one (kitx_err Z) I.kIn p (e w r2) (fun z => nomatch z) fun tk => ⟨.bl b, H, I.tok tk, rfl, q⟩
/-- isinstance(e, (C1, ..)) of own classes -/
theorem call_isinstXT : CallR X (.builtin "isinstance") (fun xs H Q => ∃ (x C tp : Addr) (Cs : List Addr) (b : Bool), xs = [.ref x, .ref tp] ∧ H x = some (.ext (OfCls x C)) ∧ H tp = some (.tup (Cs.map V.ref)) ∧ ErrA X.K C ∧ PySem.W.kitAny X.K (.ref C) (Cs.map Value.ref) = some b ∧ Q (.bl b) H) := by
  intro pins s σ H xs us Q I r h
  obtain ⟨x, C, tp, Cs, b, rfl, hx, ht, Z, e, q⟩ := h
  obtain ⟨u, w, rfl, r1, r2⟩ := vals2 r
  cases r1
  cases r2
  obtain ⟨p, _, _⟩ := I.hok x _ hx
  obtain ⟨_, its, rv, ⟨oc, od, odt, osl⟩, ho, hc, n, hdt⟩ := I.hok tp _ ht
  rw [vals_refs rv] at hdt
  dsimp only at hc hdt
  subst hc hdt
  exact PySem.W.kia_tup (kitx_err Z) I.kIn p ho e (fun z => nomatch z) fun tk => ⟨.bl b, H, I.tok tk, rfl, q⟩
end
theorem Fun.okX {P : Program} {w : World} {K : PySem.W.Frag} {mg : Str → Option Value} {base : Heap} {x qual : Str} {st : Stmt} {f : Addr} {fd : FuncData} {N ps : List Str} {k : Nat} {sp : Sp} (F : Fun K x qual st f fd) (S : FnScope N ps (defScope st)) (len : ∀ vs H Q E, sp vs H Q E → vs.length = ps.length)
    (hbody : ∀ (cdv : Value) (A : Around) (outer : List Env) (s : Shared) (H : Hp) (vs : List V) (Q : VK) (E : XK), Room k (A.deeper (envOfC qual (defScope st) s.heap.objs.size f cdv)) → sp vs H Q E →
      ∃ t, PSs (cxOf (Fly P w) P w K mg base N qual (defScope st) f cdv A outer s H E) (defBody st) t ∧ t { nx := fun _ H' => Q .non H', rt := Q } (start N vs) H) : FnOk P w K mg base (Fly P w) (k + 1) f fd ps sp := by
  obtain ⟨oc, od, kV, doc, pm, an, cdv, ct, osl, rfl, lk, hcd⟩ := F.ex
  exact fn_of lk hcd S len fun A outer s H vs Q E hr hsp => hbody cdv A outer s H vs Q E hr hsp
theorem PS.nox {X : Cx} {st : Stmt} {t : TS} (h : PS X.nox st t) : PS X st t := fun pins s σ H D I hw =>
  wpAny_mono (h pins s σ H D (I.wish _) hw) (fun _ _ q => q.unwish) fun _ _ z => False.elim z

theorem isinstX_K {X : Cx} {K : PySem.W.Frag} (h : X.K = K) : CallR X (.builtin "isinstance") (fun xs H Q => ∃ x C c b, xs = [.ref x, c] ∧ H x = some (.ext (OfCls x C)) ∧ ErrA K C ∧ (∀ u, RelV c u → PySem.W.kitOne K (.ref C) u = some b) ∧ Q (.bl b) H) := by subst h; exact call_isinstX
theorem isinstXT_K {X : Cx} {K : PySem.W.Frag} (h : X.K = K) : CallR X (.builtin "isinstance") (fun xs H Q => ∃ (x C tp : Addr) (Cs : List Addr) (b : Bool), xs = [.ref x, .ref tp] ∧ H x = some (.ext (OfCls x C)) ∧ H tp = some (.tup (Cs.map V.ref)) ∧ ErrA K C ∧ PySem.W.kitAny K (.ref C) (Cs.map Value.ref) = some b ∧ Q (.bl b) H) := by subst h; exact call_isinstXT
/-- an own class of errors: what is asked of it -/
structure Cl (K : PySem.W.Frag) (C : Addr) : Prop where
  ex : ErrC K C
  er : ErrA K C
  ty : PySem.W.typeIn K (.ref C) = some (.type "type")
  sb : PySem.W.subIn K (.ref C) (.type "BaseException") = some true
  sv : PySem.W.subIn K (.ref C) (.type "ValueError") = some true
theorem Cl.cls {K : PySem.W.Frag} {C D : Addr} {b : Bool} (Z : Cl K D) (h : PySem.W.subIn K (.ref C) (.ref D) = some b) : PySem.W.kitCls K (.ref C) (.ref D) = some b := by
  show (if ((PySem.W.clsIn K D).isSome && PySem.W.typeIn K (.ref D) == some (.type "type")) = true then PySem.W.subIn K (.ref C) (.ref D) else none) = some b
  rw [Z.er.cl, Z.ty, if_pos (by decide)]
  exact h
theorem Cl.exm {K : PySem.W.Frag} {C D : Addr} {b : Bool} (Z : Cl K D) (h : PySem.W.subIn K (.ref C) (.ref D) = some b) : PySem.W.exmOne K (.ref C) (.ref D) = some b := by
  unfold PySem.W.exmOne
  rw [Z.sb, if_pos (by decide)]
  exact Z.cls h
theorem Cl.kit {K : PySem.W.Frag} {C D : Addr} {b : Bool} (Z : Cl K D) (hD : PySem.W.subIn K (.ref D) (.ref D) = some true) (h : PySem.W.subIn K (.ref C) (.ref D) = some b) : PySem.W.kitOne K (.ref C) (.ref D) = some b := by
  unfold PySem.W.kitOne
  split
  · rename_i e
    have e : C = D := Value.ref.inj (beq_iff_eq.mp e)
    subst e
    rw [hD] at h
    exact h
  · exact Z.cls h
theorem Cl.kitV {K : PySem.W.Frag} {C : Addr} (Z : Cl K C) : PySem.W.kitOne K (.ref C) (.type "ValueError") = some true := by
  unfold PySem.W.kitOne
  rw [if_neg (by intro z; cases beq_iff_eq.mp z)]
  show (if PySem.W.kitMeta "ValueError" = true then PySem.W.subIn K (.ref C) (.type "ValueError") else none) = some true
  rw [if_pos (by decide +kernel)]
  exact Z.sv
theorem kitAny2 {K : PySem.W.Frag} {t c d : Value} {b1 b2 : Bool} (h1 : PySem.W.kitOne K t c = some b1) (h2 : PySem.W.kitOne K t d = some b2) : PySem.W.kitAny K t [c, d] = some (b1 || b2) := by
  unfold PySem.W.kitAny
  rw [h1]
  cases b1 with
  | true => rfl
  | false =>
    show PySem.W.kitAny K t [d] = _
    unfold PySem.W.kitAny
    rw [h2]
    cases b2 <;> rfl
/-- no exception of a callee is possible here -/
theorem pass_flyN {P : Program} {w : World} {X : Cx} : Passes (Fly P w) X (fun _ _ _ => False) := fun _ _ _ _ _ _ _ h => by
  obtain ⟨x, cls, H', B, t, rfl, os, bare, un, hok, fl, i, ii, iii, hE⟩ := h
  exact hE.elim
end L2
namespace L2
open PySem PySem.Spec PyProof.Rows
/-- l[-k] -/
theorem LPts.neg {H : Hp} {l : Addr} {as : List Addr} {ps : List (Int × Int)} (h : LPts H l as ps) {k : Int} (h1 : 1 ≤ k) (h2 : k ≤ ps.length) : ∃ a, atI (as.map V.ref) (-k) = some (.ref a) ∧ PtAt H a (ps.getD (ps.length - k.toNat) (0, 0)) := by
  obtain ⟨a, e, q⟩ := h.at (i := ps.length - k.toNat) (by omega)
  refine ⟨a, ?_, q⟩
  have hl := h.2.len
  unfold atI ixN at e ⊢
  rw [List.length_map] at e ⊢
  rw [if_pos (by omega), if_pos (by omega)] at e
  rw [if_neg (by omega), if_pos (by omega)]
  rw [show (-k + (as.length : Int)).toNat = (((ps.length - k.toNat : Nat) : Int)).toNat by omega]
  exact e
theorem list3 {α : Type} : ∀ (l : List α), l.length = 3 → ∃ a b c, l = [a, b, c]
  | [a, b, c], _ => ⟨a, b, c, rfl⟩
theorem list4 {α : Type} : ∀ (l : List α), l.length = 4 → ∃ a b c d, l = [a, b, c, d]
  | [a, b, c, d], _ => ⟨a, b, c, d, rfl⟩
theorem isT_bool_bool : isT "bool" "bool" = some true := by decide +kernel
theorem isT_str_str : isT "str" "str" = some true := by decide +kernel
end L2
namespace L2
theorem cut_ints {ns : List Int} (lo hi : Option Int) : ∃ ms : List Int, cutV (ns.map V.int) lo hi = ms.map V.int ∧ ms.length ≤ ns.length := by
  unfold cutV
  refine ⟨(ns.drop (HT.sIx (ns.map V.int).length 0 lo)).take (HT.sIx (ns.map V.int).length (ns.map V.int).length hi - HT.sIx (ns.map V.int).length 0 lo), by rw [List.map_take, List.map_drop], ?_⟩
  rw [List.length_take, List.length_drop]
  omega
end L2
namespace L2
open PySem PySem.Spec PyProof.Rows
/-- a new point is appended to the list at l, which is newer than Hb -/
theorem LPts.put {Hb H' : Hp} {l q : Addr} {as : List Addr} {ps : List (Int × Int)} {x y : Int} (hl : Hb l = none) (sm : Same Hb H') (L : LPts H' l as ps) (hq : H' q = none) :
    Same Hb (upd (upd H' q (.tup [.int x, .int y])) l (.lst (as.map V.ref ++ [.ref q]))) ∧ LPts (upd (upd H' q (.tup [.int x, .int y])) l (.lst (as.map V.ref ++ [.ref q]))) l (as ++ [q]) (ps ++ [(x, y)]) := by
  have L1 := L.same (Same.upd (o := .tup [.int x, .int y]) hq)
  refine ⟨fun b o e => ?_, ?_, ?_⟩
  · rw [upd_ne (ne_of_none e hl), upd_ne (ne_of_none (sm b o e) hq)]
    exact sm b o e
  · rw [upd_same, List.map_append]
    rfl
  · exact (L1.2.snoc (a := q) (p := (x, y)) upd_same).wr L1.1
theorem LPts.room {H' : Hp} {l : Addr} {as : List Addr} {ps : List (Int × Int)} (L : LPts H' l as ps) (h : ps.length ≤ 1000) : (as.map V.ref).length < sizeLine := by
  rw [List.length_map, L.2.len]
  exact Nat.lt_of_le_of_lt h (by decide)
theorem LPts.free {H' : Hp} {l q : Addr} {as : List Addr} {ps : List (Int × Int)} {o : HO} (L : LPts H' l as ps) (hq : H' q = none) : (upd H' q o) l = some (.lst (as.map V.ref)) := by
  rw [upd_ne (ne_of_none L.1 hq)]
  exact L.1
end L2

set_option Elab.async false
set_option linter.all false
set_option maxRecDepth 100000
set_option maxHeartbeats 4000000
/-! Slices of lists by places; more over lists. -/
namespace L2
open PySem PySem.Spec PyProof.Rows
def cutL {α : Type} (xs : List α) (lo hi : Option Int) : List α := (xs.drop (HT.sIx xs.length 0 lo)).take (HT.sIx xs.length xs.length hi - HT.sIx xs.length 0 lo)
theorem cut_map {α : Type} (f : α → V) (xs : List α) (lo hi : Option Int) : cutV (xs.map f) lo hi = (cutL xs lo hi).map f := by
  unfold cutV cutL
  rw [List.length_map, List.map_take, List.map_drop]
theorem sIx_in {n d : Nat} {i : Int} (h0 : 0 ≤ i) (hi : i ≤ n) : HT.sIx n d (some i) = i.toNat := by
  show (if i < 0 then (i + (n : Int)).toNat else min i.toNat n) = _
  rw [if_neg (by omega)]
  omega
theorem sIx_neg {n d : Nat} {i : Int} (h0 : i < 0) : HT.sIx n d (some i) = (i + n).toNat := by
  show (if i < 0 then (i + (n : Int)).toNat else min i.toNat n) = _
  rw [if_pos h0]
theorem cutL_mid {α : Type} {xs : List α} {i j : Int} (h0 : 0 ≤ i) (hi : i ≤ xs.length) (hj0 : 0 ≤ j) (hj : j ≤ xs.length) : cutL xs (some i) (some j) = (xs.drop i.toNat).take (j.toNat - i.toNat) := by
  unfold cutL
  rw [sIx_in h0 hi, sIx_in hj0 hj]
theorem cutL_to {α : Type} {xs : List α} {j : Int} (h0 : 0 ≤ j) (hj : j ≤ xs.length) : cutL xs none (some j) = xs.take j.toNat := by
  unfold cutL
  rw [sIx_in h0 hj]
  rfl
theorem cutL_from {α : Type} {xs : List α} {i : Int} (h0 : 0 ≤ i) (hi : i ≤ xs.length) : cutL xs (some i) none = xs.drop i.toNat := by
  unfold cutL
  rw [sIx_in h0 hi]
  show (xs.drop i.toNat).take (xs.length - i.toNat) = _
  refine List.take_of_length_le ?_
  rw [List.length_drop]
  omega
theorem cutL_last {α : Type} {xs : List α} {i : Int} (h0 : i < 0) (hi : 0 ≤ i + xs.length) : cutL xs (some i) none = xs.drop (i + xs.length).toNat := by
  unfold cutL
  rw [sIx_neg h0]
  show (xs.drop _).take (xs.length - _) = _
  refine List.take_of_length_le ?_
  rw [List.length_drop]
  omega
theorem cutL_but {α : Type} {xs : List α} {i : Int} (h0 : i < 0) (hi : 0 ≤ i + xs.length) : cutL xs none (some i) = xs.take (i + xs.length).toNat := by
  unfold cutL
  rw [sIx_neg h0]
  rfl
theorem cut_mid {as : List Addr} {i j : Int} (h0 : 0 ≤ i) (hij : i ≤ j) (hj : j ≤ as.length) : cutV (as.map V.ref) (some i) (some j) = ((as.drop i.toNat).take (j.toNat - i.toNat)).map V.ref := by
  rw [cut_map, cutL_mid h0 (by omega) (by omega) hj]
/-- slices of lists of points -/
theorem paired_take {α β : Type} {F : α → β → Prop} : ∀ {xs : List α} {ys : List β} (n : Nat), Paired F xs ys → Paired F (xs.take n) (ys.take n)
  | _, _, 0, _ => by simpa using Paired.nil
  | _, _, n + 1, .nil => by simpa using Paired.nil
  | _, _, n + 1, .cons r t => .cons r (paired_take n t)
theorem paired_drop {α β : Type} {F : α → β → Prop} : ∀ {xs : List α} {ys : List β} (n : Nat), Paired F xs ys → Paired F (xs.drop n) (ys.drop n)
  | _, _, 0, h => h
  | _, _, n + 1, .nil => by simpa using Paired.nil
  | _, _, n + 1, .cons r t => paired_drop n t
theorem paired_cut {α β : Type} {F : α → β → Prop} {xs : List α} {ys : List β} (h : Paired F xs ys) (lo hi : Option Int) : Paired F (cutL xs lo hi) (cutL ys lo hi) := by
  unfold cutL
  rw [Paired.length h]
  exact paired_take _ (paired_drop _ h)
theorem paired_app {α β : Type} {F : α → β → Prop} {xs' : List α} {ys' : List β} (h' : Paired F xs' ys') : ∀ {xs : List α} {ys : List β}, Paired F xs ys → Paired F (xs ++ xs') (ys ++ ys')
  | _, _, .nil => h'
  | _, _, .cons r t => .cons r (paired_app h' t)
theorem paired_rev {α β : Type} {F : α → β → Prop} : ∀ {xs : List α} {ys : List β}, Paired F xs ys → Paired F xs.reverse ys.reverse
  | _, _, .nil => .nil
  | _, _, .cons (a := a) (b := b) r t => by
    rw [List.reverse_cons, List.reverse_cons]
    exact paired_app (.cons r .nil) (paired_rev t)
end L2
namespace L2
open PySem PySem.Spec PyProof PyProof.Rows
section
variable {X : Cx} {tg : Expr}
/-- hi, hi - 1, .. (n of them) -/
def Itd (hi : Int) (n : Nat) : It := ⟨fun i _ => i < n, fun i H x H' => H' = H ∧ x = .int (hi - i), fun i _ => n ≤ i⟩
theorem turn_down {P : Program} {w : World} {K : PySem.W.Frag} {tg : Expr} (it : PySem.Addr) (lo : Int) (n : Nat) : Turn P w K tg (Itd lo n) [it] it (fun i h => IsRangeIter h it (lo + (i : Nat) * (-1)) ((n : Int) - (i : Nat)) (-1)) where
  mem := by simp
  obj := fun i h st b hb => by
    have e : b = it := by simpa using hb
    subst e
    exact ⟨_, st, fun v z => by
      have z' : Data.fields _ = Data.cell v := z
      cases z'⟩
  keep := fun i h h' st k => k it (by simp) _ st
  item := by
    intro X hP hw hK hc i pins s σ H E I hf st hg
    subst hP hw hK
    obtain ⟨f0, f1, f2, f3, f4, f5⟩ := hf it (by simp)
    have W := Walks.range (prog := X.prog) (w := X.w) (I.ok.hd hc) it lo (-1) n
    refine W.item i s _ _ hg st fun v h' tk hv st' kk => ?_
    obtain ⟨t, rfl⟩ := hv
    have I1 : Inv X pins σ H { s with heap := h', toks := tk } := I.turned (fun b o hb e => kk b o (by simpa using hb) e) f0 f1 f3 f4 f5
    refine ⟨_, rfl, go_of (s := { s with heap := h', toks := tk }) (n := "range_iterator") st' rfl rfl (by decide) ⟨.int (lo - i), H, I1, ⟨t, ?_⟩, ⟨rfl, rfl⟩, st', fun b hb => (hf b hb).1⟩⟩
    rw [show lo + (i : Int) * (-1) = lo - i by omega]
  done := by
    intro X hP hw hK hc i pins s σ H E I hf st hg
    subst hP hw hK
    obtain ⟨f0, f1, f2, f3, f4, f5⟩ := hf it (by simp)
    exact wpAny_pyNext_range_end (I.ok.hd hc) st (by have : n ≤ i := hg; omega) fun h' eb => ⟨rfl, I.turned (t' := s.toks) (fun b o hb e => eb b o hb e) f0 f1 f3 f4 f5⟩
  self := fun _ _ _ _ _ st h => wpAny_pyIter_rangeiter st h
theorem rangeSize_down (a b : Int) : Builtin.Range.rangeSize a b (-1) = if a > b then a - b else 0 := by
  unfold Builtin.Range.rangeSize
  rw [if_neg (by decide)]
  split
  · rw [show -(-1 : Int) = 1 by decide, Int.ediv_one]; omega
  · rfl
theorem small_down {a b : Int} (ha : -(2 ^ 62) ≤ a) (ha' : a < 2 ^ 62) (hb : -(2 ^ 62) ≤ b) (hb' : b < 2 ^ 62) : Builtin.Range.small a b (-1) = true := by
  unfold Builtin.Range.small
  rw [rangeSize_down]
  simp only [Builtin.Range.rangeFitsLong, Bool.and_eq_true, Bool.or_eq_true, decide_eq_true_eq, beq_iff_eq, show ¬ (-1 : Int) > 0 by decide, if_false]
  split <;> omega
theorem range_itd {pins : List (PySem.Addr × Obj)} {σ : St} {H : Hp} {s : Shared} {R : It → Hp → Prop} {E : Value → Shared → Prop} {lo hi : Int} {t u v : Tok} {tk : Nat} (I : Inv X pins σ H s) (h1 : -(2 ^ 62) ≤ hi) (h2 : hi < 2 ^ 62) (h3 : -(2 ^ 62) ≤ lo) (h4 : lo < 2 ^ 62)
    (q : R (Itd hi (hi - lo).toNat) H) : wpAny (model X.prog X.w) X.A (pyIter (.ref s.heap.objs.size)) (PIE X pins σ tg R) E { s with heap := s.heap.push { cls := .type "range", data := .fields #[.int hi t, .int lo u, .int (-1) v] }, toks := tk } := by
  refine wpAny_pyIter_range (IsRange.new ..) (small_down h1 h2 h3 h4) ?_
  have I1 : Inv X pins σ H { s with heap := s.heap.push { cls := .type "range", data := .fields #[.int hi t, .int lo u, .int (-1) v] }, toks := tk } := I.kept fun b o e => Heap.get?_push_of_some _ e
  refine ⟨(s.heap.push { cls := .type "range", data := .fields #[.int hi t, .int lo u, .int (-1) v] }).objs.size, [(s.heap.push { cls := .type "range", data := .fields #[.int hi t, .int lo u, .int (-1) v] }).objs.size], _, _, H, rfl,
    I1.kept (t' := tk) fun b o e => Heap.get?_push_of_some _ e, turn_down _ hi (hi - lo).toNat, ?_, fun b hb => ?_, q⟩
  · have e1 : hi + ((0 : Nat) : Int) * (-1) = hi := by simp
    have e2 : (((hi - lo).toNat : Nat) : Int) - ((0 : Nat) : Int) = Builtin.Range.rangeSize hi lo (-1) := by rw [rangeSize_down]; split <;> omega
    show IsRangeIter _ _ (hi + ((0 : Nat) : Int) * (-1)) ((((hi - lo).toNat : Nat) : Int) - ((0 : Nat) : Int)) (-1)
    rw [e1, e2]
    exact Heap.get?_push_size _ rfl
  · have e : b = (s.heap.push { cls := .type "range", data := .fields #[.int hi t, .int lo u, .int (-1) v] }).objs.size := by simpa using hb
    subst e
    exact I1.fpOk (Nat.le_refl _) (I1.hok.fresh (Nat.le_refl _))
def iRngD (ta : TA) : TI := fun σ H R => ta σ H fun vs H1 => ∃ i j : Int, vs = [.int i, .int j, .int (-1)] ∧ (-(2 ^ 62) ≤ i ∧ i < 2 ^ 62 ∧ -(2 ^ 62) ≤ j ∧ j < 2 ^ 62) ∧ R (Itd i (i - j).toNat) H1
theorem pi_rangeD {a b c : Expr} {ta : TA} {p pos : Pos} (hg : Gl X "range") (hm : X.mg "range" = none) (ha : PA X [a, b, c] ta) (hs : starEach [a, b, c] X.env = [(false, eval a X.env), (false, eval b X.env), (false, eval c X.env)] := by rfl) (hs2 : starEach [b, c] X.env = [(false, eval b X.env), (false, eval c X.env)] := by rfl) :
    PI X tg (.Call (.Name "range" p) [a, b, c] [] pos) (iRngD ta) := by
  intro pins s σ H R I h
  refine Call_ (ld_blt I hg hm boot_range (PyProof.Rows.callWith_type1 (thn (ha pos pins s σ H _ I h) fun us s1 ⟨vs, H1, I1, r1, q1⟩ => ?_) (by rw [hs, hs2]) (by rw [hs2]; rfl)))
  obtain ⟨i, j, e, ⟨q1, q2, q3, q4⟩, q⟩ := q1
  subst e
  cases r1 with
  | cons r rr =>
    cases rr with
    | cons r' rr =>
      cases rr with
      | cons r'' rr =>
        cases rr
        obtain ⟨t, rfl⟩ := r
        obtain ⟨t', rfl⟩ := r'
        obtain ⟨t'', rfl⟩ := r''
        exact call_range_3 (by decide) (range_itd I1 q1 q2 q3 q4 q) (Or.inl (noPylong_small (by decide)))
/-- for x in range(i, j, -1) -/
theorem for_down {lo : Int} {n : Nat} {g : TG} {tb : TS} {D : Ends} {σ : St} {H : Hp} (Pv : Nat → St → Hp → Prop) (h0 : Pv 0 σ H)
    (hs : ∀ i σ H, i < n → Pv i σ H → g (.int (lo - i)) σ H fun σ2 H2 => tb { D with nx := Pv (i + 1), ct := Pv (i + 1), bk := D.nx } σ2 H2) (hd : ∀ σ H, Pv n σ H → D.nx σ H) :
    ∃ W : Nat → Nat → St → Hp → Prop, (∃ m, W 0 m σ H) ∧ ∀ i m σ H, W i m σ H →
      ((Itd lo n).stop i H ∧ D.nx σ H) ∨ ((Itd lo n).go i H ∧ ∃ N : St → Hp → Prop, (∀ σ' H', N σ' H' → ∃ m', m' < m ∧ W (i + 1) m' σ' H') ∧ ∀ x H', (Itd lo n).yld i H x H' → g x σ H' fun σ2 H2 => tb { D with nx := N, ct := N, bk := D.nx } σ2 H2) := by
  refine ⟨fun i m σ H => m = n - i ∧ i ≤ n ∧ Pv i σ H, ⟨n, by simp, Nat.zero_le _, h0⟩, ?_⟩
  rintro i m σ H ⟨rfl, hi, p⟩
  by_cases hlt : i < n
  · refine .inr ⟨hlt, Pv (i + 1), fun σ' H' p' => ⟨n - (i + 1), by omega, rfl, hlt, p'⟩, fun x H' y => ?_⟩
    obtain ⟨e, y⟩ := y
    subst e y
    exact hs i σ _ hlt p
  · have e : i = n := by omega
    subst e
    exact .inl ⟨Nat.le_refl _, hd σ H p⟩
theorem call_min3 (hc : X.calm = true) : CallR X (.builtin "min") (fun xs H Q => ∃ i j k, xs = [.int i, .int j, .int k] ∧ Q (.int (min (min i j) k)) H) := by
  intro pins s σ H xs us Q I r h
  obtain ⟨i, j, k, rfl, q⟩ := h
  cases r with
  | cons r1 rr =>
    obtain ⟨u, w', rfl, ⟨t', rfl⟩, ⟨t'', rfl⟩⟩ := vals2 rr
    obtain ⟨t, rfl⟩ := r1
    refine min_three_ints (I.ok.hd hc) fun h' tk kk => ⟨_, H, I.kept kk, ?_, q⟩
    by_cases h1 : j < i
    · rw [if_pos h1]
      by_cases h2 : k < j
      · rw [if_pos h2, show min (min i j) k = k by omega]; exact ⟨_, rfl⟩
      · rw [if_neg h2, show min (min i j) k = j by omega]; exact ⟨_, rfl⟩
    · rw [if_neg h1]
      by_cases h2 : k < i
      · rw [if_pos h2, show min (min i j) k = k by omega]; exact ⟨_, rfl⟩
      · rw [if_neg h2, show min (min i j) k = i by omega]; exact ⟨_, rfl⟩
end
end L2
namespace L2
open PySem PySem.Spec PyProof.Rows
abbrev Tri := Int × Int × Int
/-- a triple stands at a -/
def TriAt (H : Hp) (a : Addr) (t : Tri) : Prop := H a = some (.tup [.int t.1, .int t.2.1, .int t.2.2])
/-- a list of triples stands at l -/
def LTri (H : Hp) (l : Addr) (as : List Addr) (ts : List Tri) : Prop := H l = some (.lst (as.map V.ref)) ∧ Paired (TriAt H) as ts
theorem TriAt.sq {K : PySem.W.Frag} {H : Hp} {a : Addr} {p : Tri} (h : TriAt H a p) : SqT K H a [.int p.1, .int p.2.1, .int p.2.2] := .of h
theorem TriAt.same {H H' : Hp} {a : Addr} {p : Tri} (e : Same H H') (h : TriAt H a p) : TriAt H' a p := e _ _ h
theorem LTri.same {H H' : Hp} {l : Addr} {as : List Addr} {ps : List Tri} (e : Same H H') (h : LTri H l as ps) : LTri H' l as ps := ⟨e _ _ h.1, Paired.mapP h.2 fun _ _ q => q.same e⟩
theorem LTri.sq {K : PySem.W.Frag} {H : Hp} {l : Addr} {as : List Addr} {ps : List Tri} (h : LTri H l as ps) : SqL K H l (as.map V.ref) := .of h.1
theorem LTri.len {H : Hp} {l : Addr} {as : List Addr} {ps : List Tri} (h : LTri H l as ps) : (as.map V.ref).length = ps.length := by rw [List.length_map]; exact Paired.length h.2
/-- a list that is written leaves the triples -/
theorem TriAt.wr {H : Hp} {a l : Addr} {p : Tri} {xs : List V} {o : HO} (h : TriAt H a p) (hl : H l = some (.lst xs)) : TriAt (L2.upd H l o) a p := by
  unfold TriAt
  rw [upd_ne (ne_of h hl (by intro z; cases z))]
  exact h
theorem LTri.at {H : Hp} {l : Addr} {as : List Addr} {ps : List Tri} (h : LTri H l as ps) {i : Nat} (hi : i < ps.length) : ∃ a, atI (as.map V.ref) (i : Int) = some (.ref a) ∧ TriAt H a (ps.getD i (0, 0, 0)) := by
  obtain ⟨a, e, q⟩ := paired_get h.2 (List.getElem?_eq_getElem hi)
  refine ⟨a, atI_nat (by rw [List.getElem?_map, e]; rfl), ?_⟩
  rw [List.getD_eq_getElem?_getD, List.getElem?_eq_getElem hi]
  exact q
/-- the i-th of a walk over the list -/
theorem LTri.nth {H : Hp} {l : Addr} {as : List Addr} {ps : List Tri} (h : LTri H l as ps) {i : Nat} {x : V} (hx : (as.map V.ref)[i]? = some x) : ∃ a, x = .ref a ∧ ∃ hi : i < ps.length, TriAt H a ps[i] := by
  rw [List.getElem?_map] at hx
  obtain ⟨b, hb, rfl⟩ := Option.map_eq_some_iff.mp hx
  have hi : i < ps.length := by
    rw [← Paired.length h.2]
    exact (List.getElem?_eq_some_iff.mp hb).1
  obtain ⟨b', hb', q⟩ := paired_get h.2 (List.getElem?_eq_getElem hi)
  rw [hb] at hb'
  cases hb'
  exact ⟨b, rfl, hi, q⟩
theorem LPts.nth {H : Hp} {l : Addr} {as : List Addr} {ps : List (Int × Int)} (h : LPts H l as ps) {i : Nat} {x : V} (hx : (as.map V.ref)[i]? = some x) : ∃ a, x = .ref a ∧ ∃ hi : i < ps.length, PtAt H a ps[i] := by
  rw [List.getElem?_map] at hx
  obtain ⟨b, hb, rfl⟩ := Option.map_eq_some_iff.mp hx
  have hi : i < ps.length := by
    rw [← Paired.length h.2]
    exact (List.getElem?_eq_some_iff.mp hb).1
  obtain ⟨b', hb', q⟩ := paired_get h.2 (List.getElem?_eq_getElem hi)
  rw [hb] at hb'
  cases hb'
  exact ⟨b, rfl, hi, q⟩
theorem LTri.room {H' : Hp} {l : Addr} {as : List Addr} {ps : List Tri} (L : LTri H' l as ps) (h : ps.length ≤ 1000) : (as.map V.ref).length < sizeLine := by
  rw [L.len]
  exact Nat.lt_of_le_of_lt h (by decide)
/-- a triple of rising places among n -/
def TriOk (n : Nat) (t : Tri) : Prop := 0 ≤ t.1 ∧ t.1 < t.2.1 ∧ t.2.1 < t.2.2 ∧ t.2.2 < n
end L2
namespace L2
open PySem PySem.Spec PyProof.Rows
theorem LPts.cut {H : Hp} {l t : Addr} {as : List Addr} {ps : List (Int × Int)} (L : LPts H l as ps) (ht : H t = none) (lo hi : Option Int) : LPts (upd H t (.lst (cutV (as.map V.ref) lo hi))) t (cutL as lo hi) (cutL ps lo hi) := by
  refine ⟨by rw [upd_same, cut_map], ?_⟩
  exact PtsAt.same (Same.upd ht) (paired_cut L.2 lo hi)
theorem LPts.cat {H : Hp} {l m t : Addr} {as bs : List Addr} {ps qs : List (Int × Int)} (A : LPts H l as ps) (B : LPts H m bs qs) (ht : H t = none) : LPts (upd H t (.lst (as.map V.ref ++ bs.map V.ref))) t (as ++ bs) (ps ++ qs) := by
  refine ⟨by rw [upd_same, List.map_append], ?_⟩
  exact PtsAt.same (Same.upd ht) (paired_app B.2 A.2)
theorem LPts.one {H : Hp} {q t : Addr} {p : Int × Int} (A : PtAt H q p) (ht : H t = none) : LPts (upd H t (.lst [.ref q])) t [q] [p] :=
  ⟨upd_same, PtsAt.same (Same.upd ht) (.cons A .nil)⟩
theorem LPts.rev {H : Hp} {l t : Addr} {as : List Addr} {ps : List (Int × Int)} (A : LPts H l as ps) (ht : H t = none) : LPts (upd H t (.lst (as.map V.ref).reverse)) t as.reverse ps.reverse := by
  refine ⟨by rw [upd_same, List.map_reverse], ?_⟩
  exact PtsAt.same (Same.upd ht) (paired_rev A.2)
theorem LPts.fits {H : Hp} {l m : Addr} {as bs : List Addr} {ps qs : List (Int × Int)} (A : LPts H l as ps) (B : LPts H m bs qs) (h : ps.length + qs.length ≤ 1000) : (as.map V.ref).length + (bs.map V.ref).length ≤ sizeLine := by
  rw [List.length_map, List.length_map, A.2.len, B.2.len]
  exact Nat.le_trans h (by decide)
end L2
namespace L2
open PySem PySem.Spec PyProof.Rows
section
variable {X : Cx}
def rNeI (K : PySem.W.Frag) : R2 := fun x y H Q => ∃ (a b : Addr) (ns ms : List Int), x = .ref a ∧ y = .ref b ∧ SqL K H a (ns.map V.int) ∧ SqL K H b (ms.map V.int) ∧ Q (.bl (!decide (ns = ms))) H
/-- l != m, two lists of ints -/
theorem op_neI (hu : X.A.units + 1 < cLine) : OpR X (compareOp .NotEq) (rNeI X.K) := by
  intro pins s σ H x y v u Q I rx ry h
  obtain ⟨a, b, ns, ms, rfl, rfl, ha, hb, q⟩ := h
  cases rx
  cases ry
  obtain ⟨its, r1, ⟨o1, n1, e1, c1, d1, t1⟩, _⟩ := I.list ha
  obtain ⟨its2, r2, ⟨o2, n2, e2, c2, d2, t2⟩, _⟩ := I.list hb
  have l1 := r1.length
  have l2 := r2.length
  rw [List.length_map] at l1 l2
  have e1 : s.heap.get? a = some { cls := .type "list", dict := none, data := .seq its.toArray n1, slots := o1.slots } := by
    rw [e1]
    cases o1
    cases c1
    cases d1
    cases t1
    rfl
  have e2 : s.heap.get? b = some { cls := .type "list", dict := none, data := .seq its2.toArray n2, slots := o2.slots } := by
    rw [e2]
    cases o2
    cases c2
    cases d2
    cases t2
    rfl
  show wpAny _ _ (richCompare .NotEq (.ref a) (.ref b)) _ _ _
  by_cases hl : ns.length = ms.length
  · have hsz : its.toArray.size = its2.toArray.size := by simp; omega
    have fin : EP X pins σ Q (.bool (!decide (ns = ms))) s := ⟨.bl _, H, I, rfl, q⟩
    rw [← ints_all hl, l1, show its.length = its.toArray.size by simp] at fin
    refine richCompare_meets_room (op := .NotEq) ⟨_, e1, rfl⟩ ⟨_, e2, rfl⟩ F.slot_list_ne F.entry_list_ne (F.args_list_ne_2 _ _) (SeqAt.list_neAt a b _ _ n1 n2 none none _ _ hsz _)
      ⟨e1, e2, (fun j h1 h2 => ?_), ⟨(fun z => nomatch z), fin⟩⟩ (by omega)
    obtain ⟨ta, ea, na⟩ := int_item r1 h1
    obtain ⟨tb, eb, nb⟩ := int_item r2 h2
    rw [ea, eb, na, nb]
    have e : decide (some (ns.getD j 0) = some (ms.getD j 0)) = (ns.getD j 0 == ms.getD j 0) := by rw [Bool.eq_iff_iff]; simp
    rw [e]
    exact SeqAt.EqAt.int_int _ _ _ _
  · have hsz : (its.toArray.size != its2.toArray.size) = true := by simp; omega
    have hne : ¬ ns = ms := fun z => hl (by rw [z])
    rw [decide_eq_false hne] at q
    exact richCompare_meets_room (op := .NotEq) ⟨_, e1, rfl⟩ ⟨_, e2, rfl⟩ F.slot_list_ne F.entry_list_ne (F.args_list_ne_2 _ _) (SeqAt.list_ne_lengthsAt a b _ _ n1 n2 none none _ _ hsz)
      ⟨e1, e2, ⟨(fun z => nomatch z), ⟨.bl _, H, I, rfl, q⟩⟩⟩ (by omega)
end
end L2
namespace L2
open PySem PySem.Spec PyProof.Rows
/-- another list that is written leaves this one -/
theorem LPts.wr {H : Hp} {l m : Addr} {as : List Addr} {ps : List (Int × Int)} {xs : List V} {o : HO} (h : LPts H l as ps) (hm : H m = some (.lst xs)) (hne : l ≠ m) : LPts (L2.upd H m o) l as ps :=
  ⟨by rw [upd_ne hne]; exact h.1, h.2.wr hm⟩
end L2

set_option Elab.async false
set_option linter.all false
set_option maxRecDepth 100000
set_option maxHeartbeats 4000000
/-! list(reversed(x)) over the layer. -/
namespace PySem
namespace F
theorem lri_no_len : typeLookup (.type "list_reverseiterator") "__len__" = pure none := by rw [typeLookup_type, builtinLookup_eq_fast]; kernel_rfl
theorem slot_lri_hint : Slot "list_reverseiterator" "__length_hint__" "list_reverseiterator.__length_hint__" :=
  .of (owner := "list_reverseiterator") (n := "__length_hint__") (by rw [typeLookup_type, builtinLookup_eq_fast]; kernel_rfl) (by decide +kernel) (by decide +kernel) (by decide +kernel)
    (by first | exact .inl (by decide +kernel) | exact .inr (by decide +kernel)) (by rw [isSubtype_type]; kernel_rfl)
end F
section
variable {prog : Program} {w : World} {A : Around} {E : Value → Shared → Prop} {s : Shared}
theorem wpAny_hint_rev {it l : Addr} {i : Int} {Q : Bool → Shared → Prop} (hit : s.heap.IsRevIter it l i) (h : Q false s) : wpAny (model prog w) A (Builtin.List.listLengthHint (.ref it)) Q E s := by
  unfold Builtin.List.listLengthHint
  refine wpAny_bind (wpAny_specialOf hit.typeIs F.lri_no_len ?_)
  show wpAny _ _ (specialOf (Value.ref it) (Str.ofString "__length_hint__") >>= _) _ _ _
  refine wpAny_bind (wpAny_specialOf hit.typeIs F.slot_lri_hint.lookup ?_)
  generalize hid : ("list_reverseiterator.__length_hint__" : String) = id0
  wp_delta
  rw [show splitId id0 = some ("list_reverseiterator", "__length_hint__") from by subst hid; decide +kernel]
  subst hid
  refine wpAny_bind (wpAny_isInstance (T := "list_reverseiterator") (b := true) hit.typeIs (by rw [isSubtype_type]; kernel_rfl) ?_)
  refine wpAny_ite_split (fun hab => absurd hab (by decide)) (fun _ => ?_)
  refine wpAny_ite_split (fun _ => ?_) (fun hab => absurd (by decide +kernel) hab)
  refine wpAny_ite_split (fun hab => absurd hab (by decide +kernel)) (fun _ => ?_)
  exact wpAny_pure h
theorem wpAny_extend_rev {R : Result → Shared → Prop} {it l : Addr} {items : Array Value} (hh : A.handled = none) (hit : s.heap.IsRevIter it l ((items.size : Int) - 1)) (hl : s.heap.IsList l items) (hlen : items.size ≤ sizeLine)
    (S : Addr) (res : Value) (c₀ : Nat) (hS : s.heap.get? S = some { cls := .type "list", data := .seq #[] c₀ }) (hSl : S ≠ l)
    (hR : ∀ h' tk acc' c', (∀ b o, b ≠ S → b ≠ it → s.heap.get? b = some o → h'.get? b = some o) → h'.get? S = some { cls := .type "list", dict := none, data := .seq acc' c', slots := #[] } →
      ItemsOf (fun i v => items[items.size - 1 - i]? = some v) acc' items.size → R (.ok (.ret res)) { s with heap := h', toks := tk }) :
    wpAny (model prog w) A.in1 (Builtin.List.listExtendWith (.ref S) (.ref it) res)
      (fun fin s' => match fin with | .done f => R (.ok f) s' | .again c' => c'.quiet = true ∧ codeAny (model prog w) A c' R s') (fun e s' => R (.error e) s') s := by
  have hne : l ≠ it := fun e => by
    obtain ⟨o, ho, hc, _⟩ := hit
    obtain ⟨o', ho', hc', _⟩ := hl
    rw [e, ho] at ho'
    cases ho'
    rw [hc] at hc'
    exact absurd hc' (by decide)
  have hSi : S ≠ it := fun e => by
    obtain ⟨o, ho, hc, _⟩ := hit
    rw [e, ho] at hS
    cases hS
    exact absurd (show Value.type "list" = Value.type "list_reverseiterator" from hc) (by decide)
  have W := (Walks.listRev (prog := prog) (w := w) (A := A.in1) hh it l hne items).toS
  unfold Builtin.List.listExtendWith
  refine wpAny_bind (wpAny_typeOf (T := "list_reverseiterator") hit.typeIs ?_)
  have h1 : Builtin.List.listSameRef (.ref S) (.ref it) = false := by simp [Builtin.List.listSameRef, hSi]
  have h2 : (Value.type "list_reverseiterator" == Value.type "list") = false := by decide
  have h3 : (Value.type "list_reverseiterator" == Value.type "tuple") = false := by decide
  simp only [h1, h2, h3, Bool.or_false, Bool.false_eq_true, if_false]
  refine wpAny_bind (wpAny_pyIter_revIter hit ?_)
  refine wpAny_bind (wpAny_holding (wpAny_hint_rev hit ?_))
  refine wpAny_ite_split (fun hab => absurd hab (by decide +kernel)) (fun _ => ?_)
  refine wpAny_pure ⟨plainId_quiet F.plain_extend_loop _, ?_⟩
  refine codeAny_extend_loopS W hlen S (by simp [hSi, hSl]) res items.size 0 _ #[] c₀ rfl (Nat.zero_le _) ⟨Nat.zero_le _, by simpa using hit, hl⟩ hS (ItemsOf.nil _) fun s' acc' c' hm hS' hacc => ?_
  rw [Moved.eq_with hm]
  refine hR s'.heap s'.toks acc' c' (fun b o hb hb2 e => hm.heap b o (fun hmem => ?_) e) hS' hacc
  rcases List.mem_cons.mp hmem with e' | hmem
  · exact hb e'
  · exact hb2 (List.mem_singleton.mp hmem)
theorem wpAny_list_init_rev {R : Result → Shared → Prop} {it l : Addr} {items : Array Value} (hh : A.handled = none) (hit : s.heap.IsRevIter it l ((items.size : Int) - 1)) (hl : s.heap.IsList l items) (hlen : items.size ≤ sizeLine)
    (S : Addr) (hS : s.heap.get? S = some { cls := .type "list", data := .seq #[] }) (hSl : S ≠ l) (hSi : S ≠ it)
    (hR : ∀ h' tk acc' c', (∀ b o, b ≠ S → b ≠ it → s.heap.get? b = some o → h'.get? b = some o) → h'.get? S = some { cls := .type "list", dict := none, data := .seq acc' c', slots := #[] } →
      ItemsOf (fun i v => items[items.size - 1 - i]? = some v) acc' items.size → R (.ok (.ret .none)) { s with heap := h', toks := tk }) :
    wpAny (model prog w) A.in1 (Builtin.«list.__init__» ⟨[.ref S, .ref it], []⟩)
      (fun fin s' => match fin with | .done f => R (.ok f) s' | .again c' => c'.quiet = true ∧ codeAny (model prog w) A c' R s') (fun e s' => R (.error e) s') s := by
  show wpAny _ _ (do let old ← Builtin.List.listItems (.ref S); Builtin.List.listUpdate (.ref S) (fun _ => #[]); letGo old.toList.reverse; Builtin.List.listExtendWith (.ref S) (.ref it) .none) _ _ s
  refine wpAny_bind ?_
  unfold Builtin.List.listItems
  refine wpAny_bind (wpAny_seqItems hS rfl (wpAny_pure ?_))
  show wpAny _ _ (updateSeq S (fun _ => #[]) >>= fun _ => letGo (#[] : Array Value).toList.reverse >>= fun _ => Builtin.List.listExtendWith (.ref S) (.ref it) .none) _ _ s
  refine wpAny_bind (wpAny_updateSeq hS rfl ?_)
  have hS₂ := Heap.get?_update_self (Obj.mapSeq (fun _ => (#[] : Array Value))) hS rfl
  have oth : ∀ b o, b ≠ S → s.heap.get? b = some o → (s.heap.update S (Obj.mapSeq (fun _ => (#[] : Array Value)))).get? b = some o :=
    fun b o hb e => (Heap.get?_update_other _ _ (Ne.symm hb)).trans e
  refine wpAny_bind (wpAny_letGo ?_)
  refine wpAny_extend_rev hh (hit.at fun o e => oth _ o (Ne.symm hSi) e) (hl.at fun o e => oth _ o (Ne.symm hSl) e) hlen S .none _ hS₂ hSl fun h' tk acc' c' hk hS' hacc => ?_
  exact hR h' tk acc' c' (fun b o hb hb2 e => hk b o hb hb2 (oth b o hb e)) hS' hacc
theorem call_list_rev {Q : Value → Shared → Prop} {it l : Addr} {items : Array Value} (hh : A.handled = none) (hit : s.heap.IsRevIter it l ((items.size : Int) - 1)) (hl : s.heap.IsList l items) (hlen : items.size ≤ sizeLine)
    (hQ : ∀ h' tk acc' c', (∀ b o, b ≠ it → s.heap.get? b = some o → h'.get? b = some o) →
      h'.get? s.heap.objs.size = some { cls := .type "list", dict := none, data := .seq acc' c', slots := #[] } → ItemsOf (fun i v => items[items.size - 1 - i]? = some v) acc' items.size → Q (.ref s.heap.objs.size) { s with heap := h', toks := tk }) :
    wpAny (model prog w) A (call (.type "list") [.ref it]) Q E s := by
  refine callType_codes (Q₁ := fun obj s₁ => obj = .ref s.heap.objs.size ∧ s₁ = { s with heap := s.heap.push { cls := .type "list", data := .seq #[] } }) F.called_list (F.typeCall_list_1 _) F.entry_list_init
    (code_list_new _ ⟨rfl, rfl⟩) fun obj s₁ h₁ => ?_
  obtain ⟨rfl, rfl⟩ := h₁
  have hS : (s.heap.push { cls := .type "list", data := .seq #[] }).get? s.heap.objs.size = some { cls := .type "list", data := .seq #[] } := Heap.get?_push_size _ rfl
  have h1 : s.heap.objs.size ≠ l := by
    obtain ⟨o, ho, _⟩ := hl
    exact Nat.ne_of_gt (Heap.lt_size ho)
  have h2 : s.heap.objs.size ≠ it := by
    obtain ⟨o, ho, _⟩ := hit
    exact Nat.ne_of_gt (Heap.lt_size ho)
  refine ⟨⟨_, hS, rfl⟩, F.args_list_init_2 _ _, wpAny_list_init_rev (A := A.in1) hh (hit.at fun o e => Heap.get?_push_of_some _ e) (hl.at fun o e => Heap.get?_push_of_some _ e) hlen _ hS h1 h2 fun h' tk acc' c' hk hS' hacc => ?_⟩
  exact ⟨rfl, hQ h' tk acc' c' (fun b o hb e => hk b o (Nat.ne_of_lt (Heap.lt_size e)) hb (Heap.get?_push_of_some _ e)) hS' hacc⟩
end
end PySem

namespace L2
open PySem PySem.Spec PyProof PyProof.Rows
theorem items_rev {its : List Value} {acc : Array Value} (h : ItemsOf (fun i v => its.toArray[its.toArray.size - 1 - i]? = some v) acc its.toArray.size) : acc.toList = its.reverse := by
  obtain ⟨h1, h2⟩ := h
  have hs : acc.size = its.length := by simpa using h1
  refine List.ext_getElem? fun i => ?_
  by_cases hi : i < its.length
  · have hia : i < acc.size := by omega
    have e := h2 i acc[i] (Array.getElem?_eq_getElem hia)
    have e' : its[its.length - 1 - i]? = some acc[i] := by simpa using e
    rw [List.getElem?_reverse hi, e', Array.getElem?_toList]
    exact Array.getElem?_eq_getElem hia
  · rw [List.getElem?_eq_none_iff.mpr (by simpa [hs] using Nat.not_lt.mp hi), List.getElem?_eq_none_iff.mpr (by rw [List.length_reverse]; omega)]
section
variable {X : Cx}
def tLrev (K : PySem.W.Frag) (te : TE) : TE := fun σ H Q => te σ H fun x H1 => ∃ p ys, x = .ref p ∧ SqL K H1 p ys ∧ ∀ l, H1 l = none → Q (.ref l) (upd H1 l (.lst ys.reverse))
theorem pe_listrev {e : Expr} {te : TE} {p p2 pos pos2 : Pos} (hc : X.calm = true) (hg : Gl X "list") (hm : X.mg "list" = none) (hg2 : Gl X "reversed") (hm2 : X.mg "reversed" = none) (hl : PE X e te)
    (he : starEach [.Call (.Name "reversed" p2) [e] [] pos2] X.env = [(false, eval (.Call (.Name "reversed" p2) [e] [] pos2) X.env)] := by rfl) (he2 : starEach [e] X.env = [(false, eval e X.env)] := by rfl)
    (hn : ("list" : Str) ≠ "__name__" := by decide) (hdb : (("list" : Str) == ("__debug__" : Str)) = false := by decide) (hn2 : ("reversed" : Str) ≠ "__name__" := by decide) (hdb2 : (("reversed" : Str) == ("__debug__" : Str)) = false := by decide) :
    PE X (.Call (.Name "list" p) [.Call (.Name "reversed" p2) [e] [] pos2] [] pos) (tLrev X.K te) := by
  intro pins s σ H Q I h
  refine wpAny_Call_Name_kw (ld_blt I hg hm PySem.Pv.boot_list ?_ hn hdb)
  refine PyProof.Rows.callWith_type1 ?_ he rfl
  rw [he]
  show wpAny _ _ (spliced ((false, eval (.Call (.Name "reversed" p2) [e] [] pos2) X.env) :: backTo pos [])) _ _ s
  refine Calls.spliced_cons ?_
  refine wpAny_Call_Name_kw (ld_blt I hg2 hm2 PyProof.Rows.boot_reversed ?_ hn2 hdb2)
  refine PyProof.Rows.callWith_type1 ?_ he2 rfl
  rw [he2]
  show wpAny _ _ (spliced ((false, eval e X.env) :: backTo pos2 [])) _ _ s
  refine Calls.spliced_cons (thn (hl pins s σ H _ I h) fun u s1 ⟨x, H1, I1, r1, q1⟩ => ?_)
  refine Calls.spliced_nil ?_
  obtain ⟨a, ys, e1, hq, q⟩ := q1
  subst e1
  cases r1
  obtain ⟨its, rv, pl, hz⟩ := I1.list hq
  refine call_reversed_list pl.isList ?_
  refine Calls.spliced_nil ?_
  have hsz : (s1.heap.push (revObj a ((its.toArray.size : Int) - 1))).objs.size = s1.heap.objs.size + 1 := Heap.size_push ..
  refine call_list_rev (items := its.toArray) (I.ok.hd hc) ⟨_, Heap.get?_push_size _ rfl, rfl, rfl⟩ (pl.isList.at fun o e => Heap.get?_push_of_some _ e) (by rw [List.size_toArray, ← rv.length]; exact hz) fun h' tk acc' c' hk hS' hacc => ?_
  have ea := items_rev hacc
  have I2 : Inv X pins σ (upd H1 (s1.heap.push (revObj a ((its.toArray.size : Int) - 1))).objs.size (.lst ys.reverse)) { s1 with heap := h', toks := tk } := by
    refine I1.laid (fun b o eb => hk b o (Nat.ne_of_lt (Heap.lt_size eb)) (Heap.get?_push_of_some _ eb)) (by rw [hsz]; exact Nat.le_succ _) ?_
    refine ⟨by rw [List.length_reverse]; exact hz, its.reverse, c', rv.reverse, ?_⟩
    rw [hS', ← ea]
  exact ⟨.ref _, _, I2, rfl, q _ (I1.hok.fresh (by rw [hsz]; exact Nat.le_succ _))⟩
end
end L2

set_option Elab.async false
set_option linter.all false
set_option maxRecDepth 100000
set_option maxHeartbeats 4000000
/-! Tuples of ints compared; points among points. -/
namespace L2
open PySem PySem.Spec PyProof PyProof.Rows
section
variable {X : Cx}
theorem ints_min {ns ms : List Int} : ((List.range (min ns.length ms.length)).all (fun j => decide (ns[j]? = ms[j]?)) && ns.length == ms.length) = decide (ns = ms) := by
  by_cases hl : ns.length = ms.length
  · rw [hl, Nat.min_self, ← hl, ints_all hl]
    simp
  · rw [beq_false_of_ne hl, Bool.and_false, decide_eq_false (fun z => hl (by rw [z]))]
def rEqT (K : PySem.W.Frag) : R2 := fun x y H Q => ∃ (a b : PySem.Addr) (ns ms : List Int), x = .ref a ∧ y = .ref b ∧ SqT K H a (ns.map V.int) ∧ SqT K H b (ms.map V.int) ∧ Q (.bl (decide (ns = ms))) H
def rNeT (K : PySem.W.Frag) : R2 := fun x y H Q => ∃ (a b : PySem.Addr) (ns ms : List Int), x = .ref a ∧ y = .ref b ∧ SqT K H a (ns.map V.int) ∧ SqT K H b (ms.map V.int) ∧ Q (.bl (!decide (ns = ms))) H
/-- t == u, two tuples of ints -/
theorem op_eqT (hu : X.A.units + 1 < cLine) : OpR X (compareOp .Eq) (rEqT X.K) := by
  intro pins s σ H x y v u Q I rx ry h
  obtain ⟨a, b, ns, ms, rfl, rfl, ha, hb, q⟩ := h
  cases rx
  cases ry
  obtain ⟨its, r1, p1, _⟩ := I.tuple ha
  obtain ⟨its2, r2, p2, _⟩ := I.tuple hb
  have l1 := r1.length
  have l2 := r2.length
  rw [List.length_map] at l1 l2
  have fin : EP X pins σ Q (.bool (decide (ns = ms))) s := ⟨.bl _, H, I, rfl, q⟩
  rw [← ints_min, l1, l2, show its.length = its.toArray.size by simp, show its2.length = its2.toArray.size by simp] at fin
  refine SeqAt.eq_tupleAt (show s.heap.IsTuple a its.toArray from p1) (show s.heap.IsTuple b its2.toArray from p2) (by omega) (fun j h1 h2 => ?_) fin
  obtain ⟨ta, ea, na⟩ := int_item r1 h1
  obtain ⟨tb, eb, nb⟩ := int_item r2 h2
  rw [ea, eb, na, nb]
  have e : decide (some (ns.getD j 0) = some (ms.getD j 0)) = (ns.getD j 0 == ms.getD j 0) := by rw [Bool.eq_iff_iff]; simp
  rw [e]
  exact SeqAt.EqAt.int_int _ _ _ _
/-- t != u, two tuples of ints -/
theorem op_neT (hu : X.A.units + 1 < cLine) : OpR X (compareOp .NotEq) (rNeT X.K) := by
  intro pins s σ H x y v u Q I rx ry h
  obtain ⟨a, b, ns, ms, rfl, rfl, ha, hb, q⟩ := h
  cases rx
  cases ry
  obtain ⟨its, r1, p1, _⟩ := I.tuple ha
  obtain ⟨its2, r2, p2, _⟩ := I.tuple hb
  have l1 := r1.length
  have l2 := r2.length
  rw [List.length_map] at l1 l2
  have fin : EP X pins σ Q (.bool (!decide (ns = ms))) s := ⟨.bl _, H, I, rfl, q⟩
  rw [← ints_min, l1, l2, show its.length = its.toArray.size by simp, show its2.length = its2.toArray.size by simp] at fin
  obtain ⟨⟨c1, dd1, da1, sl1⟩, e1, hc1, n1, hd1⟩ := (show s.heap.IsTuple a its.toArray from p1)
  obtain ⟨⟨c2, dd2, da2, sl2⟩, e2, hc2, n2, hd2⟩ := (show s.heap.IsTuple b its2.toArray from p2)
  simp only at hc1 hd1 hc2 hd2
  subst hc1 hd1 hc2 hd2
  show wpAny _ _ (richCompare .NotEq (.ref a) (.ref b)) _ _ _
  refine richCompare_meets_room (op := .NotEq) ⟨_, e1, rfl⟩ ⟨_, e2, rfl⟩ F.slot_tuple_ne F.entry_tuple_ne (F.args_tuple_ne_2 _ _) (SeqAt.tuple_neAt a b _ _ n1 n2 dd1 dd2 sl1 sl2 _)
      ⟨e1, e2, (fun j h1 h2 => ?_), ⟨(fun z => nomatch z), fin⟩⟩ (by omega)
  obtain ⟨ta, ea, na⟩ := int_item r1 h1
  obtain ⟨tb, eb, nb⟩ := int_item r2 h2
  rw [ea, eb, na, nb]
  have e : decide (some (ns.getD j 0) = some (ms.getD j 0)) = (ns.getD j 0 == ms.getD j 0) := by rw [Bool.eq_iff_iff]; simp
  rw [e]
  exact SeqAt.EqAt.int_int _ _ _ _
theorem PtAt.sqI {K : PySem.W.Frag} {H : Hp} {a : PySem.Addr} {p : Int × Int} (h : PtAt H a p) : SqT K H a ([p.1, p.2].map V.int) := .of h
theorem TriAt.sqI {K : PySem.W.Frag} {H : Hp} {a : PySem.Addr} {p : Tri} (h : TriAt H a p) : SqT K H a ([p.1, p.2.1, p.2.2].map V.int) := .of h
theorem pt_eq {p q : Int × Int} : ([p.1, p.2] = [q.1, q.2]) ↔ p = q := by
  constructor
  · intro h
    injection h with h1 h2
    injection h2 with h2 _
    exact Prod.ext h1 h2
  · rintro rfl; rfl
/-- the point at b, as the tracked heap says -/
noncomputable def isPt (H : Hp) (p : Int × Int) (y : Value) : Bool := @decide (∃ b, y = .ref b ∧ PtAt H b p) (Classical.propDecidable _)
theorem isPt_iff {H : Hp} {p : Int × Int} {y : Value} : isPt H p y = true ↔ ∃ b, y = .ref b ∧ PtAt H b p := by
  unfold isPt
  exact @decide_eq_true_iff _ (Classical.propDecidable _)
theorem any_pts {H : Hp} {p : Int × Int} : ∀ {as : List PySem.Addr} {ps : List (Int × Int)}, PtsAt H as ps → (as.map Value.ref).any (isPt H p) = decide (p ∈ ps)
  | _, _, .nil => by simp
  | _, _, .cons (a := a) (b := q) (l₁ := as) (l₂ := ps) r t => by
    rw [List.map_cons, List.any_cons, any_pts t]
    have e : isPt H p (.ref a) = decide (p = q) := by
      rw [Bool.eq_iff_iff, isPt_iff, decide_eq_true_eq]
      constructor
      · rintro ⟨b, e, h⟩
        cases e
        have r : PtAt H a q := r
        unfold PtAt at h r
        rw [h] at r
        injection r with r
        injection r with r
        injection r with r1 r2
        injection r2 with r2 _
        injection r1 with r1
        injection r2 with r2
        exact Prod.ext r1 r2
      · rintro rfl
        exact ⟨a, rfl, r⟩
    rw [e, Bool.eq_iff_iff]
    simp
def rInP (neg : Bool) : R2 := fun x y H Q => ∃ a l p as ps, x = .ref a ∧ y = .ref l ∧ PtAt H a p ∧ LPts H l as ps ∧ Q (.bl (if neg then !decide (p ∈ ps) else decide (p ∈ ps))) H
theorem inP_eq {pins : List (PySem.Addr × Obj)} {σ : St} {H : Hp} {s : Shared} {A : Around} (I : Inv X pins σ H s) (hu : A.units < cLine) {a l : PySem.Addr} {p : Int × Int} {as : List PySem.Addr} {ps : List (Int × Int)} (ha : PtAt H a p) (hl : LPts H l as ps) :
    ∀ y, y ∈ (as.map Value.ref).toArray → SeqAt.EqAt A s y (.ref a) (isPt H p y) := by
  intro y hy
  have hy : y ∈ as.map Value.ref := by simpa using hy
  obtain ⟨b, hb, rfl⟩ := List.mem_map.mp hy
  obtain ⟨j, hj, ej⟩ := List.mem_iff_getElem.mp hb
  have hjp : j < ps.length := by rw [← hl.2.len]; exact hj
  obtain ⟨b', hb', q⟩ := paired_get hl.2 (List.getElem?_eq_getElem hjp)
  rw [List.getElem?_eq_getElem hj, ej] at hb'
  cases hb'
  have h := eqAt_pt I hu q ha
  have e : isPt H p (.ref b) = decide (ps[j] = p) := by
    rw [Bool.eq_iff_iff, isPt_iff, decide_eq_true_eq]
    constructor
    · rintro ⟨b', e, h⟩
      cases e
      have q : PtAt H b ps[j] := q
      unfold PtAt at h q
      rw [h] at q
      injection q with q
      injection q with q
      injection q with r1 r2
      injection r2 with r2 _
      injection r1 with r1
      injection r2 with r2
      exact (Prod.ext r1 r2).symm
    · intro e
      exact ⟨b, rfl, by rw [← e]; exact q⟩
  rw [e]
  exact h
/-- p in l, p not in l: a point and a list of points -/
theorem op_inP (hu : X.A.units + 1 < cLine) : OpR X (compareOp .In) (rInP false) := by
  intro pins s σ H x y v u Q I rx ry h
  obtain ⟨a, l, p, as, ps, rfl, rfl, ha, hl, q⟩ := h
  cases rx
  cases ry
  obtain ⟨n, e1⟩ := lst_at I hl
  refine SeqAt.in_listAt (isPt H p) ⟨_, e1, rfl, n, rfl⟩ (inP_eq I (by show X.A.units + 1 < cLine; exact hu) ha hl) ⟨.bl _, H, I, rfl, ?_⟩
  rw [show (as.map Value.ref).toArray.any (isPt H p) = (as.map Value.ref).any (isPt H p) by simp, any_pts hl.2]
  exact q
theorem op_notinP (hu : X.A.units + 1 < cLine) : OpR X (compareOp .NotIn) (rInP true) := by
  intro pins s σ H x y v u Q I rx ry h
  obtain ⟨a, l, p, as, ps, rfl, rfl, ha, hl, q⟩ := h
  cases rx
  cases ry
  obtain ⟨n, e1⟩ := lst_at I hl
  refine SeqAt.notIn_listAt (isPt H p) ⟨_, e1, rfl, n, rfl⟩ (inP_eq I (by show X.A.units + 1 < cLine; exact hu) ha hl) ⟨.bl _, H, I, rfl, ?_⟩
  rw [show (as.map Value.ref).toArray.any (isPt H p) = (as.map Value.ref).any (isPt H p) by simp, any_pts hl.2]
  exact q
end
end L2

set_option Elab.async false
set_option linter.all false
set_option maxRecDepth 100000
set_option maxHeartbeats 4000000
namespace L2
open PySem PySem.Spec PyProof.Rows
/-- what follows a statement that never ends plainly is not looked at -/
theorem pss_dead {X : Cx} {st : Stmt} {rest : List Stmt} {t : TS} (h1 : PS X st t) : PSs X (st :: rest) (fun D σ H => t { D with nx := fun _ _ => False } σ H) := by
  intro pins s σ H D I h
  refine wpAny_execs_cons (thn (h1 pins s σ H { D with nx := fun _ _ => False } I h) fun f s1 q => ?_)
  cases f with
  | next => obtain ⟨σ', H', I', q⟩ := q; exact q.elim
  | ret v => exact q
  | brk => exact q
  | cont => exact q
end L2

set_option Elab.async false
set_option linter.all false
set_option maxRecDepth 100000
set_option maxHeartbeats 4000000
/-! The table of a set: where a search ends, and what a relay leaves. No part of it knows of Python's objects. -/
namespace HT
open PySem PySem.SetTable
/-! ### the binary look -/
theorem belowGo_ok {xs : Array Nat} {j : Nat} (hr : xs.toList.Pairwise (· < ·)) : ∀ (fuel lo hi : Nat), hi - lo ≤ fuel → lo ≤ hi → hi ≤ xs.size → (∀ k, k < lo → ∀ v, xs[k]? = some v → v < j) → (∀ k, hi ≤ k → ∀ v, xs[k]? = some v → j ≤ v) →
    below.go xs j fuel lo hi ≤ xs.size ∧ (∀ k, k < below.go xs j fuel lo hi → ∀ v, xs[k]? = some v → v < j) ∧ ∀ k, below.go xs j fuel lo hi ≤ k → ∀ v, xs[k]? = some v → j ≤ v
  | 0, lo, hi, hf, hl, hh, h1, h2 => by
    have e : lo = hi := by omega
    subst e
    exact ⟨hh, h1, h2⟩
  | fuel + 1, lo, hi, hf, hl, hh, h1, h2 => by
    unfold below.go
    by_cases c : lo < hi
    · rw [if_pos c]
      dsimp only
      have hm : (lo + hi) / 2 < xs.size := by omega
      have eg : xs.getD ((lo + hi) / 2) j = xs[(lo + hi) / 2] := by simp [Array.getD, hm]
      have up : ∀ a b : Nat, a < b → ∀ u v, xs[a]? = some u → xs[b]? = some v → u < v := fun a b hab u v hu hv => by
        rw [← Array.getElem?_toList] at hu hv
        obtain ⟨ha, eu⟩ := List.getElem?_eq_some_iff.mp hu
        obtain ⟨hb, ev⟩ := List.getElem?_eq_some_iff.mp hv
        rw [← eu, ← ev]
        exact List.pairwise_iff_getElem.mp hr a b ha hb hab
      have em : xs[(lo + hi) / 2]? = some xs[(lo + hi) / 2] := Array.getElem?_eq_getElem hm
      rw [eg]
      by_cases d : xs[(lo + hi) / 2] < j
      · rw [if_pos d]
        refine belowGo_ok hr fuel _ _ (by omega) (by omega) hh (fun k hk v hv => ?_) h2
        by_cases e : k = (lo + hi) / 2
        · subst e; rw [em] at hv; cases hv; exact d
        · exact Nat.lt_trans (up k _ (by omega) v _ hv em) d
      · rw [if_neg d]
        refine belowGo_ok hr fuel _ _ (by omega) (by omega) (by omega) h1 fun k hk v hv => ?_
        by_cases e : k = (lo + hi) / 2
        · subst e; rw [em] at hv; cases hv; omega
        · exact Nat.le_trans (Nat.le_of_not_lt d) (Nat.le_of_lt (up _ k (by omega) _ v em hv))
    · rw [if_neg c]
      have e : lo = hi := by omega
      subst e
      exact ⟨hh, h1, h2⟩
theorem below_ok {xs : Array Nat} (hr : xs.toList.Pairwise (· < ·)) (j : Nat) : below xs j ≤ xs.size ∧ (∀ k, k < below xs j → ∀ v, xs[k]? = some v → v < j) ∧ ∀ k, below xs j ≤ k → ∀ v, xs[k]? = some v → j ≤ v :=
  belowGo_ok hr xs.size 0 xs.size (by omega) (Nat.zero_le _) (Nat.le_refl _) (fun k hk => by omega) (fun k hk v hv => by
    obtain ⟨h, _⟩ := Array.getElem?_eq_some_iff.mp hv
    omega)
theorem rise_at {xs : Array Nat} (hr : xs.toList.Pairwise (· < ·)) {a b u v : Nat} (hab : a < b) (hu : xs[a]? = some u) (hv : xs[b]? = some v) : u < v := by
  rw [← Array.getElem?_toList] at hu hv
  obtain ⟨ha, eu⟩ := List.getElem?_eq_some_iff.mp hu
  obtain ⟨hb, ev⟩ := List.getElem?_eq_some_iff.mp hv
  rw [← eu, ← ev]
  exact List.pairwise_iff_getElem.mp hr a b ha hb hab
theorem below_at {xs : Array Nat} (hr : xs.toList.Pairwise (· < ·)) {i j : Nat} (h : xs[i]? = some j) : below xs j = i := by
  obtain ⟨h0, h1, h2⟩ := below_ok hr j
  by_cases c : i < below xs j
  · have := h1 i c j h; omega
  · by_cases d : below xs j < i
    · obtain ⟨hi, _⟩ := Array.getElem?_eq_some_iff.mp h
      have e : xs[below xs j]? = some xs[below xs j] := Array.getElem?_eq_getElem (by omega)
      have := h2 _ (Nat.le_refl _) _ e
      have := rise_at hr d e h
      omega
    · omega
/-- the next one behind the i-th -/
theorem below_next {xs : Array Nat} (hr : xs.toList.Pairwise (· < ·)) {i j : Nat} (h : xs[i]? = some j) : below xs (j + 1) = i + 1 := by
  obtain ⟨h0, h1, h2⟩ := below_ok hr (j + 1)
  obtain ⟨hi, _⟩ := Array.getElem?_eq_some_iff.mp h
  by_cases c : below xs (j + 1) ≤ i
  · have := h2 i c j h; omega
  · by_cases d : i + 1 < below xs (j + 1)
    · have e : xs[i + 1]? = some xs[i + 1] := Array.getElem?_eq_getElem (by omega)
      have := h1 _ d _ e
      have := rise_at hr (Nat.lt_succ_self i) h e
      omega
    · omega
theorem below_zero {xs : Array Nat} (hr : xs.toList.Pairwise (· < ·)) : below xs 0 = 0 := by
  obtain ⟨h0, h1, h2⟩ := below_ok hr 0
  by_cases c : below xs 0 = 0
  · exact c
  · have e : xs[0]? = some xs[0] := Array.getElem?_eq_getElem (by omega)
    have := h1 0 (by omega) _ e
    omega
/-! ### a table without gaps that were let go -/
structure Tb (t : SetTable) (n : Nat) : Prop where
  size : t.place.size = n
  rise : t.place.toList.Pairwise (· < ·)
  low : ∀ j ∈ t.place.toList, j ≤ t.mask
  nod : t.dummies = #[]
theorem has_nil (j : Nat) : has #[] j = false := rfl
theorem Tb.slot {t : SetTable} {n : Nat} (h : Tb t n) (j : Nat) : (t.slot j = .empty ∧ j ∉ t.place.toList) ∨ ∃ i, t.slot j = .live i ∧ t.place[i]? = some j ∧ i < n := by
  unfold SetTable.slot
  dsimp only
  by_cases c : t.place[below t.place j]? = some j
  · rw [if_pos (by rw [c]; exact beq_self_eq_true _)]
    exact .inr ⟨_, rfl, c, by rw [← h.size]; exact (Array.getElem?_eq_some_iff.mp c).1⟩
  · rw [if_neg (by rw [beq_iff_eq]; exact c), h.nod, has_nil, if_neg (by decide)]
    refine .inl ⟨rfl, fun m => c ?_⟩
    obtain ⟨i, hi⟩ := List.getElem?_of_mem m
    rw [Array.getElem?_toList] at hi
    rw [below_at h.rise hi]
    exact hi
theorem Tb.live {t : SetTable} {n i j : Nat} (h : Tb t n) (e : t.place[i]? = some j) : t.slot j = .live i := by
  unfold SetTable.slot
  dsimp only
  rw [below_at h.rise e, if_pos (by rw [e]; exact beq_self_eq_true _)]
/-! ### the way of a search -/
def sq (t : SetTable) (p : Probe) : Nat → Probe
  | 0 => p
  | n + 1 => sq t (t.advance p) n
theorem sq_dummy (t : SetTable) : ∀ (n : Nat) (p : Probe), (sq t p n).dummy = p.dummy
  | 0, _ => rfl
  | n + 1, p => by
    rw [sq, sq_dummy t n]
    unfold SetTable.advance
    split <;> rfl
theorem sq_add (t : SetTable) : ∀ (a : Nat) (p : Probe) (b : Nat), sq t (sq t p a) b = sq t p (a + b)
  | 0, p, b => by rw [Nat.zero_add]; rfl
  | a + 1, p, b => by
    rw [Nat.succ_add]
    exact sq_add t a (t.advance p) b
theorem run_end {mask i : Nat} (h : i ≤ mask) : i + (runEnd mask i - i) ≤ mask := by unfold runEnd; split <;> omega
theorem adv_in {t : SetTable} {p : Probe} (h : p.j + p.more ≤ t.mask) : (t.advance p).j + (t.advance p).more ≤ t.mask := by
  unfold SetTable.advance
  split
  · dsimp only; omega
  · exact run_end (Nat.lt_succ_iff.mp (Nat.mod_lt _ (Nat.succ_pos t.mask)))
theorem sq_in {t : SetTable} : ∀ (n : Nat) (p : Probe), p.j + p.more ≤ t.mask → (sq t p n).j + (sq t p n).more ≤ t.mask
  | 0, _, h => h
  | n + 1, p, h => sq_in n _ (adv_in h)
theorem start_in (t : SetTable) (h : Int) : (t.probeStart h).j + (t.probeStart h).more ≤ t.mask := run_end (Nat.lt_succ_iff.mp (Nat.mod_lt _ (Nat.succ_pos t.mask)))
theorem go_ok {t : SetTable} {N : Nat} (hT : Tb t N) {hashAt : Nat → Int} {h : Int} : ∀ (n fuel : Nat) (p : Probe), n < fuel → p.dummy = none → p.j + p.more ≤ t.mask → t.slot (sq t p n).j = .empty →
    (∃ j, probe.go t hashAt h fuel p = some (.empty j none) ∧ t.slot j = .empty ∧ j ≤ t.mask) ∨
    ∃ m i, m < n ∧ probe.go t hashAt h fuel p = some (.candidate (sq t p m).j i (sq t p (m + 1))) ∧ t.slot (sq t p m).j = .live i ∧ hashAt i = h ∧ i < N ∧ t.place[i]? = some (sq t p m).j
  | n, 0, p, hn, _, _, _ => by omega
  | n, fuel + 1, p, hn, hd, hin, he => by
    unfold probe.go
    rcases hT.slot p.j with ⟨e, _⟩ | ⟨i, e, ei, hi⟩
    · rw [e]
      dsimp only
      rw [hd]
      exact .inl ⟨p.j, rfl, e, by omega⟩
    · rw [e]
      dsimp only
      obtain ⟨n, rfl⟩ : ∃ n', n = n' + 1 := by
        cases n with
        | zero => have e2 : t.slot p.j = .empty := he; rw [e] at e2; cases e2
        | succ n => exact ⟨n, rfl⟩
      by_cases c : hashAt i = h
      · rw [if_pos (by rw [c]; exact beq_self_eq_true _)]
        exact .inr ⟨0, i, by omega, rfl, e, c, hi, ei⟩
      · rw [if_neg (by rw [beq_iff_eq]; exact c)]
        have hd' : (t.advance p).dummy = none := by
          have := sq_dummy t 1 p
          rw [hd] at this
          exact this
        rcases go_ok hT n fuel (t.advance p) (by omega) hd' (adv_in hin) he with ⟨j, q1, q2⟩ | ⟨m, i', hm, q1, q2, q3, q4, q5⟩
        · exact .inl ⟨j, q1, q2⟩
        · exact .inr ⟨m + 1, i', by omega, q1, q2, q3, q4, q5⟩
/-! ### the leaps reach every place -/
def lps (mask : Nat) (i q : Nat) : Nat → Nat × Nat
  | 0 => (i, q)
  | r + 1 => lps mask (leap mask i q).1 (leap mask i q).2 r
theorem lps_succ (mask : Nat) : ∀ (r i q : Nat), lps mask i q (r + 1) = leap mask (lps mask i q r).1 (lps mask i q r).2
  | 0, _, _ => rfl
  | r + 1, i, q => by
    rw [lps, lps_succ mask r]
    rfl
theorem lps_q (mask : Nat) : ∀ (r i q : Nat), (lps mask i q r).2 = q / 32 ^ r
  | 0, i, q => by simp [lps]
  | r + 1, i, q => by
    rw [lps, lps_q mask r]
    show q / 32 / 32 ^ r = _
    rw [Nat.div_div_eq_div_mul, Nat.pow_succ, Nat.mul_comm]
theorem lps_add (mask : Nat) : ∀ (a b i q : Nat), lps mask i q (a + b) = lps mask (lps mask i q a).1 (lps mask i q a).2 b
  | 0, b, i, q => by rw [Nat.zero_add]; rfl
  | a + 1, b, i, q => by rw [Nat.succ_add, lps, lps_add mask a b]; rfl
def it5 (M : Nat) (i : Nat) : Nat → Nat
  | 0 => i
  | r + 1 => it5 M ((i * 5 + 1) % M) r
theorem lps_zero (mask : Nat) : ∀ (r i : Nat), lps mask i 0 r = (it5 (mask + 1) i r, 0)
  | 0, i => rfl
  | r + 1, i => by
    rw [lps, it5]
    show lps mask ((i * 5 + 1 + 0 / 32) % (mask + 1)) (0 / 32) r = _
    rw [Nat.zero_div, Nat.add_zero]
    exact lps_zero mask r _
theorem it5_add (M : Nat) : ∀ (a b i : Nat), it5 M i (a + b) = it5 M (it5 M i a) b
  | 0, b, i => by rw [Nat.zero_add]; rfl
  | a + 1, b, i => by rw [Nat.succ_add, it5, it5_add M a b]; rfl
def orb (M : Nat) : Nat → Nat → List Nat
  | 0, _ => []
  | r + 1, i => i :: orb M r ((i * 5 + 1) % M)
theorem orb_get (M : Nat) : ∀ (r i t : Nat), t ∈ orb M r i → ∃ k, k < r ∧ it5 M i k = t
  | 0, i, t, h => nomatch h
  | r + 1, i, t, h => by
    rcases List.mem_cons.mp h with rfl | z
    · exact ⟨0, by omega, rfl⟩
    · obtain ⟨k, hk, e⟩ := orb_get M r _ t z
      exact ⟨k + 1, by omega, e⟩
def full (M : Nat) : Bool := (List.range M).all (fun t => (orb M M 0).contains t) && it5 M 0 M == 0
theorem full8 : full 8 = true := by decide +kernel
theorem full32 : full 32 = true := by decide +kernel
theorem full128 : full 128 = true := by decide +kernel
theorem reach {M : Nat} (hf : full M = true) {i t : Nat} (hi : i < M) (ht : t < M) : ∃ r, r < M ∧ it5 M i r = t := by
  unfold full at hf
  rw [Bool.and_eq_true] at hf
  have z : it5 M 0 M = 0 := eq_of_beq hf.2
  have g : ∀ t, t < M → ∃ k, k < M ∧ it5 M 0 k = t := fun t ht => orb_get M M 0 t (List.contains_iff_mem.mp (List.all_eq_true.mp hf.1 t (List.mem_range.mpr ht)))
  obtain ⟨a, ha, ea⟩ := g i hi
  obtain ⟨b, hb, eb⟩ := g t ht
  by_cases c : a ≤ b
  · refine ⟨b - a, by omega, ?_⟩
    rw [← ea, ← it5_add, show a + (b - a) = b by omega, eb]
  · refine ⟨M - a + b, by omega, ?_⟩
    rw [← ea, ← it5_add, show a + (M - a + b) = M + b by omega, it5_add, z, eb]
/-- a mask that is met here -/
def Mk (mask : Nat) : Prop := mask = 7 ∨ mask = 31 ∨ mask = 127
theorem Mk.full {mask : Nat} (h : Mk mask) : HT.full (mask + 1) = true := by
  rcases h with rfl | rfl | rfl
  · exact full8
  · exact full32
  · exact full128
theorem bits_lt (h : Int) : bits h < 2 ^ 64 := by
  unfold bits
  have h1 := Int.emod_nonneg h (show (2 ^ 64 : Int) ≠ 0 by decide)
  have h2 := Int.emod_lt_of_pos h (show (0 : Int) < 2 ^ 64 by decide)
  omega
theorem leap_reach {mask : Nat} (hm : Mk mask) (h : Int) {t : Nat} (ht : t ≤ mask) : ∃ r, r ≤ mask + 13 ∧ (lps mask (bits h % (mask + 1)) (bits h) r).1 = t := by
  have q0 : (lps mask (bits h % (mask + 1)) (bits h) 13).2 = 0 := by
    rw [lps_q]
    exact Nat.div_eq_of_lt (Nat.lt_of_lt_of_le (bits_lt h) (by decide))
  have i0 : (lps mask (bits h % (mask + 1)) (bits h) 13).1 < mask + 1 := by
    rw [lps_succ]
    exact Nat.mod_lt _ (by omega)
  obtain ⟨r, hr, e⟩ := reach hm.full i0 (show t < mask + 1 by omega)
  refine ⟨13 + r, by omega, ?_⟩
  rw [lps_add, q0, lps_zero]
  exact e
theorem run_len (mask i : Nat) : runEnd mask i - i ≤ 9 := by unfold runEnd; split <;> omega
theorem sq_run (t : SetTable) : ∀ (e : Nat) (p : Probe), p.more = e → sq t p (e + 1) = { p with j := (leap t.mask p.i p.perturb).1, more := runEnd t.mask (leap t.mask p.i p.perturb).1 - (leap t.mask p.i p.perturb).1, i := (leap t.mask p.i p.perturb).1, perturb := (leap t.mask p.i p.perturb).2 }
  | 0, p, h => by
    show t.advance p = _
    unfold SetTable.advance
    rw [if_neg (by omega)]
  | e + 1, p, h => by
    rw [sq]
    have a : t.advance p = { p with j := p.j + 1, more := p.more - 1 } := by
      unfold SetTable.advance
      rw [if_pos (by omega)]
    rw [a, sq_run t e { p with j := p.j + 1, more := p.more - 1 } (by dsimp only; omega)]
theorem sq_leap (t : SetTable) (h : Int) : ∀ r, ∃ c, c ≤ 10 * r ∧ sq t (t.probeStart h) c = { j := (lps t.mask (bits h % (t.mask + 1)) (bits h) r).1, more := runEnd t.mask (lps t.mask (bits h % (t.mask + 1)) (bits h) r).1 - (lps t.mask (bits h % (t.mask + 1)) (bits h) r).1, i := (lps t.mask (bits h % (t.mask + 1)) (bits h) r).1, perturb := (lps t.mask (bits h % (t.mask + 1)) (bits h) r).2, dummy := none }
  | 0 => ⟨0, by omega, rfl⟩
  | r + 1 => by
    obtain ⟨c, hc, e⟩ := sq_leap t h r
    have l := run_len t.mask (lps t.mask (bits h % (t.mask + 1)) (bits h) r).1
    refine ⟨c + ((runEnd t.mask (lps t.mask (bits h % (t.mask + 1)) (bits h) r).1 - (lps t.mask (bits h % (t.mask + 1)) (bits h) r).1) + 1), by omega, ?_⟩
    rw [← sq_add, e, sq_run t _ _ rfl, lps_succ]
theorem len_of_all : ∀ (M : Nat) (l : List Nat), (∀ j, j < M → j ∈ l) → M ≤ l.length
  | 0, l, _ => Nat.zero_le _
  | M + 1, l, h => by
    have hm := h M (by omega)
    have := len_of_all M (l.erase M) fun j hj => (List.mem_erase_of_ne (by omega)).mpr (h j (by omega))
    rw [List.length_erase_of_mem hm] at this
    have : 0 < l.length := List.length_pos_of_mem hm
    omega
theorem free_place {M : Nat} {l : List Nat} (h : l.length < M) : ∃ j, j < M ∧ j ∉ l := by
  by_cases c : ∃ j, j < M ∧ j ∉ l
  · exact c
  · have := len_of_all M l fun j hj => by
      by_cases d : j ∈ l
      · exact d
      · exact absurd ⟨j, hj, d⟩ c
    omega
/-- a search comes to an empty place -/
theorem Tb.ends {t : SetTable} {n : Nat} (hT : Tb t n) (hm : Mk t.mask) (hn : n ≤ t.mask) (h : Int) : ∃ c, c < 10 * turns t.mask ∧ t.slot (sq t (t.probeStart h) c).j = .empty := by
  obtain ⟨j, hj, hjn⟩ := free_place (M := t.mask + 1) (l := t.place.toList) (by rw [Array.length_toList, hT.size]; omega)
  obtain ⟨r, hr, e⟩ := leap_reach hm h (t := j) (by omega)
  obtain ⟨c, hc, ec⟩ := sq_leap t h r
  refine ⟨c, by unfold turns; omega, ?_⟩
  rw [ec]
  dsimp only
  rw [e]
  rcases hT.slot j with ⟨z, _⟩ | ⟨i, _, z, _⟩
  · exact z
  · rw [← Array.getElem?_toList] at z
    exact absurd (List.mem_of_getElem? z) hjn
theorem tl_insertAt {α : Type} (xs : Array α) (p : Nat) (x : α) : (insertAt xs p x).toList = xs.toList.take p ++ x :: xs.toList.drop p := by
  unfold insertAt
  simp
  exact List.take_of_length_le (by simp)
theorem Tb.put {t : SetTable} {n j : Nat} (h : Tb t n) (he : j ∉ t.place.toList) (hj : j ≤ t.mask) : Tb (t.put j).1 (n + 1) ∧ (t.put j).1.mask = t.mask ∧ (t.put j).1.plain = t.plain ∧ (t.put j).1.led = t.led ∧ (t.put j).2 = below t.place j := by
  have hb := below_ok h.rise j
  have e : (t.put j).1 = { t with place := insertAt t.place (below t.place j) j, dummies := t.dummies } := by
    unfold SetTable.put
    dsimp only
    rw [h.nod, has_nil, if_neg (by decide)]
  refine ⟨?_, by rw [e], by rw [e], by rw [e], rfl⟩
  rw [e]
  have el := tl_insertAt t.place (below t.place j) j
  refine ⟨?_, ?_, fun k hk => ?_, h.nod⟩
  · show (insertAt t.place (below t.place j) j).size = n + 1
    rw [← Array.length_toList, el, List.length_append, List.length_cons, List.length_take, List.length_drop, Array.length_toList, h.size]
    have := hb.1
    rw [h.size] at this
    omega
  · show (insertAt t.place (below t.place j) j).toList.Pairwise _
    rw [el, List.pairwise_append]
    refine ⟨h.rise.sublist (List.take_sublist _ _), List.pairwise_cons.mpr ⟨fun b hbm => ?_, h.rise.sublist (List.drop_sublist _ _)⟩, fun a ha b hbm => ?_⟩
    · obtain ⟨k, hk⟩ := List.getElem?_of_mem hbm
      rw [List.getElem?_drop, Array.getElem?_toList] at hk
      have := hb.2.2 _ (by omega) b hk
      have : b ≠ j := fun z => he (by rw [← z]; exact List.mem_of_mem_drop hbm)
      omega
    · obtain ⟨k, hk⟩ := List.getElem?_of_mem ha
      rw [List.getElem?_take] at hk
      split at hk
      · rename_i hlt
        rw [Array.getElem?_toList] at hk
        have h1 := hb.2.1 k hlt a hk
        rcases List.mem_cons.mp hbm with rfl | z
        · exact h1
        · obtain ⟨k2, hk2⟩ := List.getElem?_of_mem z
          rw [List.getElem?_drop, Array.getElem?_toList] at hk2
          have := hb.2.2 _ (by omega) b hk2
          omega
      · cases hk
  · have hk' : k ∈ (insertAt t.place (below t.place j) j).toList := hk
    rw [el] at hk'
    rcases List.mem_append.mp hk' with z | z
    · exact h.low k (List.mem_of_mem_take z)
    · rcases List.mem_cons.mp z with rfl | z
      · exact hj
      · exact h.low k (List.mem_of_mem_drop z)
/-! ### the table laid anew -/
theorem lcfree_ok {mask : Nat} {owner : Array (Option Nat)} : ∀ (fuel i q : Nat), (∃ r, r < fuel ∧ (owner.getD (lps mask i q r).1 (some 0)).isNone = true) → ∃ j, layClean.free mask owner fuel i q = some j ∧ (owner.getD j (some 0)).isNone = true
  | 0, i, q, ⟨r, hr, _⟩ => by omega
  | fuel + 1, i, q, ⟨r, hr, e⟩ => by
    unfold layClean.free
    cases c : (List.range (runEnd mask i + 1 - i)).find? fun k => (owner.getD (i + k) (some 0)).isNone with
    | some k =>
      have h := List.find?_some (p := fun k => (owner.getD (i + k) (some 0)).isNone) c
      exact ⟨i + k, rfl, h⟩
    | none =>
      dsimp only
      refine lcfree_ok fuel _ _ ?_
      cases r with
      | zero =>
        exfalso
        have := List.find?_eq_none.mp c 0 (List.mem_range.mpr (by unfold runEnd; split <;> omega))
        exact this e
      | succ r => exact ⟨r, by omega, e⟩
theorem fm_same {g g' : Nat → Option Nat} : ∀ (l : List Nat), (∀ x ∈ l, g' x = g x) → l.filterMap g' = l.filterMap g
  | [], _ => rfl
  | a :: l, h => by
    have ih := fm_same l fun x hx => h x (List.mem_cons_of_mem _ hx)
    simp only [List.filterMap_cons, h a List.mem_cons_self, ih]
theorem fm_put {v : Nat} {g g' : Nat → Option Nat} {j : Nat} (hg : g j = none) (hj : g' j = some v) (ho : ∀ x, x ≠ j → g' x = g x) : ∀ (l : List Nat), l.Nodup → j ∈ l → (l.filterMap g').Perm (v :: l.filterMap g)
  | [], _, h => nomatch h
  | a :: l, hn, h => by
    have hn' := List.nodup_cons.mp hn
    by_cases c : a = j
    · subst c
      rw [List.filterMap_cons_some hj, List.filterMap_cons_none hg]
      rw [fm_same l fun x hx => ho x fun z => hn'.1 (z ▸ hx)]
    · have hm : j ∈ l := (List.mem_cons.mp h).resolve_left fun z => c z.symm
      have ih := fm_put hg hj ho l hn'.2 hm
      cases e : g a with
      | none => rw [List.filterMap_cons_none ((ho a c).trans e), List.filterMap_cons_none e]; exact ih
      | some u =>
        rw [List.filterMap_cons_some ((ho a c).trans e), List.filterMap_cons_some e]
        exact (ih.cons u).trans (List.Perm.swap v u _)
/-- who stands where, after k of them -/
structure Ow (mask : Nat) (owner : Array (Option Nat)) (k : Nat) : Prop where
  size : owner.size = mask + 1
  perm : ((List.range (mask + 1)).filterMap fun j => owner.getD j none).Perm (List.range k)
theorem fm_len {g : Nat → Option Nat} : ∀ (l : List Nat), (∀ x ∈ l, (g x).isSome = true) → (l.filterMap g).length = l.length
  | [], _ => rfl
  | a :: l, h => by
    obtain ⟨u, e⟩ := Option.isSome_iff_exists.mp (h a List.mem_cons_self)
    rw [List.filterMap_cons_some e, List.length_cons, List.length_cons, fm_len l fun x hx => h x (List.mem_cons_of_mem _ hx)]
theorem Ow.room {mask k : Nat} {owner : Array (Option Nat)} (h : Ow mask owner k) (hk : k ≤ mask) : ∃ j, j ≤ mask ∧ owner.getD j none = none := by
  by_cases c : ∃ j, j ≤ mask ∧ owner.getD j none = none
  · exact c
  · have := fm_len (g := fun j => owner.getD j none) (List.range (mask + 1)) fun x hx => by
      cases e : owner.getD x none with
      | none => exact absurd ⟨x, by have := List.mem_range.mp hx; omega, e⟩ c
      | some u => rfl
    rw [h.perm.length_eq, List.length_range, List.length_range] at this
    omega
theorem getD_two {owner : Array (Option Nat)} {j : Nat} : (owner.getD j (some 0)).isNone = true ↔ j < owner.size ∧ owner.getD j none = none := by
  by_cases c : j < owner.size
  · simp [Array.getD, c]
  · simp [Array.getD, c]
theorem Ow.step {mask k : Nat} {owner : Array (Option Nat)} (h : Ow mask owner k) (hm : Mk mask) (hk : k ≤ mask) (hs : Int) : ∃ j, layClean.free mask owner (turns mask) (bits hs % (mask + 1)) (bits hs) = some j ∧ Ow mask (owner.setIfInBounds j (some k)) (k + 1) := by
  obtain ⟨j0, hj0, e0⟩ := h.room hk
  obtain ⟨r, hr, er⟩ := leap_reach hm hs hj0
  obtain ⟨j, ej, nj⟩ := lcfree_ok (mask := mask) (owner := owner) (turns mask) (bits hs % (mask + 1)) (bits hs) ⟨r, by unfold turns; omega, by rw [er, getD_two]; exact ⟨by rw [h.size]; omega, e0⟩⟩
  obtain ⟨jl, jn⟩ := getD_two.mp nj
  refine ⟨j, ej, ?_, ?_⟩
  · rw [Array.size_setIfInBounds, h.size]
  · rw [show List.range (k + 1) = List.range k ++ [k] from List.range_succ]
    refine (fm_put (v := k) (g := fun x => owner.getD x none) (j := j) jn ?_ (fun x hx => ?_) _ List.nodup_range (List.mem_range.mpr (by rw [h.size] at jl; exact jl))).trans ?_
    · show (owner.setIfInBounds j (some k)).getD j none = some k
      simp [Array.getD, jl]
    · show (owner.setIfInBounds j (some k)).getD x none = owner.getD x none
      by_cases c : x < owner.size
      · simp only [Array.getD, Array.size_setIfInBounds, c, dite_true]
        exact Array.getElem_setIfInBounds_ne (by simpa using c) (Ne.symm hx)
      · simp [Array.getD, c]
    · exact (h.perm.cons k).trans (List.perm_append_singleton k (List.range k)).symm
theorem lay_fold {mask : Nat} (hm : Mk mask) : ∀ (hs : List Int) (owner : Array (Option Nat)) (k : Nat), Ow mask owner k → k + hs.length ≤ mask + 1 → ∃ o', (hs.foldl (init := some (owner, k)) fun acc h => do
    let (owner, k) ← acc
    let j ← layClean.free mask owner (turns mask) (bits h % (mask + 1)) (bits h)
    pure (owner.setIfInBounds j (some k), k + 1)) = some (o', k + hs.length) ∧ Ow mask o' (k + hs.length)
  | [], owner, k, h, _ => ⟨owner, rfl, h⟩
  | x :: hs, owner, k, h, hl => by
    rw [List.length_cons] at hl
    obtain ⟨j, e, h'⟩ := h.step hm (by omega) x
    rw [List.foldl_cons]
    have es : (do
        let (owner, k) ← (some (owner, k) : Option (Array (Option Nat) × Nat))
        let j ← layClean.free mask owner (turns mask) (bits x % (mask + 1)) (bits x)
        pure (owner.setIfInBounds j (some k), k + 1)) = some (owner.setIfInBounds j (some k), k + 1) := by
      show (layClean.free mask owner (turns mask) (bits x % (mask + 1)) (bits x)).bind _ = _
      rw [e]
      rfl
    rw [es]
    obtain ⟨o', q1, q2⟩ := lay_fold hm hs _ _ h' (by omega)
    exact ⟨o', by rw [q1, List.length_cons]; congr 2; omega, by rw [List.length_cons, show k + (hs.length + 1) = k + 1 + hs.length by omega]; exact q2⟩
theorem laid_ok {mask finger moves : Nat} {led plain : Bool} {hs : Array Int} (hm : Mk mask) (hl : hs.size ≤ mask) : ∃ t order, laid mask finger moves led plain hs = some (t, order) ∧ Tb t hs.size ∧ t.mask = mask ∧ t.led = led ∧ t.plain = plain ∧ order.toList.Perm (List.range hs.size) := by
  have h0 : Ow mask (Array.replicate (mask + 1) none) 0 := by
    refine ⟨by simp, ?_⟩
    have : ((List.range (mask + 1)).filterMap fun j => (Array.replicate (mask + 1) (none : Option Nat)).getD j none) = [] := by
      rw [List.filterMap_eq_nil_iff]
      intro x hx
      have := List.mem_range.mp hx
      simp [Array.getD, this]
    rw [this]
    exact List.Perm.refl _
  obtain ⟨o, e, hO⟩ := lay_fold hm hs.toList _ 0 h0 (by rw [Array.length_toList]; omega)
  rw [Nat.zero_add, Array.length_toList] at e hO
  have ec : layClean mask hs = some o := by
    unfold layClean
    rw [← Array.foldl_toList, e]
    rfl
  refine ⟨_, _, by unfold laid; rw [ec]; rfl, ⟨?_, ?_, fun j hj => ?_, rfl⟩, rfl, rfl, rfl, ?_⟩
  · show (((List.range (mask + 1)).filterMap fun j => (o.getD j none).map (j, ·)).map (·.1)).toArray.size = hs.size
    have := hO.perm.length_eq
    rw [List.length_range] at this
    rw [List.size_toArray, List.length_map, ← this, ← List.length_map (f := (·.2)), List.map_filterMap]
    congr 2
    funext j
    cases o.getD j none <;> rfl
  · show (((List.range (mask + 1)).filterMap fun j => (o.getD j none).map (j, ·)).map (·.1)).toArray.toList.Pairwise _
    rw [List.toList_toArray, List.map_filterMap]
    refine List.Pairwise.filterMap (R := (· < ·)) (S := (· < ·)) _ (fun a a' haa b hb b' hb' => ?_) List.pairwise_lt_range
    cases ea : o.getD a none with
    | none => rw [ea] at hb; cases hb
    | some u =>
      cases eb : o.getD a' none with
      | none => rw [eb] at hb'; cases hb'
      | some u' =>
        rw [ea] at hb
        rw [eb] at hb'
        cases hb
        cases hb'
        exact haa
  · have hj' : j ∈ (((List.range (mask + 1)).filterMap fun j => (o.getD j none).map (j, ·)).map (·.1)) := by simpa using hj
    obtain ⟨⟨a, b⟩, hab, rfl⟩ := List.mem_map.mp hj'
    obtain ⟨x, hx, ex⟩ := List.mem_filterMap.mp hab
    have hxm := List.mem_range.mp hx
    cases eo : o.getD x none with
    | none => rw [eo] at ex; cases ex
    | some u =>
      rw [eo] at ex
      cases ex
      dsimp only
      omega
  · show (((List.range (mask + 1)).filterMap fun j => (o.getD j none).map (j, ·)).map (·.2)).toArray.toList.Perm _
    rw [List.toList_toArray, List.map_filterMap]
    refine List.Perm.trans (List.Perm.of_eq ?_) hO.perm
    congr 1
    funext j
    cases o.getD j none <;> rfl
end HT

set_option Elab.async false
set_option linter.all false
set_option maxRecDepth 100000
set_option maxHeartbeats 4000000
/-! A set of tuples of whole numbers: what adding one does. -/
namespace HT
open PySem PySem.SetTable
section
variable {prog : Program} {w : World} {A : Around} {E : Value → Shared → Prop} {s : Shared}
abbrev Tup (prog : Program) (w : World) (h : Heap) (k : List Int) (a : Addr) : Prop := IsTupleKey (intKind prog w) h k a
abbrev hsh (prog : Program) (w : World) (k : List Int) : Int := tupleKeyHash (intKind prog w) k
theorem Tup.stay {h h' : Heap} {k : List Int} {a : Addr} (x : Tup prog w h k a) (e : ∀ o, h.get? a = some o → h'.get? a = some o) : Tup prog w h' k a := by
  obtain ⟨o, its, n, ho, r⟩ := x
  exact ⟨o, its, n, e o ho, r⟩
theorem ints_only {k : List Int} {vs : List Value} (h : ItemsAre (intKind prog w) k vs) : ∀ v ∈ vs, ∃ i t, v = .int i t := by
  induction h with
  | nil => intro v hv; exact nomatch hv
  | @cons i u ks us h1 _ ih =>
    intro v hv
    rcases List.mem_cons.mp hv with rfl | z
    · cases v with
      | int j t => exact ⟨j, t, rfl⟩
      | _ => exact absurd h1 (by simp [intKind, Value.isInt])
    · exact ih v z
theorem noClass {k : List Int} {a : Addr} {Q : Bool → Shared → Prop} (hk : Tup prog w s.heap k a) (h : Q false s) : wpAny (model prog w) A (ofAClassStatement 8 (.ref a)) Q E s := by
  have hT := hk.typeIs
  obtain ⟨o, its, n, ho, _, hd, hi⟩ := hk
  unfold ofAClassStatement
  refine wpAny_bind (wpAny_typeOf hT ?_)
  dsimp only
  refine wpAny_bind (wpAny_pure ?_)
  simp only [Bool.not_true, Bool.false_eq_true, if_false]
  refine wpAny_bind (wpAny_seqItems ho hd ?_)
  dsimp only
  refine wpAny_bind ?_
  show wpAny _ _ (forIn its _ _) _ _ s
  rw [← Array.forIn_toList]
  refine wpAny_forIn_list _ (fun rest r s' => r.1 = none ∧ s' = s ∧ ∀ v ∈ rest, ∃ i t, v = Value.int i t) _ ?_ ?_ _ _ ⟨rfl, rfl, ints_only hi⟩
  · rintro v rest r s' ⟨hr, rfl, hall⟩
    obtain ⟨i, t, rfl⟩ := hall v List.mem_cons_self
    refine wpAny_bind (m := ofAClassStatement 7 (.int i t)) (wpAny_pure ?_)
    simp only [Bool.false_eq_true, if_false]
    exact wpAny_pure ⟨rfl, rfl, fun u hu => hall u (List.mem_cons_of_mem _ hu)⟩
  · rintro ⟨r1, r2⟩ s' ⟨hr, rfl, _⟩
    simp only at hr
    subst hr
    exact wpAny_pure h
/-- nobody sees the search -/
theorem unseen {k : List Int} {a : Addr} {Q : Bool → Shared → Prop} {l : List Value} (hk : Tup prog w s.heap k a) (hl : ∀ y ∈ l, ∃ k' b, y = .ref b ∧ Tup prog w s.heap k' b) (h : Q false s) : wpAny (model prog w) A (searchCouldBeSeen (.ref a) l) Q E s := by
  unfold searchCouldBeSeen
  refine wpAny_bind ?_
  refine wpAny_forIn_list _ (fun rest r s' => r.1 = none ∧ s' = s ∧ ∀ y ∈ rest, ∃ k' b, y = Value.ref b ∧ Tup prog w s.heap k' b) _ ?_ ?_ _ _ ⟨rfl, rfl, hl⟩
  · rintro v rest r s' ⟨hr, rfl, hall⟩
    obtain ⟨k', b, rfl, hb⟩ := hall v List.mem_cons_self
    have rest' : ∀ y ∈ rest, ∃ k' b, y = Value.ref b ∧ Tup prog w s'.heap k' b := fun u hu => hall u (List.mem_cons_of_mem _ hu)
    dsimp only
    split
    · exact wpAny_pure ⟨rfl, rfl, rest'⟩
    · refine wpAny_bind (wpAny_eqIsQuiet_tuple hk ?_)
      simp only [Bool.not_true, Bool.false_eq_true, if_false]
      refine wpAny_bind (wpAny_eqIsQuiet_tuple hb ?_)
      simp only [Bool.not_true, Bool.false_eq_true, if_false]
      refine wpAny_bind (noClass hk ?_)
      simp only [Bool.false_eq_true, if_false]
      refine wpAny_bind (noClass hb ?_)
      simp only [Bool.false_eq_true, if_false]
      exact wpAny_pure ⟨rfl, rfl, rest'⟩
  · rintro ⟨r1, r2⟩ s' ⟨hr, rfl, _⟩
    simp only at hr
    subst hr
    exact wpAny_pure h
/-- the set of points at S, its entries and its table -/
structure Ents (prog : Program) (w : World) (h : Heap) (es : Array (Int × Value)) : Prop where
  tup : ∀ e ∈ es.toList, ∃ k a, e = (hsh prog w k, Value.ref a) ∧ Tup prog w h k a
theorem fits_of {t : SetTable} {n : Nat} (hT : Tb t n) (hn : n ≤ t.mask) : t.fits n = true := by
  unfold SetTable.fits SetTable.fill
  rw [hT.size, hT.nod]
  simp only [beq_self_eq_true, Bool.true_and, decide_eq_true_eq, List.size_toArray, List.length_nil, Nat.add_zero]
  exact hn
/-- a search for the tuple at a -/
theorem search_ok {S a : Addr} {k : List Int} {o : Obj} {es : Array (Int × Value)} {ep : Nat} {t : SetTable} {h : Int} {Q : SetFound → Shared → Prop}
    (ho : s.heap.get? S = some o) (hd : o.data = .set es ep t) (hT : Tb t es.size) (hn : es.size ≤ t.mask) (hodd : t.mask % 2 = 1) (hE : Ents prog w s.heap es) (hx : Tup prog w s.heap k a) (hu : A.units < cLine)
    (hQ1 : (∃ e ∈ es.toList, ∃ b, e.2 = Value.ref b ∧ Tup prog w s.heap k b) → Q (.there none) s) (hQ2 : ∀ j, t.slot j = .empty → j ≤ t.mask → Q (.free j false) s) :
    ∀ (n fuel : Nat) (p : Probe) (stand : Option Probe), n < fuel → n < 10 * turns t.mask → p.dummy = none → p.j + p.more ≤ t.mask → t.slot (sq t p n).j = .empty → stand.getD (t.probeStart h) = p →
      wpAny (model prog w) A (setSearchFrom S (.ref a) h true fuel stand) Q E s := by
  have hf := fits_of hT hn
  intro n
  induction n using Nat.strongRecOn with
  | ind n ih =>
    intro fuel p stand hfu hnt hpd hin hpe hst
    obtain ⟨fuel, rfl⟩ : ∃ f, fuel = f + 1 := ⟨fuel - 1, by omega⟩
    unfold setSearchFrom
    refine wpAny_bind (wpAny_setState_of ho hd hf ?_)
    dsimp only
    rw [if_neg (by unfold SetTable.gaveWay; rw [hodd]; decide), hst]
    have gk : ∀ hashAt, t.probe hashAt h p = probe.go t hashAt h (10 * turns t.mask) p := fun _ => rfl
    rw [gk]
    rcases go_ok hT (h := h) (hashAt := _) n (10 * turns t.mask) p hnt hpd hin hpe with ⟨j, q1, q2, q0⟩ | ⟨m, i, hm, q1, q2, q3, q4, q5⟩
    · rw [q1]
      exact wpAny_pure (hQ2 j q2 q0)
    · rw [q1]
      dsimp only
      have hi : i < es.size := q4
      have eg : es[i]? = some es[i] := Array.getElem?_eq_getElem hi
      have em : es[i] ∈ es.toList := by
        rw [Array.mem_toList_iff]
        exact Array.getElem_mem hi
      obtain ⟨k', b, ee, hb⟩ := hE.tup _ em
      have cont : wpAny (model prog w) A (do
          let some (_, y) := es[i]? | unsupported "internal:set-entry"
          let equal ← holding [y] (eqBool y (.ref a))
          let (es', _, t') ← setState S
          if (true && equal) = true then return SetFound.there none
          let some same := t'.sameMemory t.moves t.mask | unsupported "set.changed-during-lookup:is-the-new-block-at-the-old-address"
          let still ← match (if same then t'.slot (sq t p m).j else .empty) with
            | .live i' => match es'[i']? with
              | some (_, y') => do pure (if ← isSame y' y then some i' else none)
              | none => pure none
            | _ => pure none
          match still with
          | none => rule "set.search.anew"; setSearchFrom S (.ref a) h true fuel none
          | some i' => if equal then return .there (some i') else setSearchFrom S (.ref a) h true fuel (some (sq t p (m + 1)))) Q E s := by
        rw [eg, ee]
        dsimp only
        refine wpAny_bind (wpAny_holding (wpAny_eqBool_tuple hu hb hx ?_))
        refine wpAny_bind (wpAny_setState_of ho hd hf ?_)
        dsimp only
        by_cases c : k' = k
        · rw [decide_eq_true c, if_pos (by decide)]
          subst c
          exact wpAny_pure (hQ1 ⟨_, em, b, by rw [ee], hb⟩)
        · rw [decide_eq_false c, if_neg (by decide)]
          have sm : t.sameMemory t.moves t.mask = some true := by
            unfold SetTable.sameMemory
            rw [if_pos (beq_self_eq_true _)]
          rw [sm]
          dsimp only
          rw [if_pos rfl, q2]
          dsimp only
          rw [eg, ee]
          dsimp only
          refine wpAny_bind (wpAny_isSame_ref_self (wpAny_bind (wpAny_pure ?_)))
          rw [if_pos rfl]
          dsimp only
          rw [if_neg (by decide)]
          refine ih (n - (m + 1)) (by omega) fuel (sq t p (m + 1)) (some (sq t p (m + 1))) (by omega) (by omega) (by rw [sq_dummy]; exact hpd) (sq_in _ _ hin) ?_ rfl
          rw [sq_add, show m + 1 + (n - (m + 1)) = n by omega]
          exact hpe
      by_cases hl : t.led = true
      · rw [if_neg (by rw [hl]; decide)]
        exact cont
      · rw [if_pos (by rw [Bool.not_eq_true _ |>.mp hl]; rfl)]
        refine wpAny_bind (unseen hx (fun y hy => ?_) ?_)
        · obtain ⟨e, he, rfl⟩ := List.mem_map.mp hy
          have he' : e ∈ es.toList := by
            have := Array.mem_toList_iff.mp he
            exact Array.mem_toList_iff.mpr (Array.mem_filter.mp this).1
          obtain ⟨k2, b2, e2, h2⟩ := hE.tup e he'
          exact ⟨k2, b2, by rw [e2], h2⟩
        · rw [if_neg (by decide)]
          exact cont
theorem hashVal {k : List Int} {a : Addr} {Q : Bool → Shared → Prop} (hk : Tup prog w s.heap k a) (h : Q true s) : wpAny (model prog w) A (hashByValue 8 (.ref a)) Q E s := by
  have hT := hk.typeIs
  obtain ⟨o, its, n, ho, _, hd, hi⟩ := hk
  unfold hashByValue
  refine wpAny_bind (wpAny_specialOf hT F.slot_tuple_hash.lookup ?_)
  dsimp only
  refine wpAny_bind (wpAny_seqItems ho hd ?_)
  dsimp only [Option.getD]
  refine wpAny_bind ?_
  show wpAny _ _ (forIn its _ _) _ _ s
  rw [← Array.forIn_toList]
  refine wpAny_forIn_list _ (fun rest r s' => r.1 = none ∧ s' = s ∧ ∀ v ∈ rest, ∃ i t, v = Value.int i t) _ ?_ ?_ _ _ ⟨rfl, rfl, ints_only hi⟩
  · rintro v rest r s' ⟨hr, rfl, hall⟩
    obtain ⟨i, t, rfl⟩ := hall v List.mem_cons_self
    refine wpAny_bind (m := hashByValue 7 (.int i t)) (wpAny_pure ?_)
    simp only [Bool.not_true, Bool.false_eq_true, if_false]
    exact wpAny_pure ⟨rfl, rfl, fun u hu => hall u (List.mem_cons_of_mem _ hu)⟩
  · rintro ⟨r1, r2⟩ s' ⟨hr, rfl, _⟩
    simp only at hr
    subst hr
    exact wpAny_pure h
/-- in an empty table the search ends at once -/
theorem search_zero {S : Addr} {x : Value} {o : Obj} {ep : Nat} {t : SetTable} {h : Int} {Q : SetFound → Shared → Prop} (ho : s.heap.get? S = some o) (hd : o.data = .set #[] ep t) (hT : Tb t 0) (hodd : t.mask % 2 = 1)
    (hQ : t.slot (bits h % (t.mask + 1)) = .empty → Q (.free (bits h % (t.mask + 1)) false) s) (fuel : Nat) : wpAny (model prog w) A (setSearchFrom S x h true (fuel + 1) none) Q E s := by
  unfold setSearchFrom
  refine wpAny_bind (wpAny_setState_of ho hd (fits_of hT (Nat.zero_le _)) ?_)
  dsimp only
  rw [if_neg (by unfold SetTable.gaveWay; rw [hodd]; decide)]
  have se : t.slot (bits h % (t.mask + 1)) = .empty := by
    rcases hT.slot (bits h % (t.mask + 1)) with ⟨z, _⟩ | ⟨i, _, _, z⟩
    · exact z
    · omega
  have gk : ∀ hashAt, t.probe hashAt h (t.probeStart h) = some (.empty (bits h % (t.mask + 1)) none) := fun hashAt => by
    show probe.go t hashAt h (10 * (t.mask + 15)) (t.probeStart h) = _
    rw [show 10 * (t.mask + 15) = (10 * t.mask + 149) + 1 by omega]
    unfold probe.go
    rw [show (t.probeStart h).j = bits h % (t.mask + 1) from rfl, se]
    rfl
  rw [show (none : Option Probe).getD (t.probeStart h) = t.probeStart h from rfl, gk]
  exact wpAny_pure (hQ se)
/-- the only one is met at once -/
theorem search_one {S a b : Addr} {k : List Int} {o : Obj} {es : Array (Int × Value)} {ep : Nat} {t : SetTable} {h : Int} {Q : SetFound → Shared → Prop} (ho : s.heap.get? S = some o) (hd : o.data = .set es ep t) (hes : es = #[(h, Value.ref b)]) (hT : Tb t 1) (hm : t.mask = 7)
    (hp : t.place = #[bits h % 8]) (hb : Tup prog w s.heap k b) (hx : Tup prog w s.heap k a) (hu : A.units < cLine) (hQ : Q (.there none) s) (fuel : Nat) : wpAny (model prog w) A (setSearchFrom S (.ref a) h true (fuel + 1) none) Q E s := by
  subst hes
  have hf : t.fits (#[(h, Value.ref b)] : Array (Int × Value)).size = true := fits_of hT (by rw [hm]; show 1 ≤ 7; decide)
  unfold setSearchFrom
  refine wpAny_bind (wpAny_setState_of ho hd hf ?_)
  dsimp only
  rw [if_neg (by unfold SetTable.gaveWay; rw [hm]; decide)]
  have se : t.slot (bits h % (t.mask + 1)) = .live 0 := hT.live (by rw [hm, hp]; rfl)
  have gk : ∀ hashAt : Nat → Int, hashAt 0 = h → t.probe hashAt h (t.probeStart h) = some (.candidate (bits h % (t.mask + 1)) 0 (t.advance (t.probeStart h))) := fun hashAt e0 => by
    show probe.go t hashAt h (10 * (t.mask + 15)) (t.probeStart h) = _
    rw [show 10 * (t.mask + 15) = (10 * t.mask + 149) + 1 by omega]
    unfold probe.go
    rw [show (t.probeStart h).j = bits h % (t.mask + 1) from rfl, se]
    dsimp only
    rw [e0, if_pos (beq_self_eq_true h)]
  rw [show (none : Option Probe).getD (t.probeStart h) = t.probeStart h from rfl, gk _ rfl]
  dsimp only
  have cont : ∀ X : Bool → Array (Int × Value) × Nat × SetTable → Sem SetFound, wpAny (model prog w) A (do
      let equal ← holding [Value.ref b] (eqBool (Value.ref b) (.ref a))
      let r ← setState S
      if (true && equal) = true then return SetFound.there none
      X equal r) Q E s := fun X => by
    refine wpAny_bind (wpAny_holding (wpAny_eqBool_tuple hu hb hx ?_))
    refine wpAny_bind (wpAny_setState_of ho hd hf ?_)
    rw [decide_eq_true rfl, if_pos (by decide)]
    exact wpAny_pure hQ
  by_cases hl : t.led = true
  · rw [if_neg (by rw [hl]; decide)]
    exact cont _
  · rw [if_pos (by rw [Bool.not_eq_true _ |>.mp hl]; rfl)]
    refine wpAny_bind (unseen hx (fun y hy => ?_) ?_)
    · obtain ⟨e, he, rfl⟩ := List.mem_map.mp hy
      have he' := (Array.mem_filter.mp (Array.mem_toList_iff.mp he)).1
      have : e = (h, Value.ref b) := by simpa using he'
      exact ⟨k, b, by rw [this], hb⟩
    · rw [if_neg (by decide)]
      exact cont _
/-- the set at S holds the tuples ks -/
structure SetQ (prog : Program) (w : World) (h : Heap) (S : Addr) (ks : List (List Int)) (es : Array (Int × Value)) (ep : Nat) (t : SetTable) : Prop where
  get : h.get? S = some { cls := .type "set", dict := none, data := .set es ep t }
  tb : Tb t es.size
  msk : Mk t.mask
  room : es.size * 5 < t.mask * 3
  led : t.led = !w.params.followText "set-order"
  plain : t.plain = true
  ents : Ents prog w h es
  keys : ∀ k, k ∈ ks ↔ ∃ e ∈ es.toList, ∃ a, e.2 = Value.ref a ∧ Tup prog w h k a
  one : ∀ k, ks ≠ [] → (∀ k' ∈ ks, k' = k) → es.size = 1 ∧ t.mask = 7 ∧ t.place = #[bits (hsh prog w k) % 8]
  zero : ks = [] → t.mask = 7
  small : es.size ≤ ks.length
theorem Mk.odd {m : Nat} (h : Mk m) : m % 2 = 1 := by rcases h with rfl | rfl | rfl <;> rfl
theorem SetQ.le {h : Heap} {S : Addr} {ks : List (List Int)} {es : Array (Int × Value)} {ep : Nat} {t : SetTable} (q : SetQ prog w h S ks es ep t) : es.size ≤ t.mask := by
  have := q.room
  omega
theorem SetQ.nil {h : Heap} {S : Addr} {es : Array (Int × Value)} {ep : Nat} {t : SetTable} (q : SetQ prog w h S [] es ep t) : es = #[] := by
  have := q.small
  exact Array.eq_empty_of_size_eq_zero (by simpa using this)
theorem tupS {h h' : Heap} {S b : Addr} {k : List Int} {es : Array (Int × Value)} {ep : Nat} {t : SetTable} (hg : h.get? S = some { cls := .type "set", dict := none, data := .set es ep t }) (sb : Heap.SameBut S h h') (x : Tup prog w h k b) : Tup prog w h' k b := by
  obtain ⟨o, its, n, ho, hc, r⟩ := x
  have hne : b ≠ S := by
    rintro rfl
    rw [hg] at ho
    cases ho
    exact absurd hc (by simp)
  exact ⟨o, its, n, (sb.2 b hne).trans ho, hc, r⟩
theorem putSet_get {h : Heap} {S : Addr} {es es' : Array (Int × Value)} {ep : Nat} {t t' : SetTable} (hg : h.get? S = some { cls := .type "set", dict := none, data := .set es ep t }) :
    (h.update S (Obj.putSet es' t')).get? S = some { cls := .type "set", dict := none, data := .set es' (ep + 1) t' } := by
  have e := Heap.get?_update_self (Obj.putSet es' t') hg (by rw [putSet_of es' t' rfl]; rfl)
  rw [putSet_of es' t' rfl] at e
  exact e
/-- what is asked of the entries once one more is laid -/
theorem SetQ.more {h h' : Heap} {S a : Addr} {k : List Int} {ks : List (List Int)} {es es' : Array (Int × Value)} {ep ep' : Nat} {t t' : SetTable} (q : SetQ prog w h S ks es ep t) (hx : Tup prog w h k a) (sb : Heap.SameBut S h h')
    (hp : es'.toList.Perm ((hsh prog w k, Value.ref a) :: es.toList)) (get : h'.get? S = some { cls := .type "set", dict := none, data := .set es' ep' t' }) (tb : Tb t' es'.size) (mk : Mk t'.mask) (room : es'.size * 5 < t'.mask * 3) (led : t'.led = t.led) (plain : t'.plain = t.plain)
    (one : ∀ k2, (∀ k' ∈ ks ++ [k], k' = k2) → es'.size = 1 ∧ t'.mask = 7 ∧ t'.place = #[bits (hsh prog w k2) % 8]) : SetQ prog w h' S (ks ++ [k]) es' ep' t' := by
  have st : ∀ {k2 : List Int} {b : Addr}, Tup prog w h k2 b → Tup prog w h' k2 b := fun x => tupS q.get sb x
  refine ⟨get, tb, mk, room, led.trans q.led, plain.trans q.plain, ⟨fun e he => ?_⟩, fun k2 => ?_, fun k2 _ hk => one k2 hk, fun z => by simp at z, ?_⟩
  · rcases List.mem_cons.mp (hp.mem_iff.mp he) with rfl | z
    · exact ⟨k, a, rfl, st hx⟩
    · obtain ⟨k2, b, e2, x⟩ := q.ents.tup e z
      exact ⟨k2, b, e2, st x⟩
  · constructor
    · intro hk
      rcases List.mem_append.mp hk with z | z
      · obtain ⟨e, he, b, eb, x⟩ := (q.keys k2).mp z
        exact ⟨e, hp.mem_iff.mpr (List.mem_cons_of_mem _ he), b, eb, st x⟩
      · rw [List.mem_singleton.mp z]
        exact ⟨_, hp.mem_iff.mpr List.mem_cons_self, a, rfl, st hx⟩
    · rintro ⟨e, he, b, eb, x⟩
      rcases List.mem_cons.mp (hp.mem_iff.mp he) with rfl | z
      · cases eb
        rw [IsTupleKey.inj x (st hx)]
        exact List.mem_append_right _ (List.mem_singleton.mpr rfl)
      · obtain ⟨k3, b3, e3, x3⟩ := q.ents.tup e z
        rw [e3] at eb
        cases eb
        rw [IsTupleKey.inj x (st x3)]
        exact List.mem_append_left _ ((q.keys k3).mpr ⟨e, z, _, by rw [e3], x3⟩)
  · have := hp.length_eq
    rw [Array.length_toList, List.length_cons, Array.length_toList] at this
    have := q.small
    rw [List.length_append, List.length_singleton]
    omega
theorem SetQ.again {h : Heap} {S : Addr} {k : List Int} {ks : List (List Int)} {es : Array (Int × Value)} {ep : Nat} {t : SetTable} (q : SetQ prog w h S ks es ep t) (hk : k ∈ ks) : SetQ prog w h S (ks ++ [k]) es ep t := by
  have m : ∀ k2, k2 ∈ ks ++ [k] ↔ k2 ∈ ks := fun k2 => ⟨fun z => (List.mem_append.mp z).elim id fun z => by rw [List.mem_singleton.mp z]; exact hk, fun z => List.mem_append_left _ z⟩
  refine ⟨q.get, q.tb, q.msk, q.room, q.led, q.plain, q.ents, fun k2 => (m k2).trans (q.keys k2), fun k2 _ h2 => q.one k2 (fun z => by rw [z] at hk; exact nomatch hk) fun k' hk' => h2 k' ((m k').mpr hk'), fun z => by simp at z, ?_⟩
  have := q.small
  rw [List.length_append]
  omega
theorem ins_perm {es : Array (Int × Value)} {p : Nat} {x : Int × Value} : (insertAt es p x).toList.Perm (x :: es.toList) := by
  rw [tl_insertAt]
  refine List.perm_middle.trans ?_
  rw [List.take_append_drop]
/-- the new one is laid at j -/
theorem lay_ok {S a : Addr} {k : List Int} {ks : List (List Int)} {es : Array (Int × Value)} {ep j : Nat} {t : SetTable} {Q : Bool → Shared → Prop} (q : SetQ prog w s.heap S ks es ep t) (hx : Tup prog w s.heap k a) (hlen : ks.length < 70) (he : t.slot j = .empty) (hj : j ≤ t.mask)
    (hone : ∀ k2, (∀ k' ∈ ks ++ [k], k' = k2) → ks = [] ∧ j = bits (hsh prog w k) % 8)
    (h : ∀ h' es' ep' t', Heap.SameBut S s.heap h' → (∀ e ∈ es'.toList, e ∈ es.toList ∨ e.2 = Value.ref a) → SetQ prog w h' S (ks ++ [k]) es' ep' t' → Q true { s with heap := h' }) :
    wpAny (model prog w) A (do
      let (es, _, t) ← setState S
      let (t, p) := t.put j
      let byValue ← if t.plain then hashByValue 8 (.ref a) else pure true
      let t := if byValue then t else { t with plain := false }
      storeSet S (SetTable.insertAt es p (hsh prog w k, .ref a)) t
      if !false && t.tooFull then setRelay S (SetTable.grown (es.size + 1))
      return true) Q E s := by
  have hf := fits_of q.tb q.le
  have hno : j ∉ t.place.toList := by
    rcases q.tb.slot j with ⟨_, z⟩ | ⟨i, z, _⟩
    · exact z
    · rw [he] at z; cases z
  obtain ⟨T1, m1, p1, l1, b1⟩ := q.tb.put hno hj
  refine wpAny_bind (wpAny_setState_of q.get rfl hf ?_)
  dsimp only
  have hpl : (t.put j).1.plain = true := p1.trans q.plain
  rw [if_pos hpl]
  refine wpAny_bind (hashVal hx ?_)
  rw [if_pos rfl]
  have hsz : (SetTable.insertAt es (t.put j).2 (hsh prog w k, Value.ref a)).size = es.size + 1 := by
    have := (ins_perm (es := es) (p := (t.put j).2) (x := (hsh prog w k, Value.ref a))).length_eq
    rw [Array.length_toList, List.length_cons, Array.length_toList] at this
    exact this
  have hsm := q.small
  refine wpAny_bind (wpAny_storeSet_of q.get rfl ?_ (by rw [hsz, sizeLine_eq]; omega))
  generalize eN : SetTable.insertAt es (t.put j).2 (hsh prog w k, Value.ref a) = es1 at hsz
  have hp1 : es1.toList.Perm ((hsh prog w k, Value.ref a) :: es.toList) := by rw [← eN]; exact ins_perm
  have new : ∀ es2 : Array (Int × Value), es2.toList.Perm ((hsh prog w k, Value.ref a) :: es.toList) → ∀ e ∈ es2.toList, e ∈ es.toList ∨ e.2 = Value.ref a := fun es2 hp e he => (List.mem_cons.mp (hp.mem_iff.mp he)).elim (fun z => .inr (by rw [z])) .inl
  generalize eT : (t.put j).1 = t1 at *
  have T1 : Tb t1 es1.size := by rw [hsz]; exact T1
  have g1 := putSet_get (es' := es1) (t' := t1) q.get
  have sb1 := Heap.SameBut.update s.heap S (Obj.putSet es1 t1)
  have fill1 : t1.fill = es1.size := by
    unfold SetTable.fill
    rw [T1.size, T1.nod]
    rfl
  have rm := q.room
  by_cases full : t1.tooFull = true
  · rw [if_pos (by rw [full]; rfl)]
    unfold SetTable.tooFull at full
    rw [decide_eq_true_iff, fill1, m1, hsz] at full
    have hks : ks ≠ [] := fun z => by
      have := q.zero z
      rw [z] at hsm
      simp at hsm
      rw [this, hsm] at full
      simp at full
    have kase : ∃ m2, Mk m2 ∧ SetTable.sizeAbove (SetTable.grown (es.size + 1)) - 1 = m2 ∧ SetTable.sizeAbove (SetTable.grown (es.size + 1)) ≤ 128 ∧ (es.size + 1) * 5 < m2 * 3 := by
      rcases q.msk with e | e | e
      · rw [e] at full rm
        have : es.size = 4 := by omega
        rw [this]
        exact ⟨31, .inr (.inl rfl), by decide, by decide, by decide⟩
      · rw [e] at full rm
        have : es.size = 18 := by omega
        rw [this]
        exact ⟨127, .inr (.inr rfl), by decide, by decide, by decide⟩
      · rw [e] at full rm
        omega
    obtain ⟨m2, hm2, em2, hs2, hr2⟩ := kase
    refine wpAny_bind ?_
    unfold setRelay
    refine wpAny_bind (wpAny_setState_of g1 rfl (fits_of T1 (by rw [m1]; omega)) ?_)
    dsimp only
    rw [if_neg (by rw [sizeLine_eq]; omega)]
    obtain ⟨t2, order, el, T2, mm, ld, pl, po⟩ := laid_ok (mask := m2) (finger := t1.finger) (moves := t1.movedTo m2) (led := t1.led) (plain := t1.plain) (hs := es1.map (·.1)) hm2 (by rw [Array.size_map, hsz]; omega)
    have er : t1.relaid (es1.map (·.1)) (SetTable.grown (es.size + 1)) = some (t2, order) := by
      unfold SetTable.relaid
      rw [em2]
      exact el
    rw [er]
    rw [Array.size_map] at T2 po
    have hp2 : (order.filterMap (es1[·]?)).toList.Perm es1.toList := by
      rw [Array.toList_filterMap]
      refine (po.filterMap _).trans (List.Perm.of_eq ?_)
      exact filterMap_getElem?_range es1
    have hs3 : (order.filterMap (es1[·]?)).size = es1.size := by
      have := hp2.length_eq
      rw [Array.length_toList, Array.length_toList] at this
      exact this
    refine wpAny_bind ?_
    show wpAny _ _ (if ((order.filterMap (es1[·]?)).size != es1.size) = true then _ else _) _ _ _
    rw [if_neg (by rw [hs3]; simp)]
    refine wpAny_pure ?_
    dsimp only
    refine wpAny_storeSet_of g1 rfl (wpAny_pure ?_) (by rw [hs3, hsz, sizeLine_eq]; omega)
    refine h _ _ _ _ (sb1.trans (Heap.SameBut.update _ S _)) (new _ (hp2.trans hp1)) (q.more hx (sb1.trans (Heap.SameBut.update _ S _)) (hp2.trans hp1) (putSet_get g1) (by rw [hs3]; exact T2) (by rw [mm]; exact hm2) (by rw [hs3, hsz, mm]; exact hr2) (ld.trans l1) (pl.trans p1) fun k2 h2 => absurd (hone k2 h2).1 hks)
  · rw [if_neg (by rw [Bool.not_eq_true _ |>.mp full]; decide)]
    unfold SetTable.tooFull at full
    rw [decide_eq_true_iff, fill1, m1, hsz] at full
    refine wpAny_pure (h _ _ _ _ sb1 (new _ hp1) (q.more hx sb1 hp1 g1 T1 (by rw [m1]; exact q.msk) (by rw [hsz, m1]; omega) l1 p1 fun k2 h2 => ?_))
    obtain ⟨z, ej⟩ := hone k2 h2
    subst z
    have ek : k = k2 := h2 k (by simp)
    have e0 := q.nil
    subst e0
    refine ⟨by rw [hsz]; rfl, by rw [m1]; exact q.zero rfl, ?_⟩
    have pn : t.place = #[] := Array.eq_empty_of_size_eq_zero q.tb.size
    rw [← eT, ← ek, ← ej]
    unfold SetTable.put
    dsimp only
    rw [pn]
    rfl
/-- x.add of a tuple -/
theorem add_ok {S a : Addr} {k : List Int} {ks : List (List Int)} {es : Array (Int × Value)} {ep : Nat} {t : SetTable} {Q : Bool → Shared → Prop} (q : SetQ prog w s.heap S ks es ep t) (hx : Tup prog w s.heap k a) (hu : A.units < cLine) (hlen : ks.length < 70)
    (h : ∀ b h' tk es' ep' t', s.toks ≤ tk → Heap.SameBut S s.heap h' → (∀ e ∈ es'.toList, e ∈ es.toList ∨ e.2 = Value.ref a) → SetQ prog w h' S (ks ++ [k]) es' ep' t' → Q b { s with heap := h', toks := tk }) : wpAny (model prog w) A (setAdd S (.ref a)) Q E s := by
  unfold setAdd
  refine wpAny_holding (wpAny_bind (wpAny_pyHash_tuple hu hx ?_))
  unfold setAddHashed
  refine wpAny_holding ?_
  have hf := fits_of q.tb q.le
  have same : ∀ (s' : Shared) (tk : Nat), s' = { s with toks := tk } → SetQ prog w s'.heap S ks es ep t := fun s' tk e => by rw [e]; exact q
  generalize es' : ({ s with toks := s.toks + (k.length + 1) } : Shared) = s1
  have q1 := same s1 _ es'.symm
  have hx1 : Tup prog w s1.heap k a := by rw [← es']; exact hx
  have hend : ∀ b h' es2 ep2 t2, Heap.SameBut S s1.heap h' → (∀ e ∈ es2.toList, e ∈ es.toList ∨ e.2 = Value.ref a) → SetQ prog w h' S (ks ++ [k]) es2 ep2 t2 → Q b { s1 with heap := h' } := fun b h' es2 ep2 t2 sb nw q2 => by
    subst es'
    exact h b h' _ es2 ep2 t2 (Nat.le_add_right _ _) sb nw q2
  clear es' same h hx q
  unfold setAddHashedIn
  refine wpAny_bind (wpAny_setState_of q1.get rfl hf ?_)
  dsimp only
  rw [if_neg (show ¬ byScan (.ref a) es = true from fun z => by unfold byScan Value.scannable at z; simp at z)]
  refine wpAny_bind ?_
  unfold setSearch
  have there : k ∈ ks → wpAny (model prog w) A (pure false) Q E s1 := fun hk => wpAny_pure (by
    have := hend false s1.heap es ep t (Heap.SameBut.refl S s1.heap) (fun e he => .inl he) (q1.again hk)
    exact this)
  by_cases all : ∀ k' ∈ ks, k' = k
  · by_cases hks : ks = []
    · subst hks
      have e0 := q1.nil
      subst e0
      have m7 := q1.zero rfl
      refine search_zero q1.get rfl q1.tb q1.msk.odd (fun se => ?_) 99999
      exact lay_ok q1 hx1 hlen se (Nat.lt_succ_iff.mp (Nat.mod_lt _ (Nat.succ_pos _))) (fun k2 h2 => ⟨rfl, by rw [m7]⟩) fun h' es2 ep2 t2 sb nw q2 => hend true h' es2 ep2 t2 sb nw q2
    · obtain ⟨s1', m7, pl⟩ := q1.one k hks all
      have T1 := q1.tb
      rw [s1'] at T1
      obtain ⟨k0, r, ek⟩ : ∃ k0 r, ks = k0 :: r := by
        cases ks with
        | nil => exact absurd rfl hks
        | cons k0 r => exact ⟨k0, r, rfl⟩
      have hk : k ∈ ks := by
        have : k0 ∈ ks := by rw [ek]; exact List.mem_cons_self
        rw [← all k0 this]; exact this
      obtain ⟨e, he, b, eb, xb⟩ := (q1.keys k).mp hk
      have ee : es = #[e] := by
        match es, s1', he with
        | ⟨[x]⟩, _, he => rw [List.mem_singleton.mp (show e ∈ [x] from he)]
      obtain ⟨k3, b3, e3, x3⟩ := q1.ents.tup e he
      have : b3 = b := by rw [e3] at eb; cases eb; rfl
      subst this
      have : k3 = k := IsTupleKey.inj x3 xb
      subst this
      rw [e3] at ee
      exact search_one q1.get rfl ee T1 m7 pl xb hx1 hu (there hk) 99999
  · obtain ⟨n, hn, en⟩ := q1.tb.ends q1.msk q1.le (hsh prog w k)
    refine search_ok q1.get rfl q1.tb q1.le q1.msk.odd q1.ents hx1 hu (fun he => ?_) (fun j se hj => ?_) n 100000 _ none (by
      have : t.mask ≤ 127 := by rcases q1.msk with z | z | z <;> omega
      unfold turns at hn
      omega) hn rfl (start_in t _) en rfl
    · obtain ⟨e, he, b, eb, xb⟩ := he
      exact there ((q1.keys k).mpr ⟨e, he, b, eb, xb⟩)
    · exact lay_ok q1 hx1 hlen se hj (fun k2 h2 => absurd (fun k' hk' => (h2 k' (List.mem_append_left _ hk')).trans (h2 k (by simp)).symm) all) fun h' es2 ep2 t2 sb nw q2 => hend true h' es2 ep2 t2 sb nw q2
end
end HT

set_option Elab.async false
set_option linter.all false
set_option maxRecDepth 100000
set_option maxHeartbeats 4000000
/-! A set is walked. -/
namespace HT
open PySem PySem.SetTable
theorem si_slot : Slot "set_iterator" "__next__" "set_iterator.__next__" :=
  .of (n := "__next__") (owner := "set_iterator") (by rw [typeLookup_type, builtinLookup_eq_fast]; kernel_rfl) (by decide +kernel) (by decide +kernel) (by decide +kernel) (.inl (by decide +kernel)) (by rw [isSubtype_type]; kernel_rfl)
theorem si_slot2 : Slot "set_iterator" "__iter__" "set_iterator.__iter__" :=
  .of (n := "__iter__") (owner := "set_iterator") (by rw [typeLookup_type, builtinLookup_eq_fast]; kernel_rfl) (by decide +kernel) (by decide +kernel) (by decide +kernel) (.inl (by decide +kernel)) (by rw [isSubtype_type]; kernel_rfl)
theorem si_entry : entryFor table "set_iterator.__next__" = some Builtin.«set_iterator.__next__» := entryFor_of_tree (by kernel_rfl)
theorem si_entry2 : entryFor table "set_iterator.__iter__" = some Builtin.«dict_keyiterator.__iter__» := entryFor_alias (id' := "dict_keyiterator.__iter__") (by kernel_rfl) rfl (by decide +kernel) (by kernel_rfl)
theorem si_owner : Manifest.owners.lookup (String.ofList ['r', 'o', 't', 'a', 'r', 'e', 't', 'i', '_', 't', 'e', 's'].reverse) = some Manifest.sig_set_iterator := by kernel_rfl
theorem si_args (a : Value) : argsOk "set_iterator.__next__" ⟨[a], []⟩ := by
  unfold argsOk
  rw [signature?_of (id := "set_iterator.__next__") (o := ['r', 'o', 't', 'a', 'r', 'e', 't', 'i', '_', 't', 'e', 's']) (n := ['_', '_', 't', 'x', 'e', 'n', '_', '_']) (by kernel_rfl) si_owner]
  kernel_rfl
theorem si_args2 (a : Value) : argsOk "set_iterator.__iter__" ⟨[a], []⟩ := by
  unfold argsOk
  rw [signature?_of (id := "set_iterator.__iter__") (o := ['r', 'o', 't', 'a', 'r', 'e', 't', 'i', '_', 't', 'e', 's']) (n := ['_', '_', 'r', 'e', 't', 'i', '_', '_']) (by kernel_rfl) si_owner]
  kernel_rfl
theorem set_iter_entry : entryFor table "set.__iter__" = some Builtin.«frozenset.__iter__» := entryFor_alias (id' := "frozenset.__iter__") (by kernel_rfl) rfl (by decide +kernel) (by kernel_rfl)
theorem erase_perm {α : Type} : ∀ (l : List α) (i : Nat) (h : i < l.length), (l[i] :: l.eraseIdx i).Perm l
  | a :: l, 0, _ => List.Perm.refl _
  | a :: l, i + 1, h => (List.Perm.swap a _ _).trans ((erase_perm l i (by simpa using h)).cons a)
theorem pickGo_perm {α : Type} (next : Nat → Nat) : ∀ (fuel k : Nat) (left : List α) (out : Array α), left.length ≤ fuel → (pickOrder.go next fuel k left out).toList.Perm (out.toList ++ left)
  | 0, k, left, out, h => by
    have : left = [] := List.length_eq_zero_iff.mp (by omega)
    subst this
    rw [List.append_nil]
    exact List.Perm.refl _
  | fuel + 1, k, left, out, h => by
    unfold pickOrder.go
    cases left with
    | nil => rw [List.append_nil]; exact List.Perm.refl _
    | cons x l =>
      have hi : next k % (x :: l).length < (x :: l).length := Nat.mod_lt _ (by simp)
      rw [List.getElem?_eq_getElem hi]
      dsimp only
      refine (pickGo_perm next fuel (k + 1) _ _ (by rw [List.length_eraseIdx_of_lt hi]; omega)).trans ?_
      rw [Array.toList_push, List.append_assoc]
      refine List.Perm.append_left _ ?_
      exact erase_perm _ _ hi
theorem pick_perm {α : Type} (next : Nat → Nat) (xs : Array α) : (pickOrder next xs).toList.Perm xs.toList := by
  have := pickGo_perm next xs.size 0 xs.toList #[] (by simp)
  simpa [pickOrder] using this
section
variable {prog : Program} {w : World} {A : Around} {E : Value → Shared → Prop} {s : Shared}
abbrev bt (w : World) : Bool := w.params.followText "set-order"
/-- the order in which a walk meets the entries -/
def wOrd (w : World) (S : Addr) (ep : Nat) (es : Array (Int × Value)) : Array (Int × Value) := if bt w = true then pickOrder (w.params.setOrder S ep) es else es
theorem wOrd_perm (w : World) (S : Addr) (ep : Nat) (es : Array (Int × Value)) : (wOrd w S ep es).toList.Perm es.toList := by
  unfold wOrd
  split
  · exact pick_perm _ _
  · exact List.Perm.refl _
theorem wOrd_size (w : World) (S : Addr) (ep : Nat) (es : Array (Int × Value)) : (wOrd w S ep es).size = es.size := by
  have := (wOrd_perm w S ep es).length_eq
  rw [Array.length_toList, Array.length_toList] at this
  exact this
/-- a set at rest -/
structure Rest (w : World) (h : Heap) (S : Addr) (es : Array (Int × Value)) (ep : Nat) (t : SetTable) : Prop where
  get : h.get? S = some { cls := .type "set", dict := none, data := .set es ep t }
  tb : Tb t es.size
  le : es.size ≤ t.mask
  led : t.led = !bt w
  plain : t.plain = true
theorem Rest.stay {h h' : Heap} {S : Addr} {es : Array (Int × Value)} {ep : Nat} {t : SetTable} (r : Rest w h S es ep t) (e : ∀ o, h.get? S = some o → h'.get? S = some o) : Rest w h' S es ep t := ⟨e _ r.get, r.tb, r.le, r.led, r.plain⟩
theorem next_ok {S : Addr} {es : Array (Int × Value)} {ep slot i : Nat} {t : SetTable} {Q : Option (Value × Nat) → Shared → Prop} (r : Rest w s.heap S es ep t) (hb : bt w = false → below t.place slot = i) (hn : (wOrd w S ep es)[i]? = none → Q none s)
    (hs : ∀ e nx, (wOrd w S ep es)[i]? = some e → (bt w = false → below t.place nx = i + 1) → Q (some (e.2, nx)) s) : wpAny (model prog w) A (setNext S slot i ep) Q E s := by
  have hf := fits_of r.tb r.le
  unfold setNext
  refine wpAny_bind (wpAny_setState_of r.get rfl hf ?_)
  dsimp only
  unfold setsByText
  refine wpAny_bind (wpAny_bind (wpAny_askSetting (wpAny_pure ?_)))
  show wpAny _ _ (if bt w = true then _ else _) _ _ _
  by_cases c : bt w = true
  · rw [if_pos c, if_neg (by simp)]
    refine wpAny_bind ?_
    unfold setWalk
    refine wpAny_bind (wpAny_setState_of r.get rfl hf ?_)
    dsimp only
    unfold setsByText
    refine wpAny_bind (wpAny_bind (wpAny_askSetting (wpAny_pure ?_)))
    show wpAny _ _ (if bt w = true then _ else _) _ _ _
    rw [if_pos c]
    refine wpAny_bind (wpAny_askSetting (wpAny_pure (wpAny_pure ?_)))
    have ew : wOrd w S ep es = pickOrder (w.params.setOrder S ep) es := if_pos c
    show Q (((pickOrder (w.params.setOrder S ep) es)[i]?).map fun e => (e.2, slot)) s
    rw [← ew]
    cases eq : (wOrd w S ep es)[i]? with
    | none => exact hn eq
    | some e => exact hs e slot eq fun z => absurd c (by rw [z]; decide)
  · have cf : bt w = false := Bool.not_eq_true _ |>.mp c
    have ew : wOrd w S ep es = es := if_neg c
    rw [ew] at hn hs
    rw [if_neg c]
    show wpAny _ _ (if (!t.plain && decide (es.size > 1)) = true then _ else _) _ _ _
    rw [r.plain, if_neg (by simp)]
    refine wpAny_bind ?_
    show wpAny _ _ (if (!t.led && !es.isEmpty) = true then _ else _) _ _ _
    rw [r.led, cf, if_neg (by simp)]
    refine wpAny_pure (wpAny_pure ?_)
    rw [hb cf]
    cases eq : es[i]? with
    | none => exact hn eq
    | some e =>
      have hi : i < es.size := (Array.getElem?_eq_some_iff.mp eq).1
      have hp : i < t.place.size := by rw [r.tb.size]; exact hi
      have ep' : t.place[i]? = some t.place[i] := Array.getElem?_eq_getElem hp
      rw [ep']
      exact hs e _ eq fun _ => below_next r.tb.rise ep'
/-- the iterator of the set at S, behind the i-th -/
def SIt (w : World) (h : Heap) (I S : Addr) (i : Nat) (es : Array (Int × Value)) (ep : Nat) (t : SetTable) : Prop :=
  ∃ slot : Nat, h.get? I = some { cls := .type "set_iterator", data := .fields #[.int slot 0, .int i 0, .ref S, .int es.size 0, .int ep 0] } ∧ (bt w = false → below t.place slot = i)
theorem SIt.ty {I S : Addr} {i ep : Nat} {es : Array (Int × Value)} {t : SetTable} (x : SIt w s.heap I S i es ep t) : s.TypeIs (.ref I) "set_iterator" := let ⟨_, ho, _⟩ := x; ⟨_, ho, rfl⟩
theorem iter_ok {S : Addr} {es : Array (Int × Value)} {ep : Nat} {t : SetTable} {Q : Value → Shared → Prop} (r : Rest w s.heap S es ep t)
    (h : Q (.ref s.heap.objs.size) { s with heap := s.heap.push { cls := .type "set_iterator", data := .fields #[.int 0 0, .int 0 0, .ref S, .int es.size 0, .int ep 0] } }) : wpAny (model prog w) A (pyIter (.ref S)) Q E s := by
  have hT : s.TypeIs (.ref S) "set" := ⟨_, r.get, rfl⟩
  have hf := fits_of r.tb r.le
  refine wpAny_pyIter_slot hT F.slot_set_iter (wpAny_call_entry F.slot_set_iter hT set_iter_entry ?_ (F.args_set_iter_1 _))
  unfold Builtin.«frozenset.__iter__»
  refine wpAny_bind (m := Builtin.Frozenset.slot0 "__iter__" ⟨[.ref S], []⟩) (wpAny_pure ?_)
  unfold Builtin.Frozenset.sizeOf
  refine wpAny_bind (wpAny_bind (wpAny_setEntries_of r.get rfl hf (wpAny_pure ?_)))
  unfold setDrawn
  refine wpAny_bind (wpAny_bind (wpAny_setState_of r.get rfl hf ?_))
  dsimp only
  unfold setsByText
  refine wpAny_bind (wpAny_bind (wpAny_askSetting (wpAny_pure ?_)))
  refine wpAny_pure ?_
  show wpAny _ _ (if (!bt w && (!t.plain && decide (es.size > 1))) = true then _ else _) _ _ _
  rw [r.plain, if_neg (by simp)]
  refine wpAny_bind (wpAny_pure ?_)
  refine wpAny_bind (wpAny_setEpoch_of r.get rfl hf ?_)
  unfold newFields
  exact wpAny_bind (wpAny_newObj_type (wpAny_pure ⟨_, rfl, "set_iterator", _, ⟨_, Heap.get?_push_size _ rfl, rfl⟩, si_slot.lookup, h⟩))
theorem step_ok {I S : Addr} {i ep : Nat} {es : Array (Int × Value)} {t : SetTable} {Q : Option Value → Shared → Prop} (hne : S ≠ I) (x : SIt w s.heap I S i es ep t) (r : Rest w s.heap S es ep t) {e : Int × Value} (he : (wOrd w S ep es)[i]? = some e)
    (h : ∀ h', SIt w h' I S (i + 1) es ep t → Heap.SameBut I s.heap h' → Q (some e.2) { s with heap := h' }) : wpAny (model prog w) A (pyNext (.ref I)) Q E s := by
  have hT := x.ty
  obtain ⟨slot, ho, hb⟩ := x
  have hf := fits_of r.tb r.le
  unfold pyNext
  refine wpAny_bind (wpAny_attempt (wpAny_callSpecial?_slot (name := Str.ofString "__next__") hT si_slot (wpAny_call_entry si_slot hT si_entry ?_ (si_args _))))
  unfold Builtin.«set_iterator.__next__»
  refine wpAny_bind (m := slotArgs "__next__" 0 ⟨[.ref I], []⟩) (wpAny_pure ?_)
  refine wpAny_bind (wpAny_fieldsOf ho rfl ?_)
  show wpAny _ _ (setEntries S >>= _) _ _ s
  refine wpAny_bind (wpAny_setEntries_of r.get rfl hf ?_)
  rw [if_neg (by simp)]
  refine wpAny_bind (next_ok (slot := slot) (i := i) (ep := ep) r hb (fun z => by rw [he] at z; cases z) fun e' nx he' hb' => ?_)
  rw [he] at he'
  cases he'
  dsimp only
  refine wpAny_bind (wpAny_setField ho rfl (by simp) ?_)
  have g1 : (s.heap.update I (Obj.mapFields (·.setIfInBounds 0 (rawInt nx)))).get? I = some { cls := .type "set_iterator", data := .fields #[.int nx 0, .int i 0, .ref S, .int es.size 0, .int ep 0] } := Heap.get?_update_self _ ho rfl
  refine wpAny_bind (wpAny_setField g1 rfl (by simp) ?_)
  have g2 : ((s.heap.update I (Obj.mapFields (·.setIfInBounds 0 (rawInt nx)))).update I (Obj.mapFields (·.setIfInBounds 1 (rawInt ((i : Int) + 1))))).get? I = some { cls := .type "set_iterator", data := .fields #[.int nx 0, .int ((i + 1 : Nat) : Int) 0, .ref S, .int es.size 0, .int ep 0] } := Heap.get?_update_self _ g1 rfl
  exact wpAny_pure ⟨_, rfl, wpAny_pure (h _ ⟨nx, g2, hb'⟩ ((Heap.SameBut.update _ I _).trans (Heap.SameBut.update _ I _)))⟩
theorem stop_ok {I S : Addr} {i ep : Nat} {es : Array (Int × Value)} {t : SetTable} {Q : Option Value → Shared → Prop} (hh : A.handled = none) (x : SIt w s.heap I S i es ep t) (r : Rest w s.heap S es ep t) (he : (wOrd w S ep es)[i]? = none)
    (h : ∀ h', Heap.ExtBut I s.heap h' → Q none { s with heap := h' }) : wpAny (model prog w) A (pyNext (.ref I)) Q E s := by
  have hT := x.ty
  obtain ⟨slot, ho, hb⟩ := x
  have hf := fits_of r.tb r.le
  unfold pyNext
  refine wpAny_bind (wpAny_attempt (wpAny_callSpecial?_slot (name := Str.ofString "__next__") hT si_slot (wpAny_call_entry si_slot hT si_entry ?_ (si_args _))))
  unfold Builtin.«set_iterator.__next__»
  refine wpAny_bind (m := slotArgs "__next__" 0 ⟨[.ref I], []⟩) (wpAny_pure ?_)
  refine wpAny_bind (wpAny_fieldsOf ho rfl ?_)
  show wpAny _ _ (setEntries S >>= _) _ _ s
  refine wpAny_bind (wpAny_setEntries_of r.get rfl hf ?_)
  rw [if_neg (by simp)]
  refine wpAny_bind (next_ok (slot := slot) (i := i) (ep := ep) r hb (fun z => ?_) fun e' nx he' hb' => by rw [he] at he'; cases he')
  dsimp only
  refine wpAny_bind (wpAny_setField ho rfl (by simp) ?_)
  refine wpAny_bind (m := newExc (.type "StopIteration") []) ?_
  simp only [newExc, newTuple]
  refine wpAny_bind (wpAny_newObj_type (wpAny_bind (m := firstArgMember _ _) (wpAny_of_eq (a := Value.none) (by simp only [firstArgMember]; rfl) (wpAny_newObj_type ?_ (by size_fits)))) (by size_fits))
  simp only [raiseNew]
  have hn : A.in1.handled = none := hh
  refine wpAny_bind (wpAny_handled (E := _) ?_)
  rw [hn]
  refine wpAny_bind (m := pure _) (wpAny_pure (wpAny_throw ?_))
  exact wpAny_bind (wpAny_isInstance (b := true) (T := "StopIteration") ⟨_, Heap.get?_push_size _ rfl, rfl⟩ isSubtype_stop (wpAny_pure (h _ (((Heap.SameBut.update _ I _).extBut.push _).push _))))
theorem walks_set (hh : A.handled = none) (I S : Addr) (hne : S ≠ I) (es : Array (Int × Value)) (ep : Nat) (t : SetTable) :
    Walks prog w A I [I, S] [I] es.size (fun i v => ∃ e, (wOrd w S ep es)[i]? = some e ∧ v = e.2) (fun i h => SIt w h I S i es ep t ∧ Rest w h S es ep t) where
  sub := fun b hb => by simp at hb; simp [hb]
  frame := fun i h h' st hk => ⟨let ⟨sl, ho, hb⟩ := st.1; ⟨sl, hk I (by simp) _ ho, hb⟩, st.2.stay fun o e => hk S (by simp) o e⟩
  item := fun i s Q E hi st hQ => by
    have hi' : i < (wOrd w S ep es).size := by rw [wOrd_size]; exact hi
    refine step_ok hne st.1 st.2 (e := (wOrd w S ep es)[i]) (Array.getElem?_eq_getElem hi') fun h' st' sb => ?_
    exact hQ _ h' s.toks ⟨_, Array.getElem?_eq_getElem hi', rfl⟩ ⟨st', st.2.stay fun o e => (sb.2 S hne).trans e⟩ fun b o hb e => (sb.2 b (fun z => hb (by simp [z]))).trans e
  done := fun s Q E st hQ => stop_ok hh st.1 st.2 (Array.getElem?_eq_none (by rw [wOrd_size]; exact Nat.le_refl _)) fun h' he' => hQ h' s.toks fun b o hb e => he' b o (fun z => hb (by simp [z])) e
  self := fun i s Q E st hQ => by
    refine wpAny_pyIter_slot st.1.ty si_slot2 (wpAny_call_entry si_slot2 st.1.ty si_entry2 ?_ (si_args2 _))
    show wpAny _ _ (ret (.ref I)) _ _ _
    exact wpAny_pure ⟨_, rfl, "set_iterator", _, st.1.ty, si_slot.lookup, hQ⟩
open PySem.W PyProof.Rows in
theorem hint_set {S : Addr} {Q : Bool → Shared → Prop} (hT : s.TypeIs (.ref S) "set") (h : Q false s) : wpAny (model prog w) A (Builtin.List.listLengthHint (.ref S)) Q E s := by
  unfold Builtin.List.listLengthHint
  refine wpAny_bind (wpAny_specialOf hT F.slot_set_len.lookup ?_)
  generalize hid : ("set.__len__" : String) = id0
  wp_delta
  rw [show splitId id0 = some ("set", "__len__") from by subst hid; decide +kernel]
  subst hid
  refine wpAny_bind (wpAny_isInstance (b := true) (T := "set") hT (by rw [isSubtype_type]; kernel_rfl) ?_)
  refine wpAny_ite_split (fun hab => absurd hab (by decide)) fun _ => ?_
  refine wpAny_ite_split (fun _ => ?_) fun hab => absurd (by decide +kernel) hab
  exact wpAny_bind (wpAny_typeOf hT (wpAny_pure h))
open PySem.W in
theorem src_set {S : Addr} {es : Array (Int × Value)} {ep : Nat} {t : SetTable} : KdlSrc prog w "set" S S es.size (fun i v => ∃ e, (wOrd w S ep es)[i]? = some e ∧ v = e.2) (fun h => Rest w h S es ep t) where
  type := fun _ r => ⟨_, r.get, rfl⟩
  there := fun _ r => ⟨Heap.lt_size r.get, Heap.lt_size r.get⟩
  keep := fun _ _ r hk => r.stay fun o e => hk S (.inl rfl) o e
  notList := by decide
  notTuple := by decide
  hint := fun _ _ _ _ r hq => hint_set ⟨_, r.get, rfl⟩ hq
  iter := fun _ s hh r => ⟨_, _, (fun _ _ hq => iter_ok r hq), walks_set hh _ S (Nat.ne_of_lt (Heap.lt_size r.get)) es ep t,
    ⟨⟨0, Heap.get?_push_size _ rfl, fun _ => below_zero r.tb.rise⟩, r.stay fun o e => Heap.get?_push_of_some _ e⟩⟩
end
end HT

set_option Elab.async false
set_option linter.all false
set_option maxRecDepth 100000
set_option maxHeartbeats 4000000
/-! set(l) of a list of tuples of whole numbers. -/
namespace HT
open PySem PySem.SetTable PySem.Spec
section
variable {prog : Program} {w : World} {A : Around} {E : Value → Shared → Prop} {s : Shared}
theorem SetQ.stay {h h' : Heap} {S : Addr} {ks : List (List Int)} {es : Array (Int × Value)} {ep : Nat} {t : SetTable} (q : SetQ prog w h S ks es ep t) (hS : ∀ o, h.get? S = some o → h'.get? S = some o) (ht : ∀ k a, (hsh prog w k, Value.ref a) ∈ es.toList → Tup prog w h k a → Tup prog w h' k a) : SetQ prog w h' S ks es ep t := by
  have up : ∀ e ∈ es.toList, ∃ k a, e = (hsh prog w k, Value.ref a) ∧ Tup prog w h k a ∧ Tup prog w h' k a := fun e he => by
    obtain ⟨k, a, ee, x⟩ := q.ents.tup e he
    exact ⟨k, a, ee, x, ht k a (ee ▸ he) x⟩
  refine ⟨hS _ q.get, q.tb, q.msk, q.room, q.led, q.plain, ⟨fun e he => ?_⟩, fun k => (q.keys k).trans ⟨?_, ?_⟩, q.one, q.zero, q.small⟩
  · obtain ⟨k, a, ee, _, x⟩ := up e he
    exact ⟨k, a, ee, x⟩
  · rintro ⟨e, he, a, ea, x⟩
    obtain ⟨k2, a2, ee, x2, y2⟩ := up e he
    rw [ee] at ea
    cases ea
    rw [IsTupleKey.inj x x2]
    exact ⟨e, he, _, by rw [ee], y2⟩
  · rintro ⟨e, he, a, ea, x⟩
    obtain ⟨k2, a2, ee, x2, y2⟩ := up e he
    rw [ee] at ea
    cases ea
    rw [IsTupleKey.inj x y2]
    exact ⟨e, he, _, by rw [ee], x2⟩
theorem new_code (a : Value) {Q₁ : Value → Shared → Prop} (h : Q₁ (.ref s.heap.objs.size) { s with heap := s.heap.push { cls := .type "set", dict := none, data := .set #[] 0 (.fresh 0 0 (!bt w)) } }) :
    codeAny (model prog w) A (.call (.builtin "set.__new__") ⟨[.type "set", a], []⟩) (wants Q₁ E) s := by
  refine codeAny_of_tree (show wpAny _ A.in1 (do checkBuiltinCall "set.__new__" ⟨[.type "set", a], []⟩; again (.builtin "set.__new__" ⟨[.type "set", a], []⟩)) _ _ s from ?_)
  refine wpAny_bind (wpAny_of_eq (F.newCall_set_1 a) (wpAny_pure ⟨plainId_quiet F.plain_set_new _, codeAny_builtin (by exact F.entry_set_new) ?_⟩))
  rw [Around.under_plainId (by exact F.plain_set_new) _]
  unfold Builtin.«set.__new__» Builtin.Frozenset.newClass
  have hsub := sub_set_self
  obtain ⟨hp, gs, dr, tk, os⟩ := s
  dsimp only
  wp_walk
  refine wpAny_askSetting (Q := _) (wpAny_pure ?_)
  dsimp only
  simp only [newObj]
  exact wpAny_bind (wpAny_alloc (wpAny_pure (wpAny_pure h)))
section
variable {R : Result → Shared → Prop} {I : Addr} {fp wr : List Addr} {G : Array GenState → Array GenState → Prop} {n : Nat} {P : Nat → Value → Prop} {St : Nat → Shared → Prop}
theorem loop_ok (W : WalksS prog w A.in1 I fp wr G n P St) (S : Addr) (hSf : S ∉ fp) (key : Nat → List Int) (hn : n < 70) (hu : A.units + 1 < cLine) (Gd : Addr → Prop) (hG : ∀ a, Gd a → a ∉ wr) :
    ∀ (m i : Nat) (s : Shared) (es : Array (Int × Value)) (ep : Nat) (t : SetTable), n - i = m → i ≤ n → St i s → (∀ j v, P j v → ∃ a, v = .ref a ∧ Gd a ∧ Tup prog w s.heap (key j) a) → (∀ e ∈ es.toList, ∀ a, e.2 = Value.ref a → Gd a) → SetQ prog w s.heap S ((List.range i).map key) es ep t →
      (∀ s' es' ep' t', Moved (S :: wr) G s s' → (∀ e ∈ es'.toList, ∀ a, e.2 = Value.ref a → Gd a) → SetQ prog w s'.heap S ((List.range n).map key) es' ep' t' → R (.ok (.ret .none)) s') →
      codeAny (model prog w) A (.builtin "set.update.loop" ⟨[.ref S, .ref I], []⟩) R s := by
  have hSw : S ∉ wr := fun h => hSf (W.sub _ h)
  intro m
  induction m with
  | zero =>
    intro i s es ep t hm hi hst hK hA q hR
    obtain rfl : i = n := by omega
    refine codeAny_builtin PyProof.Rows.F.entry_set_update_loop ?_
    rw [Around.under_plainId PyProof.Rows.F.plain_set_update_loop _]
    show wpAny _ A.in1 (pyNext (.ref I) >>= _) _ _ s
    refine wpAny_bind (W.done s _ _ hst fun s' mv => wpAny_pure (hR s' es ep t (mv.mono fun b hb => List.mem_cons_of_mem _ hb) hA ?_))
    refine q.stay (fun o e => mv.heap S o hSw e) fun k a ha x => x.stay fun o e => mv.heap a o (hG _ (hA _ ha a rfl)) e
  | succ m ih =>
    intro i s es ep t hm hi hst hK hA q hR
    have hlt : i < n := by omega
    refine codeAny_builtin PyProof.Rows.F.entry_set_update_loop ?_
    rw [Around.under_plainId PyProof.Rows.F.plain_set_update_loop _]
    show wpAny _ A.in1 (pyNext (.ref I) >>= _) _ _ s
    refine wpAny_bind (W.item i s _ _ hlt hst fun v s' hP hst' mv => ?_)
    obtain ⟨a, rfl, haw, xa⟩ := hK i v hP
    have q' : SetQ prog w s'.heap S ((List.range i).map key) es ep t := q.stay (fun o e => mv.heap S o hSw e) fun k b hb x => x.stay fun o e => mv.heap b o (hG _ (hA _ hb b rfl)) e
    have xa' : Tup prog w s'.heap (key i) a := xa.stay fun o e => mv.heap a o (hG _ haw) e
    show wpAny _ A.in1 (holding [Value.ref a] (setAdd S (.ref a)) >>= _) _ _ s'
    refine wpAny_bind (wpAny_holding (add_ok q' xa' hu (by rw [List.length_map, List.length_range]; omega) fun b h' tk es' ep' t' htk sb nw q2 => ?_))
    have er : (List.range i).map key ++ [key i] = (List.range (i + 1)).map key := by rw [List.range_succ, List.map_append]; rfl
    rw [er] at q2
    have mv2 : Moved (S :: wr) G s { s' with heap := h', toks := tk } :=
      ⟨fun c o hc e => (sb.2 c (fun z => hc (by rw [z]; exact List.mem_cons_self))).trans (mv.heap c o (fun z => hc (List.mem_cons_of_mem _ z)) e), mv.gens, mv.drawn, mv.os, Nat.le_trans mv.toks htk⟩
    refine wpAny_pure ⟨plainId_quiet PyProof.Rows.F.plain_set_update_loop _, ih (i + 1) _ es' ep' t' (by omega) hlt (W.frame _ s' _ _ hst' htk fun c hc o e => (sb.2 c (fun z => hSf (by rw [← z]; exact hc))).trans e) (fun j v hv => ?_) (fun e he c ec => ?_) q2 fun s2 es2 ep2 t2 m2 nA q3 => hR s2 es2 ep2 t2 (Moved.trans W.gtrans mv2 m2) nA q3⟩
    · obtain ⟨c, ec, hcw, xc⟩ := hK j v hv
      exact ⟨c, ec, hcw, tupS q'.get sb (xc.stay fun o e => mv.heap c o (hG _ hcw) e)⟩
    · rcases nw e he with z | z
      · exact hA e z c ec
      · rw [z] at ec
        cases ec
        exact haw
end
open PySem.W in
/-- set(l), all of its items tuples -/
theorem call_set_tup {l : Addr} {items : Array Value} {key : Nat → List Int} {Q : Value → Shared → Prop} (hh : A.handled = none) (hu : A.units + 4 < cLine) (hl : s.heap.IsList l items) (hn : items.size < 70)
    (hK : ∀ j v, items[j]? = some v → ∃ a, v = .ref a ∧ Tup prog w s.heap (key j) a)
    (h : ∀ h' tk es ep t, (∀ b o, s.heap.get? b = some o → h'.get? b = some o) → (∀ e ∈ es.toList, ∀ a, e.2 = Value.ref a → ∃ j : Nat, items[j]? = some (Value.ref a)) → SetQ prog w h' s.heap.objs.size ((List.range items.size).map key) es ep t → Q (.ref s.heap.objs.size) { s with heap := h', toks := tk }) :
    wpAny (model prog w) A (call (.type "set") [.ref l]) Q E s := by
  obtain ⟨c, tl, hmro⟩ := F.called_set.mro; have hmade := F.called_set.made; have hsub := F.called_set.sub
  refine wpAny_call (codeAny_of_tree (show wpAny _ _ (callAny (.type "set") _) _ _ _ from ?_))
  refine wpAny_pure ⟨Code.quiet_builtin _ (by decide +kernel), codeAny_builtin (w := w) F.entry_type_call ?_⟩
  rw [Around.under_plain (weight_type_call_type "set" [.ref l] []) (by rfl)]
  have h1 := F.called_set.notType; have h2 := F.called_set.canCreate; have hct := F.typeCall_set_1 (.ref l)
  repeat (any_goals (first | assumption | wp_step))
  refine codeAny_mono (new_code (.ref l) (E := E) (Q₁ := fun obj s₁ => obj = .ref s.heap.objs.size ∧ s₁ = { s with heap := s.heap.push { cls := .type "set", dict := none, data := .set #[] 0 (.fresh 0 0 (!bt w)) } }) ⟨rfl, rfl⟩) fun r s₁ hr => ?_
  have hS : (s.heap.push { cls := .type "set", dict := none, data := .set #[] 0 (.fresh 0 0 (!bt w)) }).get? s.heap.objs.size = some { cls := .type "set", dict := none, data := .set #[] 0 (.fresh 0 0 (!bt w)) } := Heap.get?_push_size _ rfl
  cases r with
  | error e => exact hr
  | ok fl =>
    cases fl with
    | ret obj =>
      obtain ⟨rfl, rfl⟩ := hr
      have hT : Shared.TypeIs { s with heap := s.heap.push { cls := .type "set", dict := none, data := .set #[] 0 (.fresh 0 0 (!bt w)) } } (.ref s.heap.objs.size) "set" := ⟨_, hS, rfl⟩
      have hli := F.called_set.init.lookup; have hbi := F.called_set.init.bind (.ref s.heap.objs.size)
      repeat (any_goals (first | assumption | wp_step))
      refine codeAny_mono (codeAny_call_builtin (R := wants (fun r s₂ => r = .none ∧ ∃ h' tk es ep t, s₂ = { s with heap := h', toks := tk } ∧ (∀ b o, s.heap.get? b = some o → h'.get? b = some o) ∧ (∀ e ∈ es.toList, ∀ a, e.2 = Value.ref a → ∃ j : Nat, items[j]? = some (Value.ref a)) ∧ SetQ prog w h' s.heap.objs.size ((List.range items.size).map key) es ep t) E) F.called_set.init.plain F.entry_set_init (check_set_init_1 hT ?_)) fun r₂ s₂ hr₂ => ?_
      · obtain ⟨ol, hol, hcl, nl, hdl⟩ := hl
        obtain ⟨oc, od, odt, osl⟩ := ol
        simp only at hcl hdl
        subst hcl hdl
        have hol' : (s.heap.push { cls := .type "set", dict := none, data := .set #[] 0 (.fresh 0 0 (!bt w)) }).get? l = some { cls := .type "list", dict := od, data := .seq items nl, slots := osl } := Heap.get?_push_of_some _ hol
        have hsls := F.sub_list_set; have hslf := F.sub_list_frozenset
        have hne : (Value.type "list" == Value.type "dict") = false := by decide
        have hl1 : (s.heap.push { cls := .type "set", dict := none, data := .set #[] 0 (.fresh 0 0 (!bt w)) }).IsList l items := ⟨_, hol', rfl, nl, rfl⟩
        unfold Builtin.«set.__init__» noKeywords Builtin.Frozenset.updateFrom
        generalize hPI : pyIter = PI
        wp_walk
        subst hPI
        refine wpAny_pyIter_list hl1 (wpAny_bind (wpAny_runValue ?_))
        have hlS : l < s.heap.objs.size := Heap.lt_size hol
        have zp : (s.heap.push { cls := .type "set", dict := none, data := .set #[] 0 (.fresh 0 0 (!bt w)) }).objs.size = s.heap.objs.size + 1 := Heap.size_push ..
        refine loop_ok ((Walks.list (A := A.in1.in1.in1) hh _ l (by rw [zp]; exact Nat.ne_of_lt (Nat.lt_succ_of_lt hlS)) items).toS) s.heap.objs.size ?hSf key hn (by show A.units + 1 + 1 + 1 < cLine; omega) (fun a => ∃ j : Nat, items[j]? = some (Value.ref a)) ?hG (items.size - 0) 0 _ #[] 0 (.fresh 0 0 (!bt w)) (by omega) (Nat.zero_le _) ⟨⟨_, Heap.get?_push_size _ rfl, rfl, rfl⟩, hl1.push _⟩ ?hK ?hA ?hQ ?hR
        case hSf =>
          rw [zp]
          intro z
          rcases List.mem_cons.mp z with z | z
          · exact absurd z (Nat.ne_of_lt (Nat.lt_succ_self _))
          · exact absurd (List.mem_singleton.mp z) (Nat.ne_of_gt hlS)
        case hK =>
          intro j v hv
          obtain ⟨a, ea, xa⟩ := hK j v hv
          exact ⟨a, ea, ⟨j, ea ▸ hv⟩, xa.stay fun o e => Heap.get?_push_of_some _ (Heap.get?_push_of_some _ e)⟩
        case hG =>
          intro a hj z
          obtain ⟨j, hv⟩ := hj
          obtain ⟨a', ea, xa⟩ := hK j _ hv
          cases ea
          obtain ⟨oa, _, _, ha, _⟩ := xa
          have := Heap.lt_size ha
          rw [List.mem_singleton.mp z, zp] at this
          exact absurd this (Nat.not_lt.mpr (Nat.le_succ _))
        case hA => intro e he; exact nomatch he
        case hQ =>
          refine ⟨Heap.get?_push_of_some _ hS, ⟨rfl, List.Pairwise.nil, fun j hj => (nomatch hj), rfl⟩, .inl rfl, (by show 0 * 5 < 7 * 3; decide), rfl, rfl, ⟨fun e he => (nomatch he)⟩, fun k => ⟨fun z => (nomatch z), fun z => by obtain ⟨e, he, _⟩ := z; exact nomatch he⟩, fun k z => absurd rfl z, fun _ => rfl, Nat.zero_le _⟩
        case hR =>
          intro s' es' ep' t' mv nA q
          obtain ⟨h', g', d', tk', os'⟩ := s'
          have eg : g' = s.gens := mv.gens
          have ed : d' = s.drawn := mv.drawn
          have eo : os' = s.os := mv.os
          subst eg ed eo
          show wpAny _ _ _ _ _ _
          refine wpAny_pure (wpAny_pure ⟨rfl, h', tk', es', ep', t', rfl, fun b o e => mv.heap b o (fun z => ?_) (Heap.get?_push_of_some _ (Heap.get?_push_of_some _ e)), nA, q⟩)
          have hb := Heap.lt_size e
          rcases List.mem_cons.mp z with z | z
          · rw [z] at hb; exact absurd hb (Nat.lt_irrefl _)
          · rw [List.mem_singleton.mp z, zp] at hb
            exact absurd hb (Nat.not_lt.mpr (Nat.le_succ _))
      · cases r₂ with
        | error e => exact hr₂
        | ok fl =>
          cases fl with
          | ret v =>
            obtain ⟨rfl, h', tk, es, ep, t, rfl, hk, nA, q⟩ := hr₂
            repeat (any_goals (first | assumption | wp_step))
            exact h h' tk es ep t hk nA q
          | _ => exact hr₂.elim
    | _ => exact hr.elim
end
end HT

set_option Elab.async false
set_option linter.all false
set_option maxRecDepth 100000
set_option maxHeartbeats 4000000
/-! The sort's questions and answers: what comes out is sorted. -/
namespace HT
open PySem PySem.W PyProof.Rows
def lt2 (p q : Int × Int) : Prop := p.1 < q.1 ∨ (p.1 = q.1 ∧ p.2 < q.2)
instance (p q : Int × Int) : Decidable (lt2 p q) := inferInstanceAs (Decidable (_ ∨ _))
def le2 (p q : Int × Int) : Prop := ¬ lt2 q p
theorem le2_refl (p : Int × Int) : le2 p p := by unfold le2 lt2; omega
theorem le2_trans {p q r : Int × Int} (h1 : le2 p q) (h2 : le2 q r) : le2 p r := by unfold le2 lt2 at *; omega
theorem lt2_le {p q : Int × Int} (h : lt2 p q) : le2 p q := by unfold le2 lt2 at *; omega
theorem le2_anti {p q : Int × Int} (h1 : le2 p q) (h2 : le2 q p) : p = q := by
  unfold le2 lt2 at *
  exact Prod.ext (by omega) (by omega)
/-- the questions answered by lt, all of them about items below n -/
def Ok (n : Nat) (lt : Nat → Nat → Bool) {α : Type} : KasT α → (α → Prop) → Prop
  | .ret a, Q => Q a
  | .ask i j k, Q => i < n ∧ j < n ∧ Ok n lt (k (lt i j)) Q
theorem Ok.bind {n : Nat} {lt : Nat → Nat → Bool} {α β : Type} {f : α → KasT β} {Q : β → Prop} : ∀ (t : KasT α), Ok n lt t (fun a => Ok n lt (f a) Q) → Ok n lt (t.bind f) Q
  | .ret _, h => h
  | .ask i j k, h => ⟨h.1, h.2.1, Ok.bind (k (lt i j)) h.2.2⟩
theorem Ok.mono {n : Nat} {lt : Nat → Nat → Bool} {α : Type} {Q Q' : α → Prop} (hq : ∀ a, Q a → Q' a) : ∀ (t : KasT α), Ok n lt t Q → Ok n lt t Q'
  | .ret a, h => hq a h
  | .ask i j k, h => ⟨h.1, h.2.1, Ok.mono hq (k (lt i j)) h.2.2⟩
theorem Ok.wp {n : Nat} {lt : Nat → Nat → Bool} {α : Type} {cmp : Nat → Nat → (Bool → Shared → Prop) → Shared → Prop} {s : Shared} (hc : ∀ i j C, i < n → j < n → C (lt i j) s → cmp i j C s) {Q : α → Shared → Prop} : ∀ (t : KasT α), Ok n lt t (fun a => Q a s) → t.kasWp cmp Q s
  | .ret _, h => h
  | .ask i j k, h => hc i j _ h.1 h.2.1 (Ok.wp hc (k (lt i j)) h.2.2)
section
variable {n : Nat} {κ : Nat → Int × Int}
abbrev ltK (κ : Nat → Int × Int) (i j : Nat) : Bool := decide (lt2 (κ i) (κ j))
def Kp (κ : Nat → Int × Int) (p : Array Nat) (i : Nat) : Int × Int := κ (p.getD i 0)
structure PR (n : Nat) (p : Array Nat) : Prop where
  size : p.size = n
  perm : p.toList.Perm (List.range n)
theorem PR.lt {p : Array Nat} (h : PR n p) {i : Nat} (hi : i < n) : p.getD i 0 < n := by
  have hi' : i < p.size := by rw [h.size]; exact hi
  have e : p.getD i 0 = p[i] := by simp [Array.getD, hi']
  rw [e]
  exact List.mem_range.mp (h.perm.mem_iff.mp (Array.mem_toList_iff.mpr (Array.getElem_mem hi')))
def Up (κ : Nat → Int × Int) (p : Array Nat) (m : Nat) : Prop := ∀ i j, i ≤ j → j < m → le2 (Kp κ p i) (Kp κ p j)
def Dn (κ : Nat → Int × Int) (p : Array Nat) (m : Nat) : Prop := ∀ i j, i ≤ j → j < m → le2 (Kp κ p j) (Kp κ p i)
theorem Up.one (p : Array Nat) : Up κ p 1 := fun i j h1 h2 => by
  rw [show i = j by omega]
  exact le2_refl _
theorem Up.step {p : Array Nat} {m : Nat} (h : Up κ p m) (hm : 1 ≤ m) (hk : le2 (Kp κ p (m - 1)) (Kp κ p m)) : Up κ p (m + 1) := fun i j h1 h2 => by
  by_cases c : j < m
  · exact h i j h1 c
  · have : j = m := by omega
    subst this
    by_cases d : i = j
    · rw [d]; exact le2_refl _
    · exact le2_trans (h i (j - 1) (by omega) (by omega)) hk
theorem Dn.step {p : Array Nat} {m : Nat} (h : Dn κ p m) (hm : 1 ≤ m) (hk : le2 (Kp κ p m) (Kp κ p (m - 1))) : Dn κ p (m + 1) := fun i j h1 h2 => by
  by_cases c : j < m
  · exact h i j h1 c
  · have : j = m := by omega
    subst this
    by_cases d : i = j
    · rw [d]; exact le2_refl _
    · exact le2_trans hk (h i (j - 1) (by omega) (by omega))
theorem getD_of {p q : Array Nat} {i j : Nat} (h : p[i]? = q[j]?) : p.getD i 0 = q.getD j 0 := by
  rw [Array.getD_eq_getD_getElem?, Array.getD_eq_getD_getElem?, h]
theorem Kp_rev {p : Array Nat} {i j : Nat} (hj : j ≤ p.size) (k : Nat) : Kp κ (kas_rev p i j) k = if i ≤ k ∧ k < j then Kp κ p (i + j - 1 - k) else Kp κ p k := by
  have e := getElem?_mirror_all (i := i) hj k
  unfold Kp kas_rev
  by_cases c : i ≤ k ∧ k < j
  · rw [if_pos c] at e ⊢; rw [getD_of e]
  · rw [if_neg c] at e ⊢; rw [getD_of e]
theorem PR.rev {p : Array Nat} (h : PR n p) (i j : Nat) : PR n (kas_rev p i j) :=
  ⟨(mirror_size _ _ _ _).trans h.size, ((Array.perm_iff_toList_perm.mp (mirror_perm p i j ((j - i) / 2)))).trans h.perm⟩
theorem PR.bub {p : Array Nat} (h : PR n p) (k d : Nat) : PR n (bubble p k d) :=
  ⟨(bubble_size _ _ _).trans h.size, ((Array.perm_iff_toList_perm.mp (bubble_perm p k d))).trans h.perm⟩
theorem asc_ok {p : Array Nat} (hp : PR n p) : ∀ f m, 1 ≤ m → m + f = n → Up κ p m → Ok n (ltK κ) (kas_asc p f m) (fun r => m ≤ r ∧ r ≤ n ∧ Up κ p r ∧ (r = n ∨ lt2 (Kp κ p r) (Kp κ p (r - 1))))
  | 0, m, _, hm, hu => ⟨Nat.le_refl _, by omega, hu, .inl (by omega)⟩
  | f + 1, m, h1, hm, hu => by
    refine ⟨hp.lt (by omega), hp.lt (by omega), ?_⟩
    by_cases c : lt2 (Kp κ p m) (Kp κ p (m - 1))
    · have e : ltK κ (p.getD m 0) (p.getD (m - 1) 0) = true := decide_eq_true c
      rw [e]
      show Ok _ _ (if true = true then _ else _) _
      rw [if_pos rfl]
      exact ⟨Nat.le_refl _, by omega, hu, .inr c⟩
    · have e : ltK κ (p.getD m 0) (p.getD (m - 1) 0) = false := decide_eq_false c
      rw [e]
      show Ok _ _ (if false = true then _ else _) _
      rw [if_neg Bool.false_ne_true]
      refine Ok.mono (fun r hr => ⟨by omega, hr.2⟩) _ (asc_ok hp f (m + 1) (by omega) (by omega) (hu.step h1 c))
/-- a falling run, its last q + 1 alike -/
structure Fall (κ : Nat → Int × Int) (n : Nat) (p : Array Nat) (m q : Nat) : Prop where
  pr : PR n p
  one : 1 ≤ m
  le : m ≤ n
  qm : q + 1 ≤ m
  dn : Dn κ p m
  eq : ∀ t, t ≤ q → Kp κ p (m - 1 - t) = Kp κ p (m - 1)
theorem Fall.same {p : Array Nat} {m q : Nat} (h : Fall κ n p m q) (k : Nat) : Kp κ (kas_rev p (m - (q + 1)) m) k = Kp κ p k := by
  have hq := h.qm
  rw [Kp_rev (by rw [h.pr.size]; exact h.le)]
  by_cases c : m - (q + 1) ≤ k ∧ k < m
  · rw [if_pos c]
    have e1 := h.eq (m - 1 - k) (by omega)
    have e2 := h.eq (k - (m - (q + 1))) (by omega)
    rw [show m - 1 - (m - 1 - k) = k by omega] at e1
    rw [show m - 1 - (k - (m - (q + 1))) = m - (q + 1) + m - 1 - k by omega] at e2
    rw [e1, e2]
  · rw [if_neg c]
theorem Fall.turn {p : Array Nat} {m q : Nat} (h : Fall κ n p m q) : Fall κ n (kas_rev p (m - (q + 1)) m) m 0 :=
  ⟨h.pr.rev _ _, h.one, h.le, h.one, fun i j h1 h2 => by rw [h.same, h.same]; exact h.dn i j h1 h2, fun t ht => (by rw [show t = 0 by omega] <;> rfl)⟩
theorem desc_ok : ∀ f p m q, Fall κ n p m q → m + f = n → Ok n (ltK κ) (kas_desc f p m q) (fun r => Fall κ n r.1 r.2.1 r.2.2)
  | 0, p, m, q, h, _ => h
  | f + 1, p, m, q, h, hf => by
    have h1 := h.one
    refine ⟨h.pr.lt (by omega), h.pr.lt (by omega), ?_⟩
    by_cases c : lt2 (Kp κ p m) (Kp κ p (m - 1))
    · have e : ltK κ (p.getD m 0) (p.getD (m - 1) 0) = true := decide_eq_true c
      rw [e]
      show Ok _ _ (if true = true then _ else _) _
      rw [if_pos rfl]
      have go : ∀ p', Fall κ n p' m 0 → (∀ k, Kp κ p' k = Kp κ p k) → Ok n (ltK κ) (kas_desc f p' (m + 1) 0) (fun r => Fall κ n r.1 r.2.1 r.2.2) := fun p' hp' hk =>
        desc_ok f p' (m + 1) 0 ⟨hp'.pr, by omega, by omega, by omega, hp'.dn.step h1 (by rw [hk, hk]; exact lt2_le c), fun t ht => (by rw [show t = 0 by omega] <;> rfl)⟩ (by omega)
      by_cases d : q > 0
      · rw [if_pos d]
        exact go _ h.turn h.same
      · rw [if_neg d]
        have : q = 0 := by omega
        subst this
        exact go p h fun _ => rfl
    · have e : ltK κ (p.getD m 0) (p.getD (m - 1) 0) = false := decide_eq_false c
      rw [e]
      show Ok _ _ (if false = true then _ else _) _
      rw [if_neg Bool.false_ne_true]
      refine ⟨h.pr.lt (by omega), h.pr.lt (by omega), ?_⟩
      by_cases d : lt2 (Kp κ p (m - 1)) (Kp κ p m)
      · have e : ltK κ (p.getD (m - 1) 0) (p.getD m 0) = true := decide_eq_true d
        rw [e]
        show Ok _ _ (if true = true then _ else _) _
        rw [if_pos rfl]
        exact h
      · have e : ltK κ (p.getD (m - 1) 0) (p.getD m 0) = false := decide_eq_false d
        rw [e]
        show Ok _ _ (if false = true then _ else _) _
        rw [if_neg Bool.false_ne_true]
        have eq : Kp κ p m = Kp κ p (m - 1) := le2_anti d c
        have hq := h.qm
        refine desc_ok f p (m + 1) (q + 1) ⟨h.pr, by omega, by omega, by omega, h.dn.step h1 (by rw [eq]; exact le2_refl _), fun t ht => ?_⟩ (by omega)
        rw [Nat.add_sub_cancel]
        by_cases t0 : t = 0
        · rw [t0]; rfl
        · rw [show m - t = m - 1 - (t - 1) by omega, h.eq (t - 1) (by omega), eq]
/-- a rising run at the head -/
structure Head (κ : Nat → Int × Int) (n : Nat) (r : Nat × Array Nat) : Prop where
  pr : PR n r.2
  one : 1 ≤ r.1
  le : r.1 ≤ n
  up : Up κ r.2 r.1
theorem tail_ok {p : Array Nat} {m q : Nat} (h : Fall κ n p m q) : Ok n (ltK κ) (kas_tail3 m n p) (Head κ n) := by
  have h1 := h.one
  have hl := h.le
  unfold kas_tail3
  refine Ok.bind _ (Ok.mono (fun r hr => ?_) _ (asc_ok (h.pr.rev 0 m) (n - m) m h1 (by omega) fun i j a b => ?_))
  · exact ⟨h.pr.rev _ _, by show 1 ≤ r; omega, hr.2.1, hr.2.2.1⟩
  · rw [Kp_rev (by rw [h.pr.size]; exact hl), Kp_rev (by rw [h.pr.size]; exact hl), if_pos (by omega), if_pos (by omega)]
    exact h.dn _ _ (by omega) (by omega)
theorem part_ok {p : Array Nat} {m : Nat} (h : Fall κ n p (m + 1) 0) : Ok n (ltK κ) (kas_descPart m n p) (Head κ n) := by
  have hl := h.le
  unfold kas_descPart
  refine Ok.bind _ (Ok.mono (fun r hr => ?_) _ (desc_ok (n - (m + 1)) p (m + 1) 0 h (by omega)))
  by_cases c : r.2.2 > 0
  · rw [if_pos c]
    exact tail_ok hr.turn
  · rw [if_neg c]
    exact tail_ok hr
theorem count_ok {p : Array Nat} (hp : PR n p) (hn : 1 ≤ n) : Ok n (ltK κ) (kas_count n p) (Head κ n) := by
  unfold kas_count
  refine Ok.bind _ (Ok.mono (fun r hr => ?_) _ (asc_ok hp (n - 1) 1 (Nat.le_refl _) (by omega) (Up.one p)))
  obtain ⟨r1, rn, up, fin⟩ := hr
  by_cases c : r = n
  · rw [if_pos (by rw [c]; exact beq_self_eq_true _)]
    exact ⟨hp, r1, rn, up⟩
  · rw [if_neg (by rw [beq_iff_eq]; exact c)]
    have lt := fin.resolve_left c
    by_cases d : r > 1
    · rw [if_pos d]
      refine ⟨hp.lt (by omega), hp.lt (by omega), ?_⟩
      by_cases e : lt2 (Kp κ p 0) (Kp κ p (r - 1))
      · have e' : ltK κ (p.getD 0 0) (p.getD (r - 1) 0) = true := decide_eq_true e
        rw [e']
        show Ok _ _ (if true = true then _ else _) _
        rw [if_pos rfl]
        exact ⟨hp, r1, rn, up⟩
      · have e' : ltK κ (p.getD 0 0) (p.getD (r - 1) 0) = false := decide_eq_false e
        rw [e']
        show Ok _ _ (if false = true then _ else _) _
        rw [if_neg Bool.false_ne_true]
        have alike : ∀ i, i < r → Kp κ p i = Kp κ p (r - 1) := fun i hi => le2_anti (up i (r - 1) (by omega) (by omega)) (le2_trans e (up 0 i (by omega) hi))
        have sm : ∀ k, Kp κ (kas_rev p 0 r) k = Kp κ p k := fun k => by
          rw [Kp_rev (by rw [hp.size]; exact rn)]
          by_cases z : 0 ≤ k ∧ k < r
          · rw [if_pos z, alike _ (by omega), alike k (by omega)]
          · rw [if_neg z]
        refine part_ok ⟨hp.rev _ _, by omega, by omega, by omega, ?_, fun t ht => (by rw [show t = 0 by omega] <;> rfl)⟩
        refine Dn.step (fun i j a b => ?_) r1 (by rw [sm, sm]; exact lt2_le lt)
        rw [sm, sm, alike i (by omega), alike j b]
        exact le2_refl _
    · rw [if_neg d]
      have : r = 1 := by omega
      subst this
      refine part_ok ⟨hp, by omega, by omega, by omega, ?_, fun t ht => (by rw [show t = 0 by omega] <;> rfl)⟩
      refine Dn.step (fun i j a b => ?_) (Nat.le_refl _) (lt2_le lt)
      rw [show i = j by omega]
      exact le2_refl _
theorem place_ok {p : Array Nat} {k : Nat} (hp : PR n p) (hk : k < n) (up : Up κ p k) : ∀ f l r, r - l ≤ f → l ≤ r → r ≤ k → (∀ i, i < l → le2 (Kp κ p i) (Kp κ p k)) → (∀ i, r ≤ i → i < k → le2 (Kp κ p k) (Kp κ p i)) →
    Ok n (ltK κ) (kas_place p k f l r) (fun l' => l' ≤ k ∧ (∀ i, i < l' → le2 (Kp κ p i) (Kp κ p k)) ∧ ∀ i, l' ≤ i → i < k → le2 (Kp κ p k) (Kp κ p i))
  | 0, l, r, hf, hl, hr, h1, h2 => by
    have : l = r := by omega
    subst this
    exact ⟨hr, h1, h2⟩
  | f + 1, l, r, hf, hl, hr, h1, h2 => by
    unfold kas_place
    by_cases c : l ≥ r
    · rw [if_pos c]
      have : l = r := by omega
      subst this
      exact ⟨hr, h1, h2⟩
    · rw [if_neg c]
      refine ⟨hp.lt hk, hp.lt (by omega), ?_⟩
      by_cases e : lt2 (Kp κ p k) (Kp κ p ((l + r) / 2))
      · have e' : ltK κ (p.getD k 0) (p.getD ((l + r) / 2) 0) = true := decide_eq_true e
        rw [e']
        show Ok _ _ (if true = true then _ else _) _
        rw [if_pos rfl]
        exact place_ok hp hk up f l _ (by omega) (by omega) (by omega) h1 fun i a b => le2_trans (lt2_le e) (up _ i a b)
      · have e' : ltK κ (p.getD k 0) (p.getD ((l + r) / 2) 0) = false := decide_eq_false e
        rw [e']
        show Ok _ _ (if false = true then _ else _) _
        rw [if_neg Bool.false_ne_true]
        exact place_ok hp hk up f _ r (by omega) (by omega) hr (fun i a => le2_trans (up i ((l + r) / 2) (by omega) (by omega)) e) h2
theorem bin_ok : ∀ f p k, PR n p → k + f = n → Up κ p k → Ok n (ltK κ) (kas_bin f p k) (fun p' => PR n p' ∧ Up κ p' n)
  | 0, p, k, hp, hk, up => ⟨hp, by rw [← hk]; exact up⟩
  | f + 1, p, k, hp, hk, up => by
    unfold kas_bin
    refine Ok.bind _ (Ok.mono (fun l hl => ?_) _ (place_ok hp (by omega) up k 0 k (by omega) (Nat.zero_le _) (Nat.le_refl _) (fun i hi => by omega) fun i a b => by omega))
    obtain ⟨lk, lo, hi⟩ := hl
    refine bin_ok f _ (k + 1) (hp.bub _ _) (by omega) ?_
    have kb : ∀ i, Kp κ (bubble p k (k - l)) i = if i = l then Kp κ p k else if l < i ∧ i ≤ k then Kp κ p (i - 1) else Kp κ p i := fun i => by
      have e := getElem?_bubble (xs := p) (src := k) (by rw [hp.size]; omega) (k - l) (by omega) i
      rw [show k - (k - l) = l by omega] at e
      unfold Kp
      by_cases c1 : i = l
      · rw [if_pos c1] at e ⊢; rw [getD_of e]
      · rw [if_neg c1] at e ⊢
        by_cases c2 : l < i ∧ i ≤ k
        · rw [if_pos c2] at e ⊢; rw [getD_of e]
        · rw [if_neg c2] at e ⊢; rw [getD_of e]
    intro i j hij hj
    rw [kb, kb]
    by_cases c1 : i = l
    · rw [if_pos c1]
      by_cases c2 : j = l
      · rw [if_pos c2]; exact le2_refl _
      · rw [if_neg c2, if_pos (by omega)]
        exact hi (j - 1) (by omega) (by omega)
    · rw [if_neg c1]
      by_cases c3 : l < i ∧ i ≤ k
      · rw [if_pos c3, if_neg (by omega), if_pos (by omega)]
        exact up _ _ (by omega) (by omega)
      · rw [if_neg c3]
        by_cases c2 : j = l
        · rw [if_pos c2]
          exact lo i (by omega)
        · rw [if_neg c2]
          by_cases c4 : l < j ∧ j ≤ k
          · rw [if_pos c4]
            exact up _ _ (by omega) (by omega)
          · rw [if_neg c4]
            exact up _ _ hij (by omega)
theorem sort_ok (hn : 1 ≤ n) : Ok n (ltK κ) (kas_sort n) (fun p => PR n p ∧ Up κ p n) := by
  unfold kas_sort
  refine Ok.bind _ (Ok.mono (fun r hr => ?_) _ (count_ok (p := List.toArray (List.range n)) ⟨by simp, by simp⟩ hn))
  have h1 := hr.one
  by_cases c : r.1 < n
  · rw [if_pos c]
    exact bin_ok (n - max r.1 1) r.2 (max r.1 1) hr.pr (by omega) (by rw [show max r.1 1 = r.1 by omega]; exact hr.up)
  · rw [if_neg c]
    refine ⟨hr.pr, ?_⟩
    have := hr.le
    rw [show n = r.1 by omega]
    exact hr.up
end
end HT

set_option Elab.async false
set_option linter.all false
set_option maxRecDepth 100000
set_option maxHeartbeats 4000000
/-! A list of points is sorted; sorted(s) of a set of points. -/
namespace HT
open PySem PySem.W PyProof.Rows PySem.Calls
section
variable {prog : Program} {w : World} {A : Around} {E : Value → Shared → Prop} {s : Shared}
/-- a point stands at a -/
def Pt2 (h : Heap) (a : Addr) (p : Int × Int) : Prop := ∃ o t u n, h.get? a = some o ∧ o.cls = .type "tuple" ∧ o.data = .seq #[.int p.1 t, .int p.2 u] n
theorem Pt2.stay {h h' : Heap} {a : Addr} {p : Int × Int} (x : Pt2 h a p) (e : ∀ o, h.get? a = some o → h'.get? a = some o) : Pt2 h' a p := by
  obtain ⟨o, t, u, n, ho, r⟩ := x
  exact ⟨o, t, u, n, e o ho, r⟩
theorem cmp_ok {a b : Addr} {p q : Int × Int} {C : Bool → Shared → Prop} (ha : Pt2 s.heap a p) (hb : Pt2 s.heap b q) (h : C (decide (lt2 p q)) s) : wpAny (model prog w) A (keyLt' (tuples' true) (.ref a) (.ref b)) C E s := by
  obtain ⟨o, t, u, n, ho, _, hd⟩ := ha
  obtain ⟨o', t', u', n', ho', _, hd'⟩ := hb
  refine kat_lt ho hd ho' hd' ?_
  show KatLex prog w A true _ C [(.int p.1 t, .int q.1 t'), (.int p.2 u, .int q.2 u')] 0 s
  refine kat_cons ((intKind prog w).eqBool (intKind_is _ _ _ _) (intKind_is _ _ _ _) ?_)
  refine kat_go (fun e => kat_yes ?_) (fun e => kat_no ?_)
  · have e1 : p.1 = q.1 := of_decide_eq_true e
    refine kat_cons ((intKind prog w).eqBool (intKind_is _ _ _ _) (intKind_is _ _ _ _) ?_)
    refine kat_go (fun e => kat_yes (kat_nil ?_)) (fun e => kat_no ?_)
    · have e2 : p.2 = q.2 := of_decide_eq_true e
      rw [decide_eq_false (by unfold lt2; omega)] at h
      exact h
    · refine kat_one _ _ (lt_int ?_)
      have : decide (lt2 p q) = decide (p.2 < q.2) := by
        rw [decide_eq_decide]
        unfold lt2
        omega
      rw [this] at h
      exact h
  · have e1 : ¬ p.1 = q.1 := of_decide_eq_false e
    refine oneLt_int ?_
    have : decide (lt2 p q) = decide (p.1 < q.1) := by
      rw [decide_eq_decide]
      unfold lt2
      omega
    rw [this] at h
    exact h
theorem tups_ok {h : Heap} : ∀ (vs : List Value) (κ : Nat → Int × Int), (∀ i, i < vs.length → ∃ b, vs.getD i Value.none = .ref b ∧ Pt2 h b (κ i)) → ∃ fs, KatTups h vs fs ∧ fs.length = vs.length ∧ ∀ v ∈ fs, ∃ i t, v = Value.int i t
  | [], _, _ => ⟨[], KatTups.nil, rfl, fun v hv => nomatch hv⟩
  | v :: vs, κ, hv => by
    obtain ⟨fs, h1, h2, h3⟩ := tups_ok vs (fun i => κ (i + 1)) fun i hi => hv (i + 1) (by simpa using hi)
    obtain ⟨b, e, o, t, u, n, ho, hc, hd⟩ := hv 0 (by simp)
    have e' : v = .ref b := e
    subst e'
    refine ⟨.int (κ 0).1 t :: fs, KatTups.cons ho hc hd rfl h1, by simp [h2], fun v hv => ?_⟩
    rcases List.mem_cons.mp hv with rfl | z
    · exact ⟨_, _, rfl⟩
    · exact h3 v z
theorem list_sort_pts {a : Addr} {vs : List Value} {n : Nat} {κ : Nat → Int × Int} {P : PySem.Fin → Shared → Prop} (ho : s.heap.get? a = some (seqObj "list" vs.toArray n)) (hv : ∀ i, i < vs.length → ∃ b, vs.getD i Value.none = .ref b ∧ b ≠ a ∧ Pt2 s.heap b (κ i)) (h64 : vs.length < 64)
    (h : ∀ p h' c, PR vs.length p → Up κ p vs.length → (∀ b o, b ≠ a → s.heap.get? b = some o → h'.get? b = some o) → h'.get? a = some (seqObj "list" (List.toArray (p.toList.map fun i => vs.getD i Value.none)) c) → P (.done (.ret .none)) { s with heap := h' }) :
    wpAny (model prog w) A (Builtin.«list.sort» ⟨[.ref a], []⟩) P E s := by
  have ha : a < s.heap.objs.size := Heap.lt_size ho
  obtain ⟨e1, ho1⟩ : ∃ e1, (s.heap.update a (Obj.mapSeq fun _ => (#[] : Array Value))).get? a = some (seqObj "list" #[] e1) := ⟨_, get?_update_seq ho fun _ => #[]⟩
  have sb := Heap.SameBut.update s.heap a (Obj.mapSeq fun _ => (#[] : Array Value))
  rw [list_sort_plain]
  refine wpAny_bind (listItems_at (M := model prog w) ho rfl ?_)
  refine wpAny_bind (listUpdate_at (M := model prog w) ho rfl ?_ (by rw [List.size_toArray, sizeLine_eq]; omega) (Nat.zero_le _))
  refine wpAny_bind (seqEpoch_at (M := model prog w) ho1 rfl ?_)
  refine wpAny_bind (wpAny_newTuple (M := model prog w) ?_ (by show vs.length ≤ _; rw [sizeLine_eq]; omega))
  refine wpAny_bind (wpAny_newList (M := model prog w) ?_ (Nat.zero_le _))
  refine wpAny_holding (vs := _) ?_
  obtain ⟨h2, eh⟩ : ∃ h2, h2 = ((s.heap.update a (Obj.mapSeq fun _ => (#[] : Array Value))).push (seqObj "tuple" vs.toArray 0)).push (seqObj "list" #[] 0) := ⟨_, rfl⟩
  show wpAny (model prog w) A _ P E { s with heap := ((s.heap.update a (Obj.mapSeq fun _ => (#[] : Array Value))).push (seqObj "tuple" vs.toArray 0)).push (seqObj "list" #[] 0) }
  rw [← eh]
  have keep : ∀ b o, b ≠ a → s.heap.get? b = some o → h2.get? b = some o := fun b o hb e => by
    rw [eh]
    exact Heap.get?_push_of_some _ (Heap.get?_push_of_some _ ((sb.2 b hb).trans e))
  have ho2 : h2.get? a = some (seqObj "list" #[] e1) := by
    rw [eh]
    exact Heap.get?_push_of_some _ (Heap.get?_push_of_some _ ho1)
  have fin : ∀ p, PR vs.length p → Up κ p vs.length → ∀ out : Array Value, out = List.toArray (p.toList.map fun i => vs.getD i Value.none) → P (.done (.ret .none)) { s with heap := h2.update a (Obj.mapSeq fun _ => out) } := fun p hp hu out eo => by
    obtain ⟨c2, hc2⟩ : ∃ c2, (h2.update a (Obj.mapSeq fun _ => out)).get? a = some (seqObj "list" out c2) := ⟨_, get?_update_seq ho2 fun _ => out⟩
    refine h p _ c2 hp hu (fun b o hb e => ((Heap.SameBut.update h2 a _).2 b hb).trans (keep b o hb e)) ?_
    rw [← eo]
    exact hc2
  dsimp only
  by_cases c2 : vs.toArray.size < 2
  · rw [if_pos c2, if_pos c2]
    refine wpAny_bind (wpAny_pure ?_)
    rw [StateT.run_pure]
    refine wpAny_bind (wpAny_pure ?_)
    dsimp only
    have so : ((vs.toArray.zip vs.toArray).map (·.2)) = vs.toArray := by
      apply Array.toList_inj.mp
      simp
      exact List.map_snd_zip (Nat.le_refl _)
    refine wpAny_bind (seqEpoch_at (M := model prog w) ho2 rfl ?_)
    refine wpAny_bind (listUpdate_at (M := model prog w) ho2 rfl ?_ (Nat.zero_le _) (by show ((vs.toArray.zip vs.toArray).map (·.2)).size ≤ _; rw [so, List.size_toArray, sizeLine_eq]; omega))
    simp only [bne_self_eq_false, Bool.false_eq_true, if_false]
    refine wpAny_pure (fin (List.toArray (List.range vs.length)) ⟨by simp, by simp⟩ (fun i j hij hj => ?_) _ ?_)
    · rw [List.size_toArray] at c2
      rw [show i = j by omega]
      exact le2_refl _
    · show ((vs.toArray.zip vs.toArray).map (·.2)) = _
      rw [so]
      congr 1
      refine List.ext_getElem (by simp) fun i h1 h2 => ?_
      simp [h1]
  · rw [if_neg c2, if_neg c2]
    rw [List.size_toArray] at c2
    obtain ⟨fs, kt, fl, fi⟩ := tups_ok (h := h2) vs κ fun i hi => by
      obtain ⟨b, eb, hb, x⟩ := hv i hi
      exact ⟨b, eb, x.stay fun o e => keep b o hb e⟩
    refine wpAny_bind (kat_kind (M := model prog w) (T := .type "int") kt (by omega) (fun v hv => ?_) rfl ?_)
    · obtain ⟨i, t, rfl⟩ := fi v hv
      exact Looks.now
    have hcmp : ∀ i j (C : Bool → Shared → Prop), i < vs.length → j < vs.length → C (ltK κ i j) { s with heap := h2 } → kas_ask prog w A (tuples' true) vs i j C { s with heap := h2 } := fun i j C hi hj hC => by
      obtain ⟨b, eb, hb, x⟩ := hv i hi
      obtain ⟨b', eb', hb', x'⟩ := hv j hj
      unfold kas_ask
      rw [eb, eb']
      exact cmp_ok (x.stay fun o e => keep b o hb e) (x'.stay fun o e => keep b' o hb' e) hC
    have tree := Ok.wp (Q := fun (p : Array Nat) (s' : Shared) => s' = { s with heap := h2 } ∧ PR vs.length p ∧ Up κ p vs.length) hcmp (kas_sort vs.length) (Ok.mono (fun p hp => ⟨rfl, hp.1, hp.2⟩) _ (sort_ok (by omega)))
    refine wpAny_bind (wpAny_mono (kat_run (ks := vs) (vs := vs) (Q := fun st' s' => ∃ p : Array Nat, p.size = vs.length ∧ arrOf st' = p.map (kas_item (vs.toArray.zip vs.toArray)) ∧ failedOf st' = none ∧ s' = { s with heap := h2 } ∧ PR vs.length p ∧ Up κ p vs.length)
      rfl (by omega) h64 (fun p' st' s' a1 a2 a3 a4 => ⟨p', a1, a2, a3, a4⟩) tree) ?_ fun _ _ x => x)
    rintro ⟨⟨⟩, st'⟩ s' ⟨p, hp, har, hf, rfl, pr, up⟩
    dsimp only
    have hout := kat_snds (ks := vs) (vs := vs) rfl har
    rw [hout]
    refine wpAny_bind (seqEpoch_at (M := model prog w) ho2 rfl ?_)
    refine wpAny_bind (listUpdate_at (M := model prog w) ho2 rfl ?_ (Nat.zero_le _) (by show (List.toArray (p.toList.map fun i => vs.getD i Value.none)).size ≤ _; rw [List.size_toArray, List.length_map, Array.length_toList, hp, sizeLine_eq]; omega))
    rw [hf]
    simp only [bne_self_eq_false, Bool.false_eq_true, if_false]
    exact wpAny_pure (fin p pr up _ rfl)
theorem collect_src {T : String} {r d : Addr} {n : Nat} {P : Nat → Value → Prop} {OK : Heap → Prop} {R : List Value → Shared → Prop} (K : KdlSrc prog w T r d n P OK) (hh : A.handled = none) (hok : OK s.heap) (hn : n ≤ sizeLine)
    (h : ∀ (h' : Heap) (tk : Nat) (vs : List Value), s.heap.objs.size ≤ h'.objs.size → (∀ b o, s.heap.get? b = some o → h'.get? b = some o) → vs.length = n → (∀ i v, vs[i]? = some v → P i v) → R vs { s with heap := h', toks := tk }) :
    wpAny (model prog w) A (collect (.ref r)) R E s := by
  have hlt := K.there _ hok
  unfold collect
  refine wpAny_bind (wpAny_runValue (codeAny_builtin (w := w) F.entry_proto_collect ?_))
  rw [Around.under_plainId (by exact F.plain_proto_collect) _]
  refine (show wpAny _ A.in1 (newList [] >>= fun l => again (.builtin "list.__iadd__" ⟨[l, .ref r], []⟩)) _ _ s from ?_)
  refine wpAny_bind (wpAny_newObj_type (M := model prog w) ?_)
  refine wpAny_pure ⟨plainId_quiet F.plain_list_iadd _, codeAny_builtin (w := w) F.entry_list_iadd ?_⟩
  rw [Around.under_plainId (by exact F.plain_list_iadd) _]
  have hS₁ : (s.heap.push { cls := .type "list", data := .seq ([] : List Value).toArray }).get? s.heap.objs.size = some { cls := .type "list", data := .seq #[] } := Heap.get?_push_size _ rfl
  refine (show wpAny _ A.in1 (Builtin.List.listExtendWith (.ref s.heap.objs.size) (.ref r) (.ref s.heap.objs.size)) _ _ _ from ?_)
  have key := kdl_extend (A := A) (s := { s with heap := s.heap.push { cls := .type "list", data := .seq ([] : List Value).toArray } })
    (R := fun (q : Result) (s' : Shared) => ∃ (h' : Heap) (tk : Nat) (acc' : Array Value) (c' : Nat), q = .ok (.ret (.ref s.heap.objs.size)) ∧ s' = { s with heap := h', toks := tk } ∧
      (∀ b o, s.heap.get? b = some o → h'.get? b = some o) ∧ h'.get? s.heap.objs.size = some { cls := .type "list", dict := none, data := .seq acc' c', slots := #[] } ∧ ItemsOf P acc' n)
    K hh (K.keep _ _ hok fun b _ o e => Heap.get?_push_of_some _ e) s.heap.objs.size (Nat.ne_of_gt hlt.1) (Nat.ne_of_gt hlt.2) (.ref s.heap.objs.size) 0 hS₁
    (fun h' tk acc' c' hk hS' hacc => ⟨h', tk, acc', c', rfl, rfl, fun b o e => hk b o (Nat.ne_of_lt (Heap.lt_size e)) (Heap.get?_push_of_some _ e), hS', hacc⟩) hn
  have out : ∀ (h' : Heap) (tk : Nat) (acc' : Array Value), s.heap.objs.size ≤ h'.objs.size → (∀ b o, s.heap.get? b = some o → h'.get? b = some o) → ItemsOf P acc' n → R acc'.toList { s with heap := h', toks := tk } := fun h' tk acc' hz hk hacc =>
    h h' tk acc'.toList hz hk (by rw [Array.length_toList]; exact hacc.1) fun i v e => hacc.2 i v (by rw [← Array.getElem?_toList]; exact e)
  refine wpAny_mono key (fun fin s' x => ?_) fun e s' x => ?_
  · cases fin with
    | done f =>
      obtain ⟨h', tk, acc', c', e, rfl, hk, hS', hacc⟩ := x
      cases e
      exact wpAny_bind (wpAny_load hS' (wpAny_pure (out h' tk acc' (Nat.le_of_lt (Heap.lt_size hS')) hk hacc)))
    | again c₁ =>
      refine ⟨x.1, codeAny_mono x.2 fun q s₂ y => ?_⟩
      obtain ⟨h', tk, acc', c', rfl, rfl, hk, hS', hacc⟩ := y
      exact wpAny_bind (wpAny_load hS' (wpAny_pure (out h' tk acc' (Nat.le_of_lt (Heap.lt_size hS')) hk hacc)))
  · obtain ⟨_, _, _, _, e', _⟩ := x
    cases e'
end
end HT

set_option Elab.async false
set_option linter.all false
set_option maxRecDepth 100000
set_option maxHeartbeats 4000000
/-! Runs are merged: the sort of a list of any length. -/
namespace HT
open PySem PySem.W PyProof.Rows PySem.Calls
section
variable {prog : Program} {w : World} {A : Around} {E : Value → Shared → Prop} {s : Shared} {key : Keyed → Int × Int} {G : Keyed → Prop} {κ : SortKind}
/-- how two items are asked -/
def Asks (prog : Program) (w : World) (A : Around) (s : Shared) (κ : SortKind) (key : Keyed → Int × Int) (G : Keyed → Prop) : Prop :=
  ∀ (x y : Keyed) (E : Value → Shared → Prop) (C : Bool → Shared → Prop), G x → G y → C (decide (lt2 (key x) (key y))) s → wpAny (model prog w) A (keyLt' κ x.1 y.1) C E s
theorem s_lt {st : SortSt} {x y : Keyed} {Q : Option Bool → SortSt → Prop} (K : Asks prog w A s κ key G) (hk : kindOf st = κ) (hx : G x) (hy : G y) (h : Q (some (decide (lt2 (key x) (key y)))) st) : wpS (model prog w) A E s (lt' x y) Q st := by
  rw [lt'_eq]
  refine wpS_bind (wpS_get (wpS_bind (wpS_lift (wpAny_attempt ?_))))
  rw [hk]
  exact K x y _ _ hx hy ⟨rfl, wpS_pure h⟩
theorem s_elem {st : SortSt} {arr : Array Keyed} {i : Nat} {Q : Keyed → SortSt → Prop} (hi : i < arr.size) (h : Q arr[i] st) : wpS (model prog w) A E s (elem' arr i) Q st := by
  rw [elem'_eq, Array.getElem?_eq_getElem hi]
  exact wpS_pure h
theorem s_ltAt {st : SortSt} {i j : Nat} {Q : Option Bool → SortSt → Prop} (K : Asks prog w A s κ key G) (hk : kindOf st = κ) (hG : ∀ x ∈ arrOf st, G x) (hi : i < (arrOf st).size) (hj : j < (arrOf st).size) (h : Q (some (decide (lt2 (key (arrOf st)[i]) (key (arrOf st)[j])))) st) :
    wpS (model prog w) A E s (ltAt' i j) Q st := by
  rw [ltAt'_eq]
  refine wpS_bind (wpS_get (wpS_bind (s_elem hi (wpS_bind (s_elem hj ?_)))))
  exact s_lt K hk (hG _ (Array.getElem_mem hi)) (hG _ (Array.getElem_mem hj)) h
def gallop' : Bool → Keyed → Array Keyed → Nat → Nat → Nat → StateT SortSt Sem (Option Nat) := sortPriv% PySem.Builtin.gallop
def mergeLo' : Array Keyed → Array Keyed → StateT SortSt Sem (Array Keyed) := sortPriv% PySem.Builtin.mergeLo
def mergeHi' : Array Keyed → Array Keyed → StateT SortSt Sem (Array Keyed) := sortPriv% PySem.Builtin.mergeHi
def Kg (key : Keyed → Int × Int) (arr : Array Keyed) (i : Nat) : Int × Int := key (arr.getD i (Value.none, Value.none))
theorem Kg_at {arr : Array Keyed} {i : Nat} (hi : i < arr.size) : key arr[i] = Kg key arr i := by simp [Kg, Array.getD, hi]
def Seg (key : Keyed → Int × Int) (arr : Array Keyed) (lo hi : Nat) : Prop := ∀ i j, lo ≤ i → i ≤ j → j < hi → le2 (Kg key arr i) (Kg key arr j)
/-- is the i-th ahead of the key? -/
def bey (key : Keyed → Int × Int) (left : Bool) (k : Keyed) (arr : Array Keyed) (base i : Nat) : Bool := if left = true then decide (lt2 (Kg key arr (base + i)) (key k)) else !decide (lt2 (key k) (Kg key arr (base + i)))
theorem bey_le {left : Bool} {k : Keyed} {arr : Array Keyed} {base i : Nat} (h : bey key left k arr base i = true) : le2 (Kg key arr (base + i)) (key k) := by
  unfold bey at h
  cases left with
  | true => exact lt2_le (of_decide_eq_true h)
  | false => simpa [le2] using h
theorem bey_ge {left : Bool} {k : Keyed} {arr : Array Keyed} {base i : Nat} (h : bey key left k arr base i = false) : le2 (key k) (Kg key arr (base + i)) := by
  unfold bey at h
  cases left with
  | true => simpa [le2] using h
  | false => exact lt2_le (by simpa using h)
theorem le_lt {p q r : Int × Int} (h1 : le2 p q) (h2 : lt2 q r) : lt2 p r := by unfold le2 lt2 at *; omega
theorem bey_mono {left : Bool} {k : Keyed} {arr : Array Keyed} {base n i j : Nat} (up : Seg key arr base (base + n)) (hij : i ≤ j) (hj : j < n) (h : bey key left k arr base j = true) : bey key left k arr base i = true := by
  have u := up (base + i) (base + j) (by omega) (by omega) (by omega)
  unfold bey at *
  cases left with
  | true => exact decide_eq_true (le_lt u (of_decide_eq_true h))
  | false =>
    have h : ¬ lt2 (key k) (Kg key arr (base + j)) := by simpa using h
    have : ¬ lt2 (key k) (Kg key arr (base + i)) := le2_trans u h
    simpa using this
theorem bey_mono' {left : Bool} {k : Keyed} {arr : Array Keyed} {base n i j : Nat} (up : Seg key arr base (base + n)) (hij : i ≤ j) (hj : j < n) (h : bey key left k arr base i = false) : bey key left k arr base j = false := by
  cases e : bey key left k arr base j with
  | false => rfl
  | true => rw [bey_mono up hij hj e] at h; cases h
theorem s_bey {st : SortSt} {left : Bool} {k : Keyed} {arr : Array Keyed} {base i : Nat} {Q : Option Bool → SortSt → Prop} (K : Asks prog w A s κ key G) (hk : kindOf st = κ) (hG : ∀ x ∈ arr, G x) (gk : G k) (hi : base + i < arr.size) (h : Q (some (bey key left k arr base i)) st) :
    wpS (model prog w) A E s (elem' arr (base + i) >>= fun x => if left = true then lt' x k else lt' k x >>= fun r => pure (Option.map (fun x => !x) r)) Q st := by
  refine wpS_bind (s_elem hi ?_)
  unfold bey at h
  cases left with
  | true =>
    rw [if_pos rfl] at h ⊢
    refine s_lt K hk (hG _ (Array.getElem_mem hi)) gk ?_
    rw [Kg_at (key := key) hi]
    exact h
  | false =>
    rw [if_neg Bool.false_ne_true] at h ⊢
    refine wpS_bind (s_lt K hk gk (hG _ (Array.getElem_mem hi)) (wpS_pure ?_))
    rw [Kg_at (key := key) hi]
    exact h
theorem s_gallop {st : SortSt} {left : Bool} {k : Keyed} {arr : Array Keyed} {base n hint : Nat} {Q : Option Nat → SortSt → Prop} (K : Asks prog w A s κ key G) (hk : kindOf st = κ) (hG : ∀ x ∈ arr, G x) (gk : G k) (hb : base + n ≤ arr.size) (hh : hint < n)
    (up : Seg key arr base (base + n)) (h : ∀ r, r ≤ n → (∀ i, i < r → bey key left k arr base i = true) → (∀ i, r ≤ i → i < n → bey key left k arr base i = false) → Q (some r) st) :
    wpS (model prog w) A E s (gallop' left k arr base n hint) Q st := by
  have jp : ∀ lo hi, lo ≤ hi → hi ≤ n → (∀ i, i < lo → bey key left k arr base i = true) → (∀ i, hi ≤ i → i < n → bey key left k arr base i = false) → ∀ (f : Nat → Option (Option Nat) × Nat × Nat → StateT SortSt Sem (ForInStep (Option (Option Nat) × Nat × Nat))) (g : Option (Option Nat) × Nat × Nat → StateT SortSt Sem (Option Nat)),
      (∀ x lo hi, lo ≥ hi → f x (none, lo, hi) = pure (.done (none, lo, hi))) →
      (∀ x lo hi (R : ForInStep (Option (Option Nat) × Nat × Nat) → SortSt → Prop), lo < hi → hi ≤ n → R (.yield (if bey key left k arr base (lo + (hi - lo) / 2) = true then (none, lo + (hi - lo) / 2 + 1, hi) else (none, lo, lo + (hi - lo) / 2))) st → wpS (model prog w) A E s (f x (none, lo, hi)) R st) →
      (∀ lo hi, g (none, lo, hi) = pure (some hi)) → wpS (model prog w) A E s (forIn [0:n] (none, lo, hi) f >>= g) Q st := by
    intro lo hi h1 h2 h3 h4 f g f1 f2 g1
    refine wpS_bind (wpS_mono (wpS_forRange (I := fun x c st' => st' = st ∧ ∃ lo hi, c = (none, lo, hi) ∧ lo ≤ hi ∧ hi ≤ n ∧ hi - lo ≤ n - x ∧ (∀ i, i < lo → bey key left k arr base i = true) ∧ ∀ i, hi ≤ i → i < n → bey key left k arr base i = false)
      (Q := fun c st' => st' = st ∧ ∃ hi lo, c = (none, lo, hi) ∧ hi ≤ n ∧ (∀ i, i < hi → bey key left k arr base i = true) ∧ ∀ i, hi ≤ i → i < n → bey key left k arr base i = false) ?_ ?_ ⟨rfl, lo, hi, rfl, h1, h2, by omega, h3, h4⟩) ?_)
    · rintro x c st' _ hx ⟨rfl, lo, hi, rfl, h1, h2, h5, h3, h4⟩
      by_cases c : lo ≥ hi
      · rw [f1 x lo hi c]
        exact wpS_pure ⟨rfl, hi, lo, rfl, h2, fun i hi' => h3 i (by omega), h4⟩
      · refine f2 x lo hi _ (by omega) h2 ?_
        dsimp only
        cases e : bey key left k arr base (lo + (hi - lo) / 2) with
        | true =>
          rw [if_pos rfl]
          exact ⟨rfl, _, _, rfl, by omega, h2, by omega, fun i hi' => bey_mono up (show i ≤ lo + (hi - lo) / 2 by omega) (by omega) e, h4⟩
        | false =>
          rw [if_neg Bool.false_ne_true]
          exact ⟨rfl, _, _, rfl, by omega, by omega, by omega, h3, fun i h6 h7 => bey_mono' up h6 h7 e⟩
    · rintro c st' ⟨rfl, lo, hi, rfl, h1, h2, h5, h3, h4⟩
      exact ⟨rfl, hi, lo, rfl, h2, fun i hi' => h3 i (by omega), h4⟩
    · rintro c st' ⟨rfl, hi, lo, rfl, h2, h3, h4⟩
      rw [g1]
      exact wpS_pure (h hi h2 h3 h4)
  refine wpS_bind (s_bey K hk hG gk (i := hint) (by omega) ?_)
  cases e0 : bey key left k arr base hint with
  | true =>
    refine wpS_bind (wpS_mono (wpS_forRange (I := fun x c st' => st' = st ∧ ∃ lastofs ofs, c = (none, lastofs, ofs) ∧ lastofs < ofs ∧ x + 1 ≤ ofs ∧ hint + lastofs < n ∧ bey key left k arr base (hint + lastofs) = true)
      (Q := fun c st' => st' = st ∧ ∃ lastofs ofs, c = (none, lastofs, ofs) ∧ lastofs < ofs ∧ hint + lastofs < n ∧ bey key left k arr base (hint + lastofs) = true ∧ (n - hint ≤ ofs ∨ (hint + ofs < n ∧ bey key left k arr base (hint + ofs) = false))) ?_ ?_ ⟨rfl, 0, 1, rfl, by omega, by omega, by omega, e0⟩) ?_)
    · rintro x c st' _ hx ⟨rfl, l, o, rfl, h1, h2, h3, h4⟩
      by_cases c : o ≥ n - hint
      · exact (if_pos c).symm ▸ wpS_pure ⟨rfl, l, o, rfl, h1, h3, h4, .inl c⟩
      · refine (if_neg c).symm ▸ wpS_bind (s_bey K hk hG gk (i := hint + o) (by omega) ?_)
        cases e : bey key left k arr base (hint + o) with
        | true => exact wpS_pure ⟨rfl, o, 2 * o + 1, rfl, by omega, by omega, by omega, e⟩
        | false => exact wpS_pure ⟨rfl, l, o, rfl, h1, h3, h4, .inr ⟨by omega, e⟩⟩
    · rintro c st' ⟨rfl, l, o, rfl, h1, h2, h3, h4⟩
      exact ⟨rfl, l, o, rfl, h1, h3, h4, .inl (by omega)⟩
    · rintro c st' ⟨rfl, l, o, rfl, h1, h3, h4, h5⟩
      refine jp (hint + l + 1) (hint + min o (n - hint)) (by omega) (by omega) (fun i hi => bey_mono up (show i ≤ hint + l by omega) (by omega) h4) (fun i h6 h7 => ?_) _ _ (fun x lo hi c => if_pos c) (fun x lo hi R c c2 hR => ?_) fun lo hi => rfl
      · rcases h5 with z | ⟨z1, z2⟩
        · omega
        · exact bey_mono' up (show hint + o ≤ i by omega) h7 z2
      · refine (if_neg (show ¬ lo ≥ hi by omega)).symm ▸ wpS_bind (s_bey K hk hG gk (i := lo + (hi - lo) / 2) (by omega) ?_)
        cases e : bey key left k arr base (lo + (hi - lo) / 2) with
        | true => rw [e, if_pos rfl] at hR; exact wpS_pure hR
        | false => rw [e, if_neg Bool.false_ne_true] at hR; exact wpS_pure hR
  | false =>
    refine wpS_bind (wpS_mono (wpS_forRange (I := fun x c st' => st' = st ∧ ∃ lastofs ofs, c = (none, lastofs, ofs) ∧ lastofs < ofs ∧ x + 1 ≤ ofs ∧ lastofs ≤ hint ∧ bey key left k arr base (hint - lastofs) = false)
      (Q := fun c st' => st' = st ∧ ∃ lastofs ofs, c = (none, lastofs, ofs) ∧ lastofs < ofs ∧ lastofs ≤ hint ∧ bey key left k arr base (hint - lastofs) = false ∧ (hint + 1 ≤ ofs ∨ (ofs ≤ hint ∧ bey key left k arr base (hint - ofs) = true))) ?_ ?_ ⟨rfl, 0, 1, rfl, by omega, by omega, by omega, e0⟩) ?_)
    · rintro x c st' _ hx ⟨rfl, l, o, rfl, h1, h2, h3, h4⟩
      by_cases c : o ≥ hint + 1
      · exact (if_pos c).symm ▸ wpS_pure ⟨rfl, l, o, rfl, h1, h3, h4, .inl c⟩
      · refine (if_neg c).symm ▸ wpS_bind (s_bey K hk hG gk (i := hint - o) (by omega) ?_)
        cases e : bey key left k arr base (hint - o) with
        | true => exact wpS_pure ⟨rfl, l, o, rfl, h1, h3, h4, .inr ⟨by omega, e⟩⟩
        | false => exact wpS_pure ⟨rfl, o, 2 * o + 1, rfl, by omega, by omega, by omega, e⟩
    · rintro c st' ⟨rfl, l, o, rfl, h1, h2, h3, h4⟩
      exact ⟨rfl, l, o, rfl, h1, h3, h4, .inl (by omega)⟩
    · rintro c st' ⟨rfl, l, o, rfl, h1, h3, h4, h5⟩
      refine jp (hint + 1 - min o (hint + 1)) (hint - l) (by omega) (by omega) (fun i hi => ?_) (fun i h6 h7 => bey_mono' up h6 h7 h4) _ _ (fun x lo hi c => if_pos c) (fun x lo hi R c c2 hR => ?_) fun lo hi => rfl
      · rcases h5 with z | ⟨z1, z2⟩
        · omega
        · exact bey_mono up (show i ≤ hint - o by omega) (by omega) z2
      · refine (if_neg (show ¬ lo ≥ hi by omega)).symm ▸ wpS_bind (s_bey K hk hG gk (i := lo + (hi - lo) / 2) (by omega) ?_)
        cases e : bey key left k arr base (lo + (hi - lo) / 2) with
        | true => rw [e, if_pos rfl] at hR; exact wpS_pure hR
        | false => rw [e, if_neg Bool.false_ne_true] at hR; exact wpS_pure hR
theorem s_ite {α : Type} {c : Prop} [Decidable c] {t e : StateT SortSt Sem α} {Q : α → SortSt → Prop} {st : SortSt} (h1 : c → wpS (model prog w) A E s t Q st) (h2 : ¬ c → wpS (model prog w) A E s e Q st) : wpS (model prog w) A E s (if c then t else e) Q st := by
  by_cases h : c
  · rw [if_pos h]; exact h1 h
  · rw [if_neg h]; exact h2 h
def setG' : Nat → StateT SortSt Sem Unit := sortPriv% PySem.Builtin.setMinGallop
theorem s_setG {g : Nat} {Q : Unit → SortSt → Prop} {st : SortSt} (h : Q () (SortSt.mk' (kindOf st) (arrOf st) (pendingOf st) g (failedOf st))) : wpS (model prog w) A E s (setG' g) Q st := wpS_modify h
/-- all but the gallop stays -/
structure Fr2 (st st' : SortSt) : Prop where
  k : kindOf st' = kindOf st
  a : arrOf st' = arrOf st
  p : pendingOf st' = pendingOf st
  f : failedOf st' = failedOf st
theorem Fr2.refl (st : SortSt) : Fr2 st st := ⟨rfl, rfl, rfl, rfl⟩
theorem Fr2.set {st st' : SortSt} (h : Fr2 st st') (g : Nat) : Fr2 st (SortSt.mk' (kindOf st') (arrOf st') (pendingOf st') g (failedOf st')) := ⟨h.k, h.a, h.p, h.f⟩
abbrev LE2 (key : Keyed → Int × Int) (x y : Keyed) : Prop := le2 (key x) (key y)
abbrev Srt (key : Keyed → Int × Int) (l : List Keyed) : Prop := l.Pairwise (LE2 key)
/-- what is out is sorted, not over what is left -/
structure Lo (key : Keyed → Int × Int) (A B O : List Keyed) (i j : Nat) : Prop where
  perm : O.Perm (A.take i ++ B.take j)
  srt : Srt key O
  la : ∀ x ∈ O, ∀ y ∈ A.drop i, LE2 key x y
  lb : ∀ x ∈ O, ∀ y ∈ B.drop j, LE2 key x y
theorem Lo.swap {A B O : List Keyed} {i j : Nat} (h : Lo key A B O i j) : Lo key B A O j i := ⟨h.perm.trans List.perm_append_comm, h.srt, h.lb, h.la⟩
theorem Lo.takeA {A B O : List Keyed} {i j : Nat} (h : Lo key A B O i j) (sA : Srt key A) (k : Nat) (hk : ∀ x ∈ (A.drop i).take k, ∀ y ∈ B.drop j, LE2 key x y) : Lo key A B (O ++ (A.drop i).take k) (i + k) j := by
  have sD : Srt key (A.drop i) := List.Pairwise.sublist (List.drop_sublist i A) sA
  have e : (A.drop i).take k ++ A.drop (i + k) = A.drop i := by rw [← List.drop_drop]; exact List.take_append_drop k _
  have e2 : A.take (i + k) = A.take i ++ (A.drop i).take k := List.take_add
  have sD2 := sD
  rw [← e] at sD2
  obtain ⟨s1, _, s3⟩ := List.pairwise_append.mp sD2
  refine ⟨?_, List.pairwise_append.mpr ⟨h.srt, s1, fun x hx y hy => h.la x hx y (List.mem_of_mem_take hy)⟩, fun x hx y hy => ?_, fun x hx y hy => ?_⟩
  · rw [e2]
    refine (h.perm.append_right _).trans ?_
    rw [List.append_assoc, List.append_assoc]
    exact List.Perm.append_left _ List.perm_append_comm
  · rcases List.mem_append.mp hx with hx | hx
    · exact h.la x hx y (by rw [← e]; exact List.mem_append_right _ hy)
    · exact s3 x hx y hy
  · rcases List.mem_append.mp hx with hx | hx
    · exact h.lb x hx y hy
    · exact hk x hx y hy
structure Fin2 (key : Keyed → Int × Int) (A B L : List Keyed) : Prop where
  perm : L.Perm (A ++ B)
  srt : Srt key L
theorem Lo.fin {A B O : List Keyed} {i j : Nat} (h : Lo key A B O i j) (sA : Srt key A) (sB : Srt key B) (hx : ∀ x ∈ A.drop i, ∀ y ∈ B.drop j, LE2 key x y) : Fin2 key A B (O ++ A.drop i ++ B.drop j) := by
  have h2 := h.takeA sA (A.drop i).length (fun x hx' y hy => hx x (List.mem_of_mem_take hx') y hy)
  rw [List.take_length] at h2
  refine ⟨?_, List.pairwise_append.mpr ⟨h2.srt, List.Pairwise.sublist (List.drop_sublist j B) sB, h2.lb⟩⟩
  refine (h2.perm.append_right _).trans ?_
  rw [List.append_assoc, List.take_append_drop]
  rw [List.take_of_length_le (by rw [List.length_drop]; omega)]
theorem Lo.finB {A B O : List Keyed} {i j : Nat} (h : Lo key A B O i j) (sA : Srt key A) (sB : Srt key B) (hx : ∀ x ∈ A.drop i, ∀ y ∈ B.drop j, LE2 key y x) : Fin2 key A B (O ++ B.drop j ++ A.drop i) := by
  have := h.swap.fin sB sA fun y hy x hx' => hx x hx' y hy
  exact ⟨this.perm.trans List.perm_append_comm, this.srt⟩
theorem toList_ex (a : Array Keyed) (i k : Nat) : (a.extract i (i + k)).toList = (a.toList.drop i).take k := by
  rw [Array.toList_extract]
  simp [List.extract]
theorem toList_rest (a : Array Keyed) (i : Nat) : (a.extract i a.size).toList = a.toList.drop i := by
  rw [Array.toList_extract]
  simp [List.extract, List.take_of_length_le]
theorem drop_one {α : Type} {l : List α} {i : Nat} (h : i < l.length) : (l.drop i).take 1 = [l[i]] := by
  rw [List.drop_eq_getElem_cons h]
  rfl
theorem srt_le {A : List Keyed} (sA : Srt key A) {i : Nat} (h : i < A.length) : ∀ y ∈ A.drop i, LE2 key A[i] y := fun y hy => by
  have sD : Srt key (A.drop i) := List.Pairwise.sublist (List.drop_sublist i A) sA
  rw [List.drop_eq_getElem_cons h] at sD hy
  rcases List.mem_cons.mp hy with rfl | z
  · exact le2_refl _
  · exact (List.pairwise_cons.mp sD).1 y z
theorem srt_seg {a : Array Keyed} (sA : Srt key a.toList) (lo hi : Nat) (h : hi ≤ a.size) : Seg key a lo hi := fun i j h1 h2 h3 => by
  rw [← Kg_at (show i < a.size by omega), ← Kg_at (show j < a.size by omega)]
  by_cases e : i = j
  · subst e; exact le2_refl _
  · have := List.pairwise_iff_getElem.mp sA i j (by simpa using (by omega : i < a.size)) (by simpa using (by omega : j < a.size)) (by omega)
    simpa using this
theorem mem_drop_at {A : List Keyed} {i : Nat} {y : Keyed} (h : y ∈ A.drop i) : ∃ j, ∃ hj : j < A.length, i ≤ j ∧ A[j] = y := by
  obtain ⟨m, hm, e⟩ := List.mem_iff_getElem.mp h
  rw [List.length_drop] at hm
  exact ⟨i + m, by omega, by omega, by rw [← e]; simp⟩
theorem mem_take_at {A : List Keyed} {i k : Nat} {y : Keyed} (h : y ∈ (A.drop i).take k) : ∃ j, ∃ hj : j < A.length, i ≤ j ∧ j < i + k ∧ A[j] = y := by
  obtain ⟨m, hm, e⟩ := List.mem_iff_getElem.mp h
  rw [List.length_take, List.length_drop] at hm
  exact ⟨i + m, by omega, by omega, by omega, by rw [← e]; simp⟩
end
end HT

set_option Elab.async false
set_option linter.all false
set_option maxRecDepth 100000
set_option maxHeartbeats 4000000
namespace HT
open PySem PySem.W PyProof.Rows PySem.Calls
section
variable {prog : Program} {w : World} {A : Around} {E : Value → Shared → Prop} {s : Shared} {key : Keyed → Int × Int} {G : Keyed → Prop} {κ : SortKind}
theorem kg_list {a : Array Keyed} {i : Nat} (h : i < a.toList.length) : Kg key a i = key a.toList[i] := by
  rw [← Kg_at (by simpa using h)]
  simp
/-- what a turn of the merge starts from -/
structure LoAt (key : Keyed → Int × Int) (a b : Array Keyed) (m : Nat) (out : Array Keyed) (ia ib : Nat) : Prop where
  lo : Lo key a.toList b.toList out.toList ia ib
  ha : ia + 1 < a.size
  hb : ib < b.size
  m : m ≤ ia + ib
section
variable {a b : Array Keyed} {m ia ib : Nat} {out : Array Keyed}
theorem Lo.pushB (h : Lo key a.toList b.toList out.toList ia ib) (sB : Srt key b.toList) (hb : ib < b.size) (hx : ∀ y ∈ a.toList.drop ia, LE2 key b[ib] y) : Lo key a.toList b.toList (out.push b[ib]).toList ia (ib + 1) := by
  have e := (h.swap.takeA sB 1 (fun x hx' y hy => by
    rw [drop_one (by simpa using hb)] at hx'
    rw [List.mem_singleton.mp hx']
    simpa using hx y hy)).swap
  rw [drop_one (by simpa using hb)] at e
  simpa using e
theorem Lo.pushA (h : Lo key a.toList b.toList out.toList ia ib) (sA : Srt key a.toList) (ha : ia < a.size) (hx : ∀ y ∈ b.toList.drop ib, LE2 key a[ia] y) : Lo key a.toList b.toList (out.push a[ia]).toList (ia + 1) ib := by
  have e := h.takeA sA 1 (fun x hx' y hy => by
    rw [drop_one (by simpa using ha)] at hx'
    rw [List.mem_singleton.mp hx']
    simpa using hx y hy)
  rw [drop_one (by simpa using ha)] at e
  simpa using e
theorem Lo.someA (h : Lo key a.toList b.toList out.toList ia ib) (sA : Srt key a.toList) (k : Nat) (hx : ∀ x ∈ (a.toList.drop ia).take k, ∀ y ∈ b.toList.drop ib, LE2 key x y) : Lo key a.toList b.toList (out ++ a.extract ia (ia + k)).toList (ia + k) ib := by
  have e := h.takeA sA k hx
  rw [Array.toList_append, toList_ex]
  exact e
theorem Lo.someB (h : Lo key a.toList b.toList out.toList ia ib) (sB : Srt key b.toList) (k : Nat) (hx : ∀ x ∈ (b.toList.drop ib).take k, ∀ y ∈ a.toList.drop ia, LE2 key x y) : Lo key a.toList b.toList (out ++ b.extract ib (ib + k)).toList ia (ib + k) := by
  have e := (h.swap.takeA sB k hx).swap
  rw [Array.toList_append, toList_ex]
  exact e
theorem Lo.done (h : Lo key a.toList b.toList out.toList ia ib) (sA : Srt key a.toList) (sB : Srt key b.toList) (z : ia = a.size ∨ ib = b.size) : Fin2 key a.toList b.toList (out ++ a.extract ia a.size ++ b.extract ib b.size).toList := by
  rw [Array.toList_append, Array.toList_append, toList_rest, toList_rest]
  refine h.fin sA sB fun x hx y hy => ?_
  rcases z with z | z
  · rw [List.drop_of_length_le (by simp [z])] at hx; exact (nomatch hx)
  · rw [List.drop_of_length_le (by simp [z])] at hy; exact (nomatch hy)
theorem Lo.last (h : Lo key a.toList b.toList out.toList ia ib) (sA : Srt key a.toList) (sB : Srt key b.toList) (z : ia + 1 = a.size) (top : ∀ y ∈ b.toList, le2 (key y) (Kg key a (a.size - 1))) : Fin2 key a.toList b.toList (out ++ b.extract ib b.size ++ a.extract ia a.size).toList := by
  rw [Array.toList_append, Array.toList_append, toList_rest, toList_rest]
  refine h.finB sA sB fun x hx y hy => ?_
  obtain ⟨j, hj, h1, rfl⟩ := mem_drop_at hx
  have hj' : j < a.size := by simpa using hj
  have := top y (List.mem_of_mem_drop hy)
  rw [show a.size - 1 = j by omega, kg_list hj] at this
  exact this
end
theorem srt_leA {a : Array Keyed} (sA : Srt key a.toList) {i : Nat} (h : i < a.size) : ∀ y ∈ a.toList.drop i, le2 (key a[i]) (key y) := fun y hy => by
  have := srt_le sA (i := i) (by simpa using h) y hy
  rw [Array.getElem_toList] at this
  exact this
theorem gal_le {left : Bool} {k : Keyed} {arr : Array Keyed} {base r : Nat} (hl : ∀ i, i < r → bey key left k arr base i = true) : ∀ x ∈ (arr.toList.drop base).take r, le2 (key x) (key k) := fun x hx => by
  obtain ⟨j, hj, h1, h2, rfl⟩ := mem_take_at hx
  have := bey_le (hl (j - base) (by omega))
  rw [show base + (j - base) = j by omega, kg_list hj] at this
  exact this
theorem gal_ge {left : Bool} {k : Keyed} {arr : Array Keyed} {base r : Nat} (hg : ∀ i, r ≤ i → i < arr.size - base → bey key left k arr base i = false) : ∀ x ∈ arr.toList.drop (base + r), le2 (key k) (key x) := fun x hx => by
  obtain ⟨j, hj, h1, rfl⟩ := mem_drop_at hx
  have hj' : j < arr.size := by simpa using hj
  have := bey_ge (hg (j - base) (by omega) (by omega))
  rw [show base + (j - base) = j by omega, kg_list hj] at this
  exact this
theorem s_lo {st : SortSt} {a b : Array Keyed} {Q : Array Keyed → SortSt → Prop} (K : Asks prog w A s κ key G) (hk : kindOf st = κ) (gA : ∀ x ∈ a, G x) (gB : ∀ x ∈ b, G x) (ha : 0 < a.size) (hb : 0 < b.size) (sA : Srt key a.toList) (sB : Srt key b.toList)
    (bot : ∀ y ∈ a.toList, le2 (Kg key b 0) (key y)) (top : ∀ y ∈ b.toList, le2 (key y) (Kg key a (a.size - 1))) (h : ∀ r st', Fr2 st st' → Fin2 key a.toList b.toList r.toList → Q r st') :
    wpS (model prog w) A E s (mergeLo' a b) Q st := by
  refine wpS_bind (wpS_lift (wpAny_rule ⟨rfl, ?_⟩))
  refine wpS_bind (s_elem hb ?_)
  have L0 : Lo key a.toList b.toList (#[b[0]] : Array Keyed).toList 0 1 := by
    have e : Lo key a.toList b.toList (#[] : Array Keyed).toList 0 0 := ⟨by simp, List.Pairwise.nil, fun x hx => (nomatch hx), fun x hx => (nomatch hx)⟩
    have := e.pushB sB hb fun y hy => by
      have := bot y (List.mem_of_mem_drop hy)
      rw [← Kg_at hb] at this
      exact this
    simpa using this
  refine s_ite (fun c => wpS_pure (h _ st (Fr2.refl st) (L0.done sA sB (.inr (by simpa using c))))) (fun c1 => s_ite (fun c => wpS_pure (h _ st (Fr2.refl st) (L0.last sA sB (by simpa using c) top))) fun c2 => ?_)
  have c1 : ¬ 1 = b.size := by simpa using c1
  have c2 : ¬ 1 = a.size := by simpa using c2
  refine wpS_bind (wpS_get ?_)
  refine wpS_bind (wpS_mono (wpS_forRange (I := fun x c st' => Fr2 st st' ∧ ∃ out ia ib mg, c = (none, out, ia, ib, mg) ∧ LoAt key a b (x + 1) out ia ib)
    (Q := fun c st' => Fr2 st st' ∧ ∃ r z, c = (some r, z) ∧ Fin2 key a.toList b.toList r.toList) ?_ ?_ ⟨Fr2.refl st, _, 0, 1, _, rfl, L0, by omega, by omega, by omega⟩) ?_)
  · rintro x c st1 _ hx ⟨fr, out, ia, ib, mg, rfl, L⟩
    -- one at a time
    refine wpS_bind (wpS_mono (wpS_forRange (I := fun y c st' => st' = st1 ∧ ∃ out ia ib ac bc, c = (none, out, ia, ib, ac, bc) ∧ LoAt key a b (x + 1 + y) out ia ib)
      (Q := fun c st' => st' = st1 ∧ ((∃ r z, c = (some r, z) ∧ Fin2 key a.toList b.toList r.toList) ∨ ∃ out ia ib ac bc, c = (none, out, ia, ib, ac, bc) ∧ LoAt key a b (x + 2) out ia ib)) ?_ ?_ ⟨rfl, out, ia, ib, 0, 0, rfl, L⟩) ?_)
    · rintro y c st' _ hy ⟨rfl, out, ia, ib, ac, bc, rfl, L⟩
      have hk1 : kindOf st' = κ := fr.k.trans hk
      have ha1 : ia < a.size := by have := L.ha; omega
      have hb1 := L.hb
      have lm := L.m
      refine wpS_bind (s_elem hb1 (wpS_bind (s_elem ha1 (wpS_bind (s_lt K hk1 (gB _ (Array.getElem_mem hb1)) (gA _ (Array.getElem_mem ha1)) ?_)))))
      refine s_ite (fun cc => ?_) (fun cc => ?_)
      · have cc : lt2 (key b[ib]) (key a[ia]) := of_decide_eq_true cc
        refine wpS_bind (s_elem hb1 ?_)
        have L2 := L.lo.pushB sB hb1 fun y hy => le2_trans (lt2_le cc) (srt_leA sA ha1 y hy)
        refine s_ite (fun d => wpS_pure ⟨rfl, .inl ⟨_, _, rfl, L2.done sA sB (.inr (by simpa using d))⟩⟩) (fun d => ?_)
        have d : ¬ ib + 1 = b.size := by simpa using d
        have L3 : LoAt key a b (x + 2) (out.push b[ib]) ia (ib + 1) := ⟨L2, L.ha, by omega, by omega⟩
        have L4 : LoAt key a b (x + 1 + (y + 1)) (out.push b[ib]) ia (ib + 1) := ⟨L2, L.ha, by omega, by omega⟩
        exact s_ite (fun _ => wpS_pure ⟨rfl, .inr ⟨_, _, _, _, _, rfl, L3⟩⟩) (fun _ => wpS_pure ⟨rfl, _, _, _, _, _, rfl, L4⟩)
      · have cc : ¬ lt2 (key b[ib]) (key a[ia]) := fun z => cc (decide_eq_true z)
        refine wpS_bind (s_elem ha1 ?_)
        have L2 := L.lo.pushA sA ha1 fun y hy => le2_trans cc (srt_leA sB hb1 y hy)
        refine s_ite (fun d => wpS_pure ⟨rfl, .inl ⟨_, _, rfl, L2.last sA sB (by simpa using d) top⟩⟩) (fun d => ?_)
        have d : ¬ ia + 1 + 1 = a.size := by simpa using d
        have lh := L.ha
        have L3 : LoAt key a b (x + 2) (out.push a[ia]) (ia + 1) ib := ⟨L2, by omega, hb1, by omega⟩
        have L4 : LoAt key a b (x + 1 + (y + 1)) (out.push a[ia]) (ia + 1) ib := ⟨L2, by omega, hb1, by omega⟩
        exact s_ite (fun _ => wpS_pure ⟨rfl, .inr ⟨_, _, _, _, _, rfl, L3⟩⟩) (fun _ => wpS_pure ⟨rfl, _, _, _, _, _, rfl, L4⟩)
    · rintro c st' ⟨rfl, out, ia, ib, ac, bc, rfl, L⟩
      exact ⟨rfl, .inr ⟨_, _, _, _, _, rfl, L.lo, L.ha, L.hb, by have := L.m; omega⟩⟩
    rintro c st' ⟨rfl, ⟨r, z, rfl, F⟩ | ⟨out, ia, ib, ac, bc, rfl, L⟩⟩
    · exact wpS_pure ⟨fr, _, _, rfl, F⟩
    refine wpS_bind (wpS_lift (wpAny_rule ⟨rfl, ?_⟩))
    -- galloping
    refine wpS_bind (wpS_mono (wpS_forRange (I := fun y c st' => Fr2 st st' ∧ ∃ out ia ib mg ac bc, c = (none, out, ia, ib, mg, ac, bc) ∧ LoAt key a b (x + 2) out ia ib)
      (Q := fun c st' => Fr2 st st' ∧ ((∃ r z, c = (some r, z) ∧ Fin2 key a.toList b.toList r.toList) ∨ ∃ out ia ib mg ac bc, c = (none, out, ia, ib, mg, ac, bc) ∧ LoAt key a b (x + 2) out ia ib)) ?_ ?_ ⟨fr, out, ia, ib, _, ac, bc, rfl, L⟩) ?_)
    · clear fr L
      rintro y c st2 _ hy ⟨fr, out, ia, ib, mg, ac, bc, rfl, L⟩
      have ha1 : ia < a.size := by have := L.ha; omega
      have hb1 := L.hb
      have lm := L.m
      have lh := L.ha
      refine s_ite (fun _ => ?_) (fun _ => ?_)
      all_goals
        refine wpS_bind (s_setG (wpS_bind (s_elem hb1 (wpS_bind (s_gallop K ((fr.set _).k.trans hk) gA (gB _ (Array.getElem_mem hb1)) (base := ia) (n := a.size - ia) (by omega) (by omega) (srt_seg sA _ _ (by omega)) fun k hk1 hlt hge => ?_)))))
        have tk := gal_le hlt
        have rs := gal_ge hge
        refine s_ite (fun ck => ?_) (fun ck => ?_)
        · have LL := L.lo.someA sA k fun x hx y hy => le2_trans (tk x hx) (srt_leA sB hb1 y hy)
          refine s_ite (fun d => wpS_pure ⟨fr.set _, .inl ⟨_, _, rfl, LL.last sA sB (by simpa using d) top⟩⟩) (fun d1 => s_ite (fun d => wpS_pure ⟨fr.set _, .inl ⟨_, _, rfl, LL.done sA sB (.inl (by simpa using d))⟩⟩) (fun d2 => ?_))
          have d1 : ¬ ia + k + 1 = a.size := by simpa using d1
          have d2 : ¬ ia + k = a.size := by simpa using d2
          have hA2 : ia + k + 1 < a.size := by omega
          have lm2 : x + 2 ≤ ia + k + ib := by omega
          clear d1 d2 L tk ck
          generalize out ++ a.extract ia (ia + k) = out2 at *
          generalize ia + k = ia2 at *
          refine wpS_bind (s_elem hb1 ?_)
          have L2 := LL.pushB sB hb1 rs
          refine s_ite (fun d => wpS_pure ⟨fr.set _, .inl ⟨_, _, rfl, L2.done sA sB (.inr (by simpa using d))⟩⟩) (fun d => ?_)
          have d : ¬ ib + 1 = b.size := by simpa using d
          have ha2 : ia2 < a.size := by omega
          refine wpS_bind (s_elem ha2 (wpS_bind (s_gallop K ((fr.set _).k.trans hk) gB (gA _ (Array.getElem_mem ha2)) (base := ib + 1) (n := b.size - (ib + 1)) (by omega) (by omega) (srt_seg sB _ _ (by omega)) fun k2 hk2 hlt2 hge2 => ?_)))
          have tk2 := gal_le hlt2
          have rs2 := gal_ge hge2
          refine s_ite (fun ck2 => ?_) (fun ck2 => ?_)
          · have L3 := L2.someB sB k2 fun x hx y hy => le2_trans (tk2 x hx) (srt_leA sA ha2 y hy)
            refine s_ite (fun d => wpS_pure ⟨fr.set _, .inl ⟨_, _, rfl, L3.done sA sB (.inr (by simpa using d))⟩⟩) (fun d2 => ?_)
            have d2 : ¬ ib + 1 + k2 = b.size := by simpa using d2
            refine wpS_bind (s_elem ha2 ?_)
            have L4 := L3.pushA sA ha2 rs2
            refine s_ite (fun d => wpS_pure ⟨fr.set _, .inl ⟨_, _, rfl, L4.last sA sB (by simpa using d) top⟩⟩) (fun d3 => ?_)
            have d3 : ¬ ia2 + 1 + 1 = a.size := by simpa using d3
            have L5 : LoAt key a b (x + 2) _ (ia2 + 1) (ib + 1 + k2) := ⟨L4, by omega, by omega, by omega⟩
            exact s_ite (fun _ => wpS_pure ⟨fr.set _, .inr ⟨_, _, _, _, _, _, rfl, L5⟩⟩) (fun _ => wpS_pure ⟨fr.set _, _, _, _, _, _, _, rfl, L5⟩)
          · have k0 : k2 = 0 := by omega
            subst k0
            refine wpS_bind (s_elem ha2 ?_)
            have L4 := L2.pushA sA ha2 rs2
            refine s_ite (fun d => wpS_pure ⟨fr.set _, .inl ⟨_, _, rfl, L4.last sA sB (by simpa using d) top⟩⟩) (fun d3 => ?_)
            have d3 : ¬ ia2 + 1 + 1 = a.size := by simpa using d3
            have L5 : LoAt key a b (x + 2) _ (ia2 + 1) (ib + 1) := ⟨L4, by omega, by omega, by omega⟩
            exact s_ite (fun _ => wpS_pure ⟨fr.set _, .inr ⟨_, _, _, _, _, _, rfl, L5⟩⟩) (fun _ => wpS_pure ⟨fr.set _, _, _, _, _, _, _, rfl, L5⟩)
        · have k0 : k = 0 := by omega
          subst k0
          have LL := L.lo
          have rs : ∀ y ∈ a.toList.drop ia, LE2 key b[ib] y := rs
          refine wpS_bind (s_elem hb1 ?_)
          have L2 := LL.pushB sB hb1 rs
          refine s_ite (fun d => wpS_pure ⟨fr.set _, .inl ⟨_, _, rfl, L2.done sA sB (.inr (by simpa using d))⟩⟩) (fun d => ?_)
          have d : ¬ ib + 1 = b.size := by simpa using d
          have ha2 := ha1
          refine wpS_bind (s_elem ha2 (wpS_bind (s_gallop K ((fr.set _).k.trans hk) gB (gA _ (Array.getElem_mem ha2)) (base := ib + 1) (n := b.size - (ib + 1)) (by omega) (by omega) (srt_seg sB _ _ (by omega)) fun k2 hk2 hlt2 hge2 => ?_)))
          have tk2 := gal_le hlt2
          have rs2 := gal_ge hge2
          refine s_ite (fun ck2 => ?_) (fun ck2 => ?_)
          · have L3 := L2.someB sB k2 fun x hx y hy => le2_trans (tk2 x hx) (srt_leA sA ha2 y hy)
            refine s_ite (fun d => wpS_pure ⟨fr.set _, .inl ⟨_, _, rfl, L3.done sA sB (.inr (by simpa using d))⟩⟩) (fun d2 => ?_)
            have d2 : ¬ ib + 1 + k2 = b.size := by simpa using d2
            refine wpS_bind (s_elem ha2 ?_)
            have L4 := L3.pushA sA ha2 rs2
            refine s_ite (fun d => wpS_pure ⟨fr.set _, .inl ⟨_, _, rfl, L4.last sA sB (by simpa using d) top⟩⟩) (fun d3 => ?_)
            have d3 : ¬ ia + 1 + 1 = a.size := by simpa using d3
            have L5 : LoAt key a b (x + 2) _ (ia + 1) (ib + 1 + k2) := ⟨L4, by omega, by omega, by omega⟩
            exact s_ite (fun _ => wpS_pure ⟨fr.set _, .inr ⟨_, _, _, _, _, _, rfl, L5⟩⟩) (fun _ => wpS_pure ⟨fr.set _, _, _, _, _, _, _, rfl, L5⟩)
          · have k0 : k2 = 0 := by omega
            subst k0
            refine wpS_bind (s_elem ha2 ?_)
            have L4 := L2.pushA sA ha2 rs2
            refine s_ite (fun d => wpS_pure ⟨fr.set _, .inl ⟨_, _, rfl, L4.last sA sB (by simpa using d) top⟩⟩) (fun d3 => ?_)
            have d3 : ¬ ia + 1 + 1 = a.size := by simpa using d3
            have L5 : LoAt key a b (x + 2) _ (ia + 1) (ib + 1) := ⟨L4, by omega, by omega, by omega⟩
            exact s_ite (fun _ => wpS_pure ⟨fr.set _, .inr ⟨_, _, _, _, _, _, rfl, L5⟩⟩) (fun _ => wpS_pure ⟨fr.set _, _, _, _, _, _, _, rfl, L5⟩)
    · rintro c st' ⟨fr, out, ia, ib, mg, ac, bc, rfl, L⟩
      exact ⟨fr, .inr ⟨_, _, _, _, _, _, rfl, L⟩⟩
    rintro c st' ⟨fr, ⟨r, z, rfl, F⟩ | ⟨out, ia, ib, mg, ac, bc, rfl, L⟩⟩
    · exact wpS_pure ⟨fr, _, _, rfl, F⟩
    · exact wpS_bind (s_setG (wpS_pure ⟨fr.set _, _, _, _, _, rfl, L⟩))
  · rintro c st' ⟨fr, out, ia, ib, mg, rfl, L⟩
    have := L.ha; have := L.hb; have := L.m
    omega
  · rintro c st' ⟨fr, r, z, rfl, F⟩
    exact wpS_pure (h r st' fr F)
end
end HT

set_option Elab.async false
set_option linter.all false
set_option maxRecDepth 100000
set_option maxHeartbeats 4000000
namespace HT
open PySem PySem.W PyProof.Rows PySem.Calls
section
variable {prog : Program} {w : World} {A : Around} {E : Value → Shared → Prop} {s : Shared} {key : Keyed → Int × Int} {G : Keyed → Prop} {κ : SortKind}
/-- what is out falls, and is not below what is left -/
structure Hi (key : Keyed → Int × Int) (A B O : List Keyed) (i j : Nat) : Prop where
  perm : O.Perm (A.drop i ++ B.drop j)
  srt : O.Pairwise (fun x y => LE2 key y x)
  la : ∀ x ∈ O, ∀ y ∈ A.take i, LE2 key y x
  lb : ∀ x ∈ O, ∀ y ∈ B.take j, LE2 key y x
theorem Hi.swap {A B O : List Keyed} {i j : Nat} (h : Hi key A B O i j) : Hi key B A O j i := ⟨h.perm.trans List.perm_append_comm, h.srt, h.lb, h.la⟩
theorem Hi.takeA {A B O : List Keyed} {i j i' : Nat} (h : Hi key A B O i j) (sA : Srt key A) (hi : i' ≤ i) (hk : ∀ x ∈ (A.take i).drop i', ∀ y ∈ B.take j, LE2 key y x) : Hi key A B (O ++ ((A.take i).drop i').reverse) i' j := by
  have sD : Srt key (A.take i) := List.Pairwise.sublist (List.take_sublist i A) sA
  have e : A.take i' ++ (A.take i).drop i' = A.take i := by
    have := List.take_append_drop i' (A.take i)
    rw [List.take_take, Nat.min_eq_left hi] at this
    exact this
  have e2 : A.drop i' = (A.take i).drop i' ++ A.drop i := by
    have := congrArg (List.drop i') (List.take_append_drop i A)
    by_cases c : i' ≤ A.length
    · rw [List.drop_append_of_le_length (by rw [List.length_take]; omega)] at this
      exact this.symm
    · rw [List.drop_of_length_le (by omega), List.drop_of_length_le (l := A) (by omega), List.drop_of_length_le (by rw [List.length_take]; omega)]
      rfl
  have sD2 := sD
  rw [← e] at sD2
  obtain ⟨_, s1, s3⟩ := List.pairwise_append.mp sD2
  refine ⟨?_, List.pairwise_append.mpr ⟨h.srt, List.pairwise_reverse.mpr s1, fun x hx y hy => h.la x hx y (List.mem_of_mem_drop (List.mem_reverse.mp hy))⟩, fun x hx y hy => ?_, fun x hx y hy => ?_⟩
  · rw [e2]
    refine (h.perm.append (List.reverse_perm _)).trans ?_
    refine List.perm_append_comm.trans ?_
    rw [List.append_assoc]
  · rcases List.mem_append.mp hx with hx | hx
    · exact h.la x hx y (by rw [← e]; exact List.mem_append_left _ hy)
    · exact s3 y hy x (List.mem_reverse.mp hx)
  · rcases List.mem_append.mp hx with hx | hx
    · exact h.lb x hx y hy
    · exact hk x (List.mem_reverse.mp hx) y hy
theorem Hi.fin {A B O : List Keyed} {i j : Nat} (h : Hi key A B O i j) (sA : Srt key A) (sB : Srt key B) (hx : ∀ x ∈ A.take i, ∀ y ∈ B.take j, LE2 key x y) : Fin2 key A B (A.take i ++ B.take j ++ O.reverse) := by
  refine ⟨?_, List.pairwise_append.mpr ⟨List.pairwise_append.mpr ⟨List.Pairwise.sublist (List.take_sublist i A) sA, List.Pairwise.sublist (List.take_sublist j B) sB, hx⟩, List.pairwise_reverse.mpr h.srt, fun x hx y hy => ?_⟩⟩
  · refine (List.Perm.append_left _ ((List.reverse_perm O).trans h.perm)).trans ?_
    refine List.Perm.trans (l₂ := (A.take i ++ A.drop i) ++ (B.take j ++ B.drop j)) ?_ (by rw [List.take_append_drop, List.take_append_drop])
    simp only [List.append_assoc]
    refine List.Perm.append_left _ ?_
    rw [← List.append_assoc, ← List.append_assoc]
    exact List.perm_append_comm.append_right _
  · rcases List.mem_append.mp hx with hx | hx
    · exact h.la y (List.mem_reverse.mp hy) x hx
    · exact h.lb y (List.mem_reverse.mp hy) x hx
theorem Hi.finB {A B O : List Keyed} {i j : Nat} (h : Hi key A B O i j) (sA : Srt key A) (sB : Srt key B) (hx : ∀ x ∈ A.take i, ∀ y ∈ B.take j, LE2 key y x) : Fin2 key A B (B.take j ++ A.take i ++ O.reverse) := by
  have := h.swap.fin sB sA fun y hy x hx' => hx x hx' y hy
  exact ⟨this.perm.trans List.perm_append_comm, this.srt⟩
theorem toList_cut (a : Array Keyed) (i j : Nat) : (a.extract i j).toList = (a.toList.take j).drop i := by
  rw [Array.toList_extract]
  simp only [List.extract]
  rw [List.drop_take]
theorem toList_head (a : Array Keyed) (j : Nat) : (a.extract 0 j).toList = a.toList.take j := by
  rw [toList_cut, List.drop_zero]
theorem take_one {α : Type} {l : List α} {i : Nat} (h : 0 < i) (hl : i ≤ l.length) : (l.take i).drop (i - 1) = [l[i - 1]] := by
  rw [List.drop_eq_getElem_cons (by rw [List.length_take]; omega), List.drop_of_length_le (by rw [List.length_take]; omega)]
  simp
theorem srt_geA {a : Array Keyed} (sA : Srt key a.toList) {i : Nat} (h : i ≤ a.size) (h0 : 0 < i) (h1 : i - 1 < a.size) : ∀ y ∈ a.toList.take i, le2 (key y) (key a[i - 1]) := fun y hy => by
  obtain ⟨j, hj, e⟩ := List.mem_iff_getElem.mp hy
  rw [List.length_take] at hj
  have e2 : y = a.toList[j]'(by omega) := by rw [← e]; simp
  rw [e2]
  by_cases c : j = i - 1
  · subst c; simp; exact le2_refl _
  · have := List.pairwise_iff_getElem.mp sA j (i - 1) (by omega) (by simpa using h1) (by omega)
    simpa using this
theorem gal0_le {left : Bool} {k : Keyed} {arr : Array Keyed} {r : Nat} (hl : ∀ i, i < r → bey key left k arr 0 i = true) : ∀ x ∈ arr.toList.take r, le2 (key x) (key k) := fun x hx => by
  have := gal_le (base := 0) hl
  rw [List.drop_zero] at this
  exact this x hx
theorem gal0_ge {left : Bool} {k : Keyed} {arr : Array Keyed} {r n : Nat} (hg : ∀ i, r ≤ i → i < n → bey key left k arr 0 i = false) : ∀ x ∈ (arr.toList.take n).drop r, le2 (key k) (key x) := fun x hx => by
  obtain ⟨m, hm, e⟩ := List.mem_iff_getElem.mp hx
  rw [List.length_drop, List.length_take] at hm
  have e2 : x = arr.toList[r + m]'(by omega) := by rw [← e]; simp
  have := bey_ge (hg (r + m) (by omega) (by omega))
  rw [Nat.zero_add, kg_list (by omega), ← e2] at this
  exact this
structure HiAt (key : Keyed → Int × Int) (a b : Array Keyed) (m : Nat) (out : Array Keyed) (na nb : Nat) : Prop where
  hi : Hi key a.toList b.toList out.toList na nb
  ha : 0 < na
  ha2 : na ≤ a.size
  hb : 1 < nb
  hb2 : nb ≤ b.size
  m : m + na + nb ≤ a.size + b.size
section
variable {a b : Array Keyed} {m na nb : Nat} {out : Array Keyed}
theorem Hi.pushA (h : Hi key a.toList b.toList out.toList na nb) (sA : Srt key a.toList) (h0 : 0 < na) (h2 : na ≤ a.size) (h1 : na - 1 < a.size) (hx : ∀ y ∈ b.toList.take nb, le2 (key y) (key a[na - 1])) : Hi key a.toList b.toList (out.push a[na - 1]).toList (na - 1) nb := by
  have t1 := take_one (l := a.toList) h0 (by simpa using h2)
  have e := h.takeA sA (show na - 1 ≤ na by omega) (fun x hx' y hy => by
    rw [t1] at hx'
    rw [List.mem_singleton.mp hx']
    simpa using hx y hy)
  rw [t1] at e
  simpa using e
theorem Hi.pushB (h : Hi key a.toList b.toList out.toList na nb) (sB : Srt key b.toList) (h0 : 0 < nb) (h2 : nb ≤ b.size) (h1 : nb - 1 < b.size) (hx : ∀ y ∈ a.toList.take na, le2 (key y) (key b[nb - 1])) : Hi key a.toList b.toList (out.push b[nb - 1]).toList na (nb - 1) := (h.swap.pushA sB h0 h2 h1 hx).swap
theorem Hi.someA (h : Hi key a.toList b.toList out.toList na nb) (sA : Srt key a.toList) {r : Nat} (hr : r ≤ na) (hx : ∀ x ∈ (a.toList.take na).drop r, ∀ y ∈ b.toList.take nb, LE2 key y x) : Hi key a.toList b.toList (out ++ (a.extract r na).reverse).toList r nb := by
  have e := h.takeA sA hr hx
  rw [Array.toList_append, Array.toList_reverse, toList_cut]
  exact e
theorem Hi.someB (h : Hi key a.toList b.toList out.toList na nb) (sB : Srt key b.toList) {r : Nat} (hr : r ≤ nb) (hx : ∀ x ∈ (b.toList.take nb).drop r, ∀ y ∈ a.toList.take na, LE2 key y x) : Hi key a.toList b.toList (out ++ (b.extract r nb).reverse).toList na r := (h.swap.someA sB hr hx).swap
theorem Hi.done (h : Hi key a.toList b.toList out.toList na nb) (sA : Srt key a.toList) (sB : Srt key b.toList) (z : na = 0 ∨ nb = 0) : Fin2 key a.toList b.toList (a.extract 0 na ++ b.extract 0 nb ++ out.reverse).toList := by
  rw [Array.toList_append, Array.toList_append, Array.toList_reverse, toList_head, toList_head]
  refine h.fin sA sB fun x hx y hy => ?_
  rcases z with z | z
  · subst z; exact (nomatch hx)
  · subst z; exact (nomatch hy)
theorem Hi.first (h : Hi key a.toList b.toList out.toList na nb) (sA : Srt key a.toList) (sB : Srt key b.toList) (z : nb = 1) (bot : ∀ y ∈ a.toList, le2 (Kg key b 0) (key y)) : Fin2 key a.toList b.toList (b.extract 0 nb ++ a.extract 0 na ++ out.reverse).toList := by
  rw [Array.toList_append, Array.toList_append, Array.toList_reverse, toList_head, toList_head]
  refine h.finB sA sB fun x hx y hy => ?_
  subst z
  have hb := bot x (List.mem_of_mem_take hx)
  obtain ⟨m, hm, e⟩ := List.mem_iff_getElem.mp hy
  rw [List.length_take] at hm
  have e2 : y = b.toList[0]'(by omega) := by
    rw [← e]
    simp [show m = 0 by omega]
  rw [kg_list (by omega), ← e2] at hb
  exact hb
end
theorem s_hi {st : SortSt} {a b : Array Keyed} {Q : Array Keyed → SortSt → Prop} (K : Asks prog w A s κ key G) (hk : kindOf st = κ) (gA : ∀ x ∈ a, G x) (gB : ∀ x ∈ b, G x) (ha : 0 < a.size) (hb : 0 < b.size) (sA : Srt key a.toList) (sB : Srt key b.toList)
    (bot : ∀ y ∈ a.toList, le2 (Kg key b 0) (key y)) (top : ∀ y ∈ b.toList, le2 (key y) (Kg key a (a.size - 1))) (h : ∀ r st', Fr2 st st' → Fin2 key a.toList b.toList r.toList → Q r st') :
    wpS (model prog w) A E s (mergeHi' a b) Q st := by
  have h1 : a.size - 1 < a.size := by omega
  refine wpS_bind (wpS_lift (wpAny_rule ⟨rfl, ?_⟩))
  refine wpS_bind (s_elem h1 ?_)
  have L0 : Hi key a.toList b.toList (#[a[a.size - 1]] : Array Keyed).toList (a.size - 1) b.size := by
    have e : Hi key a.toList b.toList (#[] : Array Keyed).toList a.size b.size := ⟨by simp, List.Pairwise.nil, fun x hx => (nomatch hx), fun x hx => (nomatch hx)⟩
    have := e.pushA sA ha (Nat.le_refl _) h1 fun y hy => by
      have := top y (List.mem_of_mem_take hy)
      rw [← Kg_at h1] at this
      exact this
    simpa using this
  refine s_ite (fun c => wpS_pure (h _ st (Fr2.refl st) (L0.done sA sB (.inl (by simpa using c))))) (fun c1 => s_ite (fun c => wpS_pure (h _ st (Fr2.refl st) (L0.first sA sB (by simpa using c) bot))) fun c2 => ?_)
  have c1 : ¬ a.size - 1 = 0 := by simpa using c1
  have c2 : ¬ b.size = 1 := by simpa using c2
  refine wpS_bind (wpS_get ?_)
  refine wpS_bind (wpS_mono (wpS_forRange (I := fun x c st' => Fr2 st st' ∧ ∃ out na nb mg, c = (none, na, nb, out, mg) ∧ HiAt key a b (x + 1) out na nb)
    (Q := fun c st' => Fr2 st st' ∧ ∃ r z, c = (some r, z) ∧ Fin2 key a.toList b.toList r.toList) ?_ ?_ ⟨Fr2.refl st, _, _, _, _, rfl, L0, by omega, by omega, by omega, by omega, by omega⟩) ?_)
  · rintro x c st1 _ hx ⟨fr, out, na, nb, mg, rfl, L⟩
    refine wpS_bind (wpS_mono (wpS_forRange (I := fun y c st' => st' = st1 ∧ ∃ out na nb ac bc, c = (none, na, nb, out, ac, bc) ∧ HiAt key a b (x + 1 + y) out na nb)
      (Q := fun c st' => st' = st1 ∧ ((∃ r z, c = (some r, z) ∧ Fin2 key a.toList b.toList r.toList) ∨ ∃ out na nb ac bc, c = (none, na, nb, out, ac, bc) ∧ HiAt key a b (x + 2) out na nb)) ?_ ?_ ⟨rfl, out, na, nb, 0, 0, rfl, L⟩) ?_)
    · rintro y c st' _ hy ⟨rfl, out, na, nb, ac, bc, rfl, ⟨L, l1, l2, l3, l4, lm⟩⟩
      have hk1 : kindOf st' = κ := fr.k.trans hk
      have ha1 : na - 1 < a.size := by omega
      have hb1 : nb - 1 < b.size := by omega
      refine wpS_bind (s_elem hb1 (wpS_bind (s_elem ha1 (wpS_bind (s_lt K hk1 (gB _ (Array.getElem_mem hb1)) (gA _ (Array.getElem_mem ha1)) ?_)))))
      refine s_ite (fun cc => ?_) (fun cc => ?_)
      · have cc : lt2 (key b[nb - 1]) (key a[na - 1]) := of_decide_eq_true cc
        refine wpS_bind (s_elem ha1 ?_)
        have L2 := L.pushA sA l1 l2 ha1 fun y hy => le2_trans (srt_geA sB l4 (by omega) hb1 y hy) (lt2_le cc)
        refine s_ite (fun d => wpS_pure ⟨rfl, .inl ⟨_, _, rfl, L2.done sA sB (.inl (by simpa using d))⟩⟩) (fun d => ?_)
        have d : ¬ na - 1 = 0 := by simpa using d
        have L3 : HiAt key a b (x + 2) (out.push a[na - 1]) (na - 1) nb := ⟨L2, by omega, by omega, l3, l4, by omega⟩
        have L4 : HiAt key a b (x + 1 + (y + 1)) (out.push a[na - 1]) (na - 1) nb := ⟨L2, by omega, by omega, l3, l4, by omega⟩
        exact s_ite (fun _ => wpS_pure ⟨rfl, .inr ⟨_, _, _, _, _, rfl, L3⟩⟩) (fun _ => wpS_pure ⟨rfl, _, _, _, _, _, rfl, L4⟩)
      · have cc : ¬ lt2 (key b[nb - 1]) (key a[na - 1]) := fun z => cc (decide_eq_true z)
        refine wpS_bind (s_elem hb1 ?_)
        have L2 := L.pushB sB (by omega) l4 hb1 fun y hy => le2_trans (srt_geA sA l2 l1 ha1 y hy) cc
        refine s_ite (fun d => wpS_pure ⟨rfl, .inl ⟨_, _, rfl, L2.first sA sB (by simpa using d) bot⟩⟩) (fun d => ?_)
        have d : ¬ nb - 1 = 1 := by simpa using d
        have L3 : HiAt key a b (x + 2) (out.push b[nb - 1]) na (nb - 1) := ⟨L2, l1, l2, by omega, by omega, by omega⟩
        have L4 : HiAt key a b (x + 1 + (y + 1)) (out.push b[nb - 1]) na (nb - 1) := ⟨L2, l1, l2, by omega, by omega, by omega⟩
        exact s_ite (fun _ => wpS_pure ⟨rfl, .inr ⟨_, _, _, _, _, rfl, L3⟩⟩) (fun _ => wpS_pure ⟨rfl, _, _, _, _, _, rfl, L4⟩)
    · rintro c st' ⟨rfl, out, na, nb, ac, bc, rfl, ⟨L, l1, l2, l3, l4, lm⟩⟩
      exact ⟨rfl, .inr ⟨_, _, _, _, _, rfl, L, l1, l2, l3, l4, by omega⟩⟩
    rintro c st' ⟨rfl, ⟨r, z, rfl, F⟩ | ⟨out, na, nb, ac, bc, rfl, L⟩⟩
    · exact wpS_pure ⟨fr, _, _, rfl, F⟩
    refine wpS_bind (wpS_lift (wpAny_rule ⟨rfl, ?_⟩))
    refine wpS_bind (wpS_mono (wpS_forRange (I := fun y c st' => Fr2 st st' ∧ ∃ out na nb mg ac bc, c = (none, na, nb, out, mg, ac, bc) ∧ HiAt key a b (x + 2) out na nb)
      (Q := fun c st' => Fr2 st st' ∧ ((∃ r z, c = (some r, z) ∧ Fin2 key a.toList b.toList r.toList) ∨ ∃ out na nb mg ac bc, c = (none, na, nb, out, mg, ac, bc) ∧ HiAt key a b (x + 2) out na nb)) ?_ ?_ ⟨fr, out, na, nb, _, ac, bc, rfl, L⟩) ?_)
    · clear fr L
      rintro y c st2 _ hy ⟨fr, out, na, nb, mg, ac, bc, rfl, ⟨L, l1, l2, l3, l4, lm⟩⟩
      have ha1 : na - 1 < a.size := by omega
      have hb1 : nb - 1 < b.size := by omega
      refine s_ite (fun _ => ?_) (fun _ => ?_)
      all_goals
        refine wpS_bind (s_setG (wpS_bind (s_elem hb1 (wpS_bind (s_gallop K ((fr.set _).k.trans hk) gA (gB _ (Array.getElem_mem hb1)) (base := 0) (n := na) (hint := na - 1) (by omega) (by omega) (srt_seg sA _ _ (by omega)) fun r hr hlt hge => ?_)))))
        have tk := gal0_le hlt
        have rs := gal0_ge hge
        refine s_ite (fun (ck : na - r > 0) => ?_) (fun (ck : ¬ na - r > 0) => ?_)
        · have LL := L.someA sA hr fun x hx y hy => le2_trans (srt_geA sB l4 (by omega) hb1 y hy) (rs x hx)
          refine s_ite (fun d => wpS_pure ⟨fr.set _, .inl ⟨_, _, rfl, LL.done sA sB (.inl (by simpa using d))⟩⟩) (fun d1 => ?_)
          have d1 : ¬ r = 0 := by simpa using d1
          refine wpS_bind (s_elem hb1 ?_)
          have L2 := LL.pushB sB (by omega) l4 hb1 tk
          refine s_ite (fun d => wpS_pure ⟨fr.set _, .inl ⟨_, _, rfl, L2.first sA sB (by simpa using d) bot⟩⟩) (fun d => ?_)
          have d : ¬ nb - 1 = 1 := by simpa using d
          have ha2 : r - 1 < a.size := by omega
          refine wpS_bind (s_elem ha2 (wpS_bind (s_gallop K ((fr.set _).k.trans hk) gB (gA _ (Array.getElem_mem ha2)) (base := 0) (n := nb - 1) (hint := nb - 1 - 1) (by omega) (by omega) (srt_seg sB _ _ (by omega)) fun q hq hlt2 hge2 => ?_)))
          have tk2 := gal0_le hlt2
          have rs2 := gal0_ge hge2
          refine s_ite (fun (ck2 : nb - 1 - q > 0) => ?_) (fun (ck2 : ¬ nb - 1 - q > 0) => ?_)
          · have L3 := L2.someB sB hq fun x hx y hy => le2_trans (srt_geA sA (by omega) (by omega) ha2 y hy) (rs2 x hx)
            refine s_ite (fun d => wpS_pure ⟨fr.set _, .inl ⟨_, _, rfl, L3.first sA sB (by simpa using d) bot⟩⟩) (fun e1 => s_ite (fun d => wpS_pure ⟨fr.set _, .inl ⟨_, _, rfl, L3.done sA sB (.inr (by simpa using d))⟩⟩) (fun e2 => ?_))
            have e1 : ¬ q = 1 := by simpa using e1
            have e2 : ¬ q = 0 := by simpa using e2
            refine wpS_bind (s_elem ha2 ?_)
            have L4 := L3.pushA sA (by omega) (by omega) ha2 tk2
            refine s_ite (fun d => wpS_pure ⟨fr.set _, .inl ⟨_, _, rfl, L4.done sA sB (.inl (by simpa using d))⟩⟩) (fun d3 => ?_)
            have d3 : ¬ r - 1 = 0 := by simpa using d3
            have L5 : HiAt key a b (x + 2) _ (r - 1) q := ⟨L4, by omega, by omega, by omega, by omega, by omega⟩
            exact s_ite (fun _ => wpS_pure ⟨fr.set _, .inr ⟨_, _, _, _, _, _, rfl, L5⟩⟩) (fun _ => wpS_pure ⟨fr.set _, _, _, _, _, _, _, rfl, L5⟩)
          · have q0 : q = nb - 1 := by omega
            subst q0
            refine wpS_bind (s_elem ha2 ?_)
            have L4 := L2.pushA sA (by omega) (by omega) ha2 tk2
            refine s_ite (fun d => wpS_pure ⟨fr.set _, .inl ⟨_, _, rfl, L4.done sA sB (.inl (by simpa using d))⟩⟩) (fun d3 => ?_)
            have d3 : ¬ r - 1 = 0 := by simpa using d3
            have L5 : HiAt key a b (x + 2) _ (r - 1) (nb - 1) := ⟨L4, by omega, by omega, by omega, by omega, by omega⟩
            exact s_ite (fun _ => wpS_pure ⟨fr.set _, .inr ⟨_, _, _, _, _, _, rfl, L5⟩⟩) (fun _ => wpS_pure ⟨fr.set _, _, _, _, _, _, _, rfl, L5⟩)
        · have r0 : r = na := by omega
          subst r0
          have LL := L
          refine wpS_bind (s_elem hb1 ?_)
          have L2 := LL.pushB sB (by omega) l4 hb1 tk
          refine s_ite (fun d => wpS_pure ⟨fr.set _, .inl ⟨_, _, rfl, L2.first sA sB (by simpa using d) bot⟩⟩) (fun d => ?_)
          have d : ¬ nb - 1 = 1 := by simpa using d
          have ha2 : r - 1 < a.size := by omega
          refine wpS_bind (s_elem ha2 (wpS_bind (s_gallop K ((fr.set _).k.trans hk) gB (gA _ (Array.getElem_mem ha2)) (base := 0) (n := nb - 1) (hint := nb - 1 - 1) (by omega) (by omega) (srt_seg sB _ _ (by omega)) fun q hq hlt2 hge2 => ?_)))
          have tk2 := gal0_le hlt2
          have rs2 := gal0_ge hge2
          refine s_ite (fun (ck2 : nb - 1 - q > 0) => ?_) (fun (ck2 : ¬ nb - 1 - q > 0) => ?_)
          · have L3 := L2.someB sB hq fun x hx y hy => le2_trans (srt_geA sA (by omega) (by omega) ha2 y hy) (rs2 x hx)
            refine s_ite (fun d => wpS_pure ⟨fr.set _, .inl ⟨_, _, rfl, L3.first sA sB (by simpa using d) bot⟩⟩) (fun e1 => s_ite (fun d => wpS_pure ⟨fr.set _, .inl ⟨_, _, rfl, L3.done sA sB (.inr (by simpa using d))⟩⟩) (fun e2 => ?_))
            have e1 : ¬ q = 1 := by simpa using e1
            have e2 : ¬ q = 0 := by simpa using e2
            refine wpS_bind (s_elem ha2 ?_)
            have L4 := L3.pushA sA (by omega) (by omega) ha2 tk2
            refine s_ite (fun d => wpS_pure ⟨fr.set _, .inl ⟨_, _, rfl, L4.done sA sB (.inl (by simpa using d))⟩⟩) (fun d3 => ?_)
            have d3 : ¬ r - 1 = 0 := by simpa using d3
            have L5 : HiAt key a b (x + 2) _ (r - 1) q := ⟨L4, by omega, by omega, by omega, by omega, by omega⟩
            exact s_ite (fun _ => wpS_pure ⟨fr.set _, .inr ⟨_, _, _, _, _, _, rfl, L5⟩⟩) (fun _ => wpS_pure ⟨fr.set _, _, _, _, _, _, _, rfl, L5⟩)
          · have q0 : q = nb - 1 := by omega
            subst q0
            refine wpS_bind (s_elem ha2 ?_)
            have L4 := L2.pushA sA (by omega) (by omega) ha2 tk2
            refine s_ite (fun d => wpS_pure ⟨fr.set _, .inl ⟨_, _, rfl, L4.done sA sB (.inl (by simpa using d))⟩⟩) (fun d3 => ?_)
            have d3 : ¬ r - 1 = 0 := by simpa using d3
            have L5 : HiAt key a b (x + 2) _ (r - 1) (nb - 1) := ⟨L4, by omega, by omega, by omega, by omega, by omega⟩
            exact s_ite (fun _ => wpS_pure ⟨fr.set _, .inr ⟨_, _, _, _, _, _, rfl, L5⟩⟩) (fun _ => wpS_pure ⟨fr.set _, _, _, _, _, _, _, rfl, L5⟩)
    · rintro c st' ⟨fr, out, na, nb, mg, ac, bc, rfl, L⟩
      exact ⟨fr, .inr ⟨_, _, _, _, _, _, rfl, L⟩⟩
    rintro c st' ⟨fr, ⟨r, z, rfl, F⟩ | ⟨out, na, nb, mg, ac, bc, rfl, L⟩⟩
    · exact wpS_pure ⟨fr, _, _, rfl, F⟩
    · exact wpS_bind (s_setG (wpS_pure ⟨fr.set _, _, _, _, _, rfl, L⟩))
  · rintro c st' ⟨fr, out, na, nb, mg, rfl, ⟨L, l1, l2, l3, l4, lm⟩⟩
    omega
  · rintro c st' ⟨fr, r, z, rfl, F⟩
    exact wpS_pure (h r st' fr F)
end
end HT

set_option Elab.async false
set_option linter.all false
set_option maxRecDepth 100000
set_option maxHeartbeats 4000000
namespace HT
open PySem PySem.W PyProof.Rows PySem.Calls
section
variable {prog : Program} {w : World} {A : Around} {E : Value → Shared → Prop} {s : Shared} {key : Keyed → Int × Int} {G : Keyed → Prop} {κ : SortKind}
/-- the items from lo on are put in another order -/
structure Rr (lo : Nat) (st st' : SortSt) : Prop where
  k : kindOf st' = kindOf st
  p : pendingOf st' = pendingOf st
  f : failedOf st' = failedOf st
  perm : (arrOf st').Perm (arrOf st)
  low : ∀ i, i < lo → (arrOf st')[i]? = (arrOf st)[i]?
theorem Rr.refl (lo : Nat) (st : SortSt) : Rr lo st st := ⟨rfl, rfl, rfl, Array.Perm.refl _, fun _ _ => rfl⟩
theorem Rr.trans {lo : Nat} {st st' st'' : SortSt} (h : Rr lo st st') (g : Rr lo st' st'') : Rr lo st st'' := ⟨g.k.trans h.k, g.p.trans h.p, g.f.trans h.f, g.perm.trans h.perm, fun i hi => (g.low i hi).trans (h.low i hi)⟩
theorem Rr.size {lo : Nat} {st st' : SortSt} (h : Rr lo st st') : (arrOf st').size = (arrOf st).size := h.perm.size_eq
theorem Rr.mem {lo : Nat} {st st' : SortSt} (h : Rr lo st st') (hG : ∀ x ∈ arrOf st, G x) : ∀ x ∈ arrOf st', G x := fun x hx => hG x (h.perm.mem_iff.mp hx)
theorem Rr.rev {lo i j : Nat} (st : SortSt) (hi : lo ≤ i) (hj : j ≤ (arrOf st).size) : Rr lo st (setArr st (mirror (arrOf st) i j ((j - i) / 2))) :=
  ⟨rfl, rfl, rfl, mirror_perm _ _ _ _, fun k hk => by show (mirror (arrOf st) i j ((j - i) / 2))[k]? = _; rw [getElem?_mirror_all hj, if_neg (by omega)]⟩
theorem Rr.bub {lo src dst : Nat} (st : SortSt) (h1 : lo ≤ dst) (h2 : dst ≤ src) (h3 : src < (arrOf st).size) : Rr lo st (setArr st (bubble (arrOf st) src (src - dst))) :=
  ⟨rfl, rfl, rfl, bubble_perm _ _ _, fun k hk => by show (bubble (arrOf st) src (src - dst))[k]? = _; rw [getElem?_bubble h3 _ (by omega), if_neg (by omega), if_neg (by omega)]⟩
theorem s_rev {st : SortSt} {i j : Nat} {Q : Unit → SortSt → Prop} (h : Q () (setArr st (mirror (arrOf st) i j ((j - i) / 2)))) : wpS (model prog w) A E s (reverseSlice' i j) Q st := wpS_modify h
theorem s_down {st : SortSt} {i j : Nat} {Q : Unit → SortSt → Prop} (h : Q () (setArr st (bubble (arrOf st) i (i - j)))) : wpS (model prog w) A E s (moveDown' i j) Q st := wpS_modify h
abbrev Ks (key : Keyed → Int × Int) (st : SortSt) (i : Nat) : Int × Int := Kg key (arrOf st) i
theorem s_ask {st : SortSt} {i j : Nat} {Q : Option Bool → SortSt → Prop} (K : Asks prog w A s κ key G) (hk : kindOf st = κ) (hG : ∀ x ∈ arrOf st, G x) (hi : i < (arrOf st).size) (hj : j < (arrOf st).size) (h : Q (some (decide (lt2 (Ks key st i) (Ks key st j)))) st) :
    wpS (model prog w) A E s (ltAt' i j) Q st := by
  refine s_ltAt K hk hG hi hj ?_
  rw [Kg_at (key := key) hi, Kg_at (key := key) hj]
  exact h
def countRunX : Nat → Nat → StateT SortSt Sem (Option Nat) := sortPriv% PySem.Builtin.countRun
def binarySortX : Nat → Nat → Nat → StateT SortSt Sem Bool := sortPriv% PySem.Builtin.binarySort
def Dn2 (key : Keyed → Int × Int) (arr : Array Keyed) (lo hi : Nat) : Prop := ∀ i j, lo ≤ i → i ≤ j → j < hi → le2 (Kg key arr j) (Kg key arr i)
theorem Seg.step {arr : Array Keyed} {lo x : Nat} (h : Seg key arr lo (lo + x)) (hx : 1 ≤ x) (hk : le2 (Kg key arr (lo + x - 1)) (Kg key arr (lo + x))) : Seg key arr lo (lo + (x + 1)) := fun i j h1 h2 h3 => by
  by_cases c : j < lo + x
  · exact h i j h1 h2 c
  · have e : j = lo + x := by omega
    subst e
    by_cases d : i = lo + x
    · rw [d]; exact le2_refl _
    · exact le2_trans (h i (lo + x - 1) h1 (by omega) (by omega)) hk
theorem Dn2.step {arr : Array Keyed} {lo x : Nat} (h : Dn2 key arr lo (lo + x)) (hx : 1 ≤ x) (hk : le2 (Kg key arr (lo + x)) (Kg key arr (lo + x - 1))) : Dn2 key arr lo (lo + (x + 1)) := fun i j h1 h2 h3 => by
  by_cases c : j < lo + x
  · exact h i j h1 h2 c
  · have e : j = lo + x := by omega
    subst e
    by_cases d : i = lo + x
    · rw [d]; exact le2_refl _
    · exact le2_trans hk (h i (lo + x - 1) h1 (by omega) (by omega))
theorem Dn2.keys {arr arr' : Array Keyed} {lo hi : Nat} (e : ∀ k, Kg key arr' k = Kg key arr k) (h : Dn2 key arr lo hi) : Dn2 key arr' lo hi := fun i j h1 h2 h3 => by rw [e, e]; exact h i j h1 h2 h3
theorem Kg_get {arr arr' : Array Keyed} {i j : Nat} (h : arr[i]? = arr'[j]?) : Kg key arr i = Kg key arr' j := by
  unfold Kg
  rw [Array.getD_eq_getD_getElem?, Array.getD_eq_getD_getElem?, h]
theorem Kg_mirror {arr : Array Keyed} {i j : Nat} (hj : j ≤ arr.size) (k : Nat) : Kg key (mirror arr i j ((j - i) / 2)) k = if i ≤ k ∧ k < j then Kg key arr (i + j - 1 - k) else Kg key arr k := by
  have e := getElem?_mirror_all (i := i) hj k
  by_cases c : i ≤ k ∧ k < j
  · rw [if_pos c] at e ⊢; exact Kg_get e
  · rw [if_neg c] at e ⊢; exact Kg_get e
theorem same_keys {arr : Array Keyed} {lo m q : Nat} (hm : lo + m ≤ arr.size) (hq : q + 1 ≤ m) (h : ∀ t, t ≤ q → Kg key arr (lo + m - 1 - t) = Kg key arr (lo + m - 1)) (k : Nat) : Kg key (mirror arr (lo + m - (q + 1)) (lo + m) ((lo + m - (lo + m - (q + 1))) / 2)) k = Kg key arr k := by
  rw [Kg_mirror hm]
  by_cases c : lo + m - (q + 1) ≤ k ∧ k < lo + m
  · rw [if_pos c]
    have e1 := h (lo + m - 1 - k) (by omega)
    have e2 := h (k - (lo + m - (q + 1))) (by omega)
    rw [show lo + m - 1 - (lo + m - 1 - k) = k by omega] at e1
    rw [show lo + m - 1 - (k - (lo + m - (q + 1))) = lo + m - (q + 1) + (lo + m) - 1 - k by omega] at e2
    rw [e1, e2]
  · rw [if_neg c]
theorem Dn2.turn {arr : Array Keyed} {lo y : Nat} (hy : lo + y ≤ arr.size) (h : Dn2 key arr lo (lo + y)) : Seg key (mirror arr lo (lo + y) ((lo + y - lo) / 2)) lo (lo + y) := fun i j h1 h2 h3 => by
  rw [Kg_mirror hy, Kg_mirror hy, if_pos ⟨h1, by omega⟩, if_pos ⟨by omega, h3⟩]
  exact h _ _ (by omega) (by omega) (by omega)
/-- a falling run, its last q + 1 alike -/
structure Fal (key : Keyed → Int × Int) (lo : Nat) (st st' : SortSt) (y q : Nat) : Prop where
  r : Rr lo st st'
  d : Dn2 key (arrOf st') lo (lo + y)
  q1 : q + 1 ≤ y
  y1 : 1 ≤ y
  eq : ∀ t, t ≤ q → Kg key (arrOf st') (lo + y - 1 - t) = Kg key (arrOf st') (lo + y - 1)
theorem s_count {st : SortSt} {lo n : Nat} {Q : Option Nat → SortSt → Prop} (K : Asks prog w A s κ key G) (hk : kindOf st = κ) (hG : ∀ x ∈ arrOf st, G x) (h1 : 1 ≤ n) (hn : lo + n ≤ (arrOf st).size)
    (h : ∀ m st', 1 ≤ m → m ≤ n → Rr lo st st' → Seg key (arrOf st') lo (lo + m) → Q (some m) st') : wpS (model prog w) A E s (countRunX lo n) Q st := by
  have s1 : Seg key (arrOf st) lo (lo + 1) := fun i j h1 h2 h3 => by rw [show i = j by omega]; exact le2_refl _
  refine wpS_bind (wpS_mono (wpS_forRange (I := fun x c st' => st' = st ∧ c = (none, x) ∧ x ≤ n ∧ Seg key (arrOf st) lo (lo + x)) (Q := fun c st' => st' = st ∧ ∃ x, c = (none, x) ∧ 1 ≤ x ∧ x ≤ n ∧ Seg key (arrOf st) lo (lo + x) ∧ (x = n ∨ lt2 (Ks key st (lo + x)) (Ks key st (lo + x - 1)))) ?_ ?_ ⟨rfl, rfl, h1, s1⟩) ?_)
  · rintro x c st' hx1 hx2 ⟨rfl, rfl, hx3, sg⟩
    refine wpS_bind (s_ask K hk hG (by omega) (by omega) ?_)
    refine s_ite (fun c => wpS_pure ⟨rfl, x, rfl, hx1, hx3, sg, .inr (of_decide_eq_true c)⟩) (fun c => wpS_pure ⟨rfl, rfl, by omega, Seg.step sg hx1 fun z => c (decide_eq_true z)⟩)
  · rintro c st' ⟨rfl, rfl, hx3, sg⟩
    exact ⟨rfl, _, rfl, by omega, hx3, sg, .inl (by omega)⟩
  · rintro c st' ⟨rfl, x, rfl, hx1, hx3, sg, hlt⟩
    refine s_ite (fun c => wpS_pure (h x st' hx1 hx3 (Rr.refl lo st') sg)) (fun c => ?_)
    have c : ¬ x = n := by simpa using c
    have hlt := hlt.resolve_left c
    refine s_ite (fun (cx : x > 1) => ?_) (fun (cx : ¬ x > 1) => ?_)
    · refine wpS_bind (s_ask K hk hG (by omega) (by omega) ?_)
      refine s_ite (fun c => wpS_pure (h x st' hx1 hx3 (Rr.refl lo st') sg)) (fun c => ?_)
      · have c : ¬ lt2 (Ks key st' lo) (Ks key st' (lo + x - 1)) := fun z => c (decide_eq_true z)
        have all : ∀ i, lo ≤ i → i < lo + x → Kg key (arrOf st') i = Kg key (arrOf st') (lo + x - 1) := fun i i1 i2 => le2_anti (sg i (lo + x - 1) i1 (by omega) (by omega)) (le2_trans c (sg lo i (Nat.le_refl _) i1 i2))
        refine wpS_bind (s_rev ?_)
        have ks : ∀ k, Kg key (mirror (arrOf st') lo (lo + x) ((lo + x - lo) / 2)) k = Kg key (arrOf st') k := fun k => by
          rw [Kg_mirror (by omega)]
          by_cases d : lo ≤ k ∧ k < lo + x
          · rw [if_pos d, all _ (by omega) (by omega), all k d.1 d.2]
          · rw [if_neg d]
        have R1 := Rr.rev (lo := lo) (i := lo) (j := lo + x) st' (Nat.le_refl lo) (by omega)
        have D1 : Dn2 key (arrOf (setArr st' (mirror (arrOf st') lo (lo + x) ((lo + x - lo) / 2)))) lo (lo + (x + 1)) := Dn2.keys ks (Dn2.step (fun i j i1 i2 i3 => by rw [all j (by omega) i3, all i i1 (by omega)]; exact le2_refl _) hx1 (lt2_le hlt))
        generalize setArr st' (mirror (arrOf st') lo (lo + x) ((lo + x - lo) / 2)) = st1 at R1 D1 ⊢
        generalize st' = st at *
        refine wpS_bind (wpS_lift (wpAny_rule ⟨rfl, ?_⟩))
        refine wpS_bind (wpS_mono (wpS_forRange (I := fun y c st' => ∃ q, c = (none, y, q) ∧ Fal key lo st st' y q) (Q := fun c st' => ∃ y q, c = (none, y, q) ∧ y ≤ n ∧ Fal key lo st st' y q) ?_ ?_ ⟨0, rfl, R1, D1, by omega, by omega, fun t ht => by rw [show t = 0 by omega, Nat.sub_zero]⟩) ?_)
        · rintro y c st2 (hy1 : x + 1 ≤ y) hy2 ⟨q, rfl, ⟨R2, D2, q1, q2, q3⟩⟩
          have hk2 := R2.k.trans hk
          have hG2 := R2.mem hG
          have z2 := R2.size
          refine wpS_bind (s_ask K hk2 hG2 (i := lo + y) (j := lo + y - 1) (by omega) (by omega) ?_)
          refine s_ite (fun c => ?_) (fun c => ?_)
          · have c : lt2 (Ks key st2 (lo + y)) (Ks key st2 (lo + y - 1)) := of_decide_eq_true c
            refine s_ite (fun (cq : q > 0) => wpS_bind (s_rev (wpS_pure ⟨0, rfl, R2.trans (Rr.rev st2 (i := lo + y - (q + 1)) (j := lo + y) (by omega) (by omega)), ?_, by omega, by omega, fun t ht => by rw [show t = 0 by omega, Nat.sub_zero]⟩))) (fun cq => wpS_pure ⟨0, rfl, R2, D2.step (by omega) (lt2_le c), by omega, by omega, fun t ht => by rw [show t = 0 by omega, Nat.sub_zero]⟩)
            have ks := same_keys (key := key) (arr := arrOf st2) (lo := lo) (m := y) (q := q) (by omega) (by omega) q3
            exact Dn2.keys (fun k => ks k) (D2.step (by omega) (lt2_le c))
          · have c : ¬ lt2 (Ks key st2 (lo + y)) (Ks key st2 (lo + y - 1)) := fun z => c (decide_eq_true z)
            refine wpS_bind (s_ask K hk2 hG2 (i := lo + y - 1) (j := lo + y) (by omega) (by omega) ?_)
            refine s_ite (fun d => wpS_pure ⟨y, q, rfl, by omega, R2, D2, q1, q2, q3⟩) (fun d => ?_)
            have d : ¬ lt2 (Ks key st2 (lo + y - 1)) (Ks key st2 (lo + y)) := fun z => d (decide_eq_true z)
            have eq : Ks key st2 (lo + y - 1) = Ks key st2 (lo + y) := le2_anti c d
            refine wpS_pure ⟨q + 1, rfl, R2, D2.step (by omega) (by unfold Ks at eq; rw [eq]; exact le2_refl _), by omega, by omega, fun t ht => ?_⟩
            rw [show lo + (y + 1) - 1 = lo + y by omega]
            by_cases c0 : t = 0
            · rw [c0, Nat.sub_zero]
            · have := q3 (t - 1) (by omega)
              rw [show lo + y - 1 - (t - 1) = lo + y - t by omega] at this
              rw [this]
              exact eq
        · rintro c st2 ⟨q, rfl, F⟩
          exact ⟨_, q, rfl, by omega, F⟩
        rintro c st2 ⟨y, q, rfl, hyn, ⟨R2, D2, q1, q2, q3⟩⟩
        have z2 := R2.size
        refine s_ite (fun (cq : q > 0) => wpS_bind (s_rev ?_)) (fun cq => ?_)
        · have R3 := R2.trans (Rr.rev st2 (i := lo + y - (q + 1)) (j := lo + y) (show lo ≤ lo + y - (q + 1) by omega) (by omega))
          have D3 : Dn2 key (arrOf (setArr st2 (mirror (arrOf st2) (lo + y - (q + 1)) (lo + y) ((lo + y - (lo + y - (q + 1))) / 2)))) lo (lo + y) := Dn2.keys (fun k => same_keys (key := key) (arr := arrOf st2) (lo := lo) (m := y) (q := q) (by omega) (by omega) q3 k) D2
          generalize setArr st2 (mirror (arrOf st2) (lo + y - (q + 1)) (lo + y) ((lo + y - (lo + y - (q + 1))) / 2)) = st3 at R3 D3 ⊢
          have z3 := R3.size
          refine wpS_bind (s_rev ?_)
          have R4 := R3.trans (Rr.rev st3 (i := lo) (j := lo + y) (Nat.le_refl lo) (by omega))
          have U4 : Seg key (arrOf (setArr st3 (mirror (arrOf st3) lo (lo + y) ((lo + y - lo) / 2)))) lo (lo + y) := D3.turn (by omega)
          generalize setArr st3 (mirror (arrOf st3) lo (lo + y) ((lo + y - lo) / 2)) = st4 at R4 U4 ⊢
          have z4 := R4.size
          refine wpS_bind (wpS_mono (wpS_forRange (I := fun x c st' => st' = st4 ∧ c = (none, x) ∧ x ≤ n ∧ Seg key (arrOf st4) lo (lo + x)) (Q := fun c st' => st' = st4 ∧ ∃ x, c = (none, x) ∧ 1 ≤ x ∧ x ≤ n ∧ Seg key (arrOf st4) lo (lo + x)) ?_ ?_ ⟨rfl, rfl, hyn, U4⟩) ?_)
          · rintro x c st' (hx1 : y ≤ x) hx2 ⟨rfl, rfl, hx3, sg⟩
            refine wpS_bind (s_ask K (R4.k.trans hk) (R4.mem hG) (by omega) (by omega) ?_)
            refine s_ite (fun c => wpS_pure ⟨rfl, x, rfl, by omega, hx3, sg⟩) (fun c => wpS_pure ⟨rfl, rfl, by omega, Seg.step sg (by omega) fun z => c (decide_eq_true z)⟩)
          · rintro c st' ⟨rfl, rfl, hx3, sg⟩
            exact ⟨rfl, _, rfl, by omega, hx3, sg⟩
          · rintro c st' ⟨rfl, x, rfl, hx1, hx3, sg⟩
            exact wpS_pure (h x st' hx1 hx3 R4 sg)
        · have R3 := R2
          have D3 := D2
          obtain ⟨st3, e3⟩ : ∃ z, z = st2 := ⟨_, rfl⟩
          rw [← e3] at R3 D3 ⊢
          have z3 := R3.size
          refine wpS_bind (s_rev ?_)
          have R4 := R3.trans (Rr.rev st3 (i := lo) (j := lo + y) (Nat.le_refl lo) (by omega))
          have U4 : Seg key (arrOf (setArr st3 (mirror (arrOf st3) lo (lo + y) ((lo + y - lo) / 2)))) lo (lo + y) := D3.turn (by omega)
          generalize setArr st3 (mirror (arrOf st3) lo (lo + y) ((lo + y - lo) / 2)) = st4 at R4 U4 ⊢
          have z4 := R4.size
          refine wpS_bind (wpS_mono (wpS_forRange (I := fun x c st' => st' = st4 ∧ c = (none, x) ∧ x ≤ n ∧ Seg key (arrOf st4) lo (lo + x)) (Q := fun c st' => st' = st4 ∧ ∃ x, c = (none, x) ∧ 1 ≤ x ∧ x ≤ n ∧ Seg key (arrOf st4) lo (lo + x)) ?_ ?_ ⟨rfl, rfl, hyn, U4⟩) ?_)
          · rintro x c st' (hx1 : y ≤ x) hx2 ⟨rfl, rfl, hx3, sg⟩
            refine wpS_bind (s_ask K (R4.k.trans hk) (R4.mem hG) (by omega) (by omega) ?_)
            refine s_ite (fun c => wpS_pure ⟨rfl, x, rfl, by omega, hx3, sg⟩) (fun c => wpS_pure ⟨rfl, rfl, by omega, Seg.step sg (by omega) fun z => c (decide_eq_true z)⟩)
          · rintro c st' ⟨rfl, rfl, hx3, sg⟩
            exact ⟨rfl, _, rfl, by omega, hx3, sg⟩
          · rintro c st' ⟨rfl, x, rfl, hx1, hx3, sg⟩
            exact wpS_pure (h x st' hx1 hx3 R4 sg)
    · have R1 := Rr.refl lo st'
      have D1 : Dn2 key (arrOf st') lo (lo + (x + 1)) := Dn2.step (fun i j i1 i2 i3 => by rw [show i = j by omega]; exact le2_refl _) hx1 (lt2_le hlt)
      obtain ⟨st1, e1⟩ : ∃ z, z = st' := ⟨_, rfl⟩
      have R1 : Rr lo st' st1 := by rw [e1]; exact R1
      rw [← e1] at D1
      rw [show st' = st1 from e1.symm]
      clear e1
      · generalize st' = st at *
        refine wpS_bind (wpS_lift (wpAny_rule ⟨rfl, ?_⟩))
        refine wpS_bind (wpS_mono (wpS_forRange (I := fun y c st' => ∃ q, c = (none, y, q) ∧ Fal key lo st st' y q) (Q := fun c st' => ∃ y q, c = (none, y, q) ∧ y ≤ n ∧ Fal key lo st st' y q) ?_ ?_ ⟨0, rfl, R1, D1, by omega, by omega, fun t ht => by rw [show t = 0 by omega, Nat.sub_zero]⟩) ?_)
        · rintro y c st2 (hy1 : x + 1 ≤ y) hy2 ⟨q, rfl, ⟨R2, D2, q1, q2, q3⟩⟩
          have hk2 := R2.k.trans hk
          have hG2 := R2.mem hG
          have z2 := R2.size
          refine wpS_bind (s_ask K hk2 hG2 (i := lo + y) (j := lo + y - 1) (by omega) (by omega) ?_)
          refine s_ite (fun c => ?_) (fun c => ?_)
          · have c : lt2 (Ks key st2 (lo + y)) (Ks key st2 (lo + y - 1)) := of_decide_eq_true c
            refine s_ite (fun (cq : q > 0) => wpS_bind (s_rev (wpS_pure ⟨0, rfl, R2.trans (Rr.rev st2 (i := lo + y - (q + 1)) (j := lo + y) (by omega) (by omega)), ?_, by omega, by omega, fun t ht => by rw [show t = 0 by omega, Nat.sub_zero]⟩))) (fun cq => wpS_pure ⟨0, rfl, R2, D2.step (by omega) (lt2_le c), by omega, by omega, fun t ht => by rw [show t = 0 by omega, Nat.sub_zero]⟩)
            have ks := same_keys (key := key) (arr := arrOf st2) (lo := lo) (m := y) (q := q) (by omega) (by omega) q3
            exact Dn2.keys (fun k => ks k) (D2.step (by omega) (lt2_le c))
          · have c : ¬ lt2 (Ks key st2 (lo + y)) (Ks key st2 (lo + y - 1)) := fun z => c (decide_eq_true z)
            refine wpS_bind (s_ask K hk2 hG2 (i := lo + y - 1) (j := lo + y) (by omega) (by omega) ?_)
            refine s_ite (fun d => wpS_pure ⟨y, q, rfl, by omega, R2, D2, q1, q2, q3⟩) (fun d => ?_)
            have d : ¬ lt2 (Ks key st2 (lo + y - 1)) (Ks key st2 (lo + y)) := fun z => d (decide_eq_true z)
            have eq : Ks key st2 (lo + y - 1) = Ks key st2 (lo + y) := le2_anti c d
            refine wpS_pure ⟨q + 1, rfl, R2, D2.step (by omega) (by unfold Ks at eq; rw [eq]; exact le2_refl _), by omega, by omega, fun t ht => ?_⟩
            rw [show lo + (y + 1) - 1 = lo + y by omega]
            by_cases c0 : t = 0
            · rw [c0, Nat.sub_zero]
            · have := q3 (t - 1) (by omega)
              rw [show lo + y - 1 - (t - 1) = lo + y - t by omega] at this
              rw [this]
              exact eq
        · rintro c st2 ⟨q, rfl, F⟩
          exact ⟨_, q, rfl, by omega, F⟩
        rintro c st2 ⟨y, q, rfl, hyn, ⟨R2, D2, q1, q2, q3⟩⟩
        have z2 := R2.size
        refine s_ite (fun (cq : q > 0) => wpS_bind (s_rev ?_)) (fun cq => ?_)
        · have R3 := R2.trans (Rr.rev st2 (i := lo + y - (q + 1)) (j := lo + y) (show lo ≤ lo + y - (q + 1) by omega) (by omega))
          have D3 : Dn2 key (arrOf (setArr st2 (mirror (arrOf st2) (lo + y - (q + 1)) (lo + y) ((lo + y - (lo + y - (q + 1))) / 2)))) lo (lo + y) := Dn2.keys (fun k => same_keys (key := key) (arr := arrOf st2) (lo := lo) (m := y) (q := q) (by omega) (by omega) q3 k) D2
          generalize setArr st2 (mirror (arrOf st2) (lo + y - (q + 1)) (lo + y) ((lo + y - (lo + y - (q + 1))) / 2)) = st3 at R3 D3 ⊢
          have z3 := R3.size
          refine wpS_bind (s_rev ?_)
          have R4 := R3.trans (Rr.rev st3 (i := lo) (j := lo + y) (Nat.le_refl lo) (by omega))
          have U4 : Seg key (arrOf (setArr st3 (mirror (arrOf st3) lo (lo + y) ((lo + y - lo) / 2)))) lo (lo + y) := D3.turn (by omega)
          generalize setArr st3 (mirror (arrOf st3) lo (lo + y) ((lo + y - lo) / 2)) = st4 at R4 U4 ⊢
          have z4 := R4.size
          refine wpS_bind (wpS_mono (wpS_forRange (I := fun x c st' => st' = st4 ∧ c = (none, x) ∧ x ≤ n ∧ Seg key (arrOf st4) lo (lo + x)) (Q := fun c st' => st' = st4 ∧ ∃ x, c = (none, x) ∧ 1 ≤ x ∧ x ≤ n ∧ Seg key (arrOf st4) lo (lo + x)) ?_ ?_ ⟨rfl, rfl, hyn, U4⟩) ?_)
          · rintro x c st' (hx1 : y ≤ x) hx2 ⟨rfl, rfl, hx3, sg⟩
            refine wpS_bind (s_ask K (R4.k.trans hk) (R4.mem hG) (by omega) (by omega) ?_)
            refine s_ite (fun c => wpS_pure ⟨rfl, x, rfl, by omega, hx3, sg⟩) (fun c => wpS_pure ⟨rfl, rfl, by omega, Seg.step sg (by omega) fun z => c (decide_eq_true z)⟩)
          · rintro c st' ⟨rfl, rfl, hx3, sg⟩
            exact ⟨rfl, _, rfl, by omega, hx3, sg⟩
          · rintro c st' ⟨rfl, x, rfl, hx1, hx3, sg⟩
            exact wpS_pure (h x st' hx1 hx3 R4 sg)
        · have R3 := R2
          have D3 := D2
          obtain ⟨st3, e3⟩ : ∃ z, z = st2 := ⟨_, rfl⟩
          rw [← e3] at R3 D3 ⊢
          have z3 := R3.size
          refine wpS_bind (s_rev ?_)
          have R4 := R3.trans (Rr.rev st3 (i := lo) (j := lo + y) (Nat.le_refl lo) (by omega))
          have U4 : Seg key (arrOf (setArr st3 (mirror (arrOf st3) lo (lo + y) ((lo + y - lo) / 2)))) lo (lo + y) := D3.turn (by omega)
          generalize setArr st3 (mirror (arrOf st3) lo (lo + y) ((lo + y - lo) / 2)) = st4 at R4 U4 ⊢
          have z4 := R4.size
          refine wpS_bind (wpS_mono (wpS_forRange (I := fun x c st' => st' = st4 ∧ c = (none, x) ∧ x ≤ n ∧ Seg key (arrOf st4) lo (lo + x)) (Q := fun c st' => st' = st4 ∧ ∃ x, c = (none, x) ∧ 1 ≤ x ∧ x ≤ n ∧ Seg key (arrOf st4) lo (lo + x)) ?_ ?_ ⟨rfl, rfl, hyn, U4⟩) ?_)
          · rintro x c st' (hx1 : y ≤ x) hx2 ⟨rfl, rfl, hx3, sg⟩
            refine wpS_bind (s_ask K (R4.k.trans hk) (R4.mem hG) (by omega) (by omega) ?_)
            refine s_ite (fun c => wpS_pure ⟨rfl, x, rfl, by omega, hx3, sg⟩) (fun c => wpS_pure ⟨rfl, rfl, by omega, Seg.step sg (by omega) fun z => c (decide_eq_true z)⟩)
          · rintro c st' ⟨rfl, rfl, hx3, sg⟩
            exact ⟨rfl, _, rfl, by omega, hx3, sg⟩
          · rintro c st' ⟨rfl, x, rfl, hx1, hx3, sg⟩
            exact wpS_pure (h x st' hx1 hx3 R4 sg)
theorem Kg_bubble {arr : Array Keyed} {src d : Nat} (hs : src < arr.size) (hd : d ≤ src) (k : Nat) : Kg key (bubble arr src d) k = if k = src - d then Kg key arr src else if src - d < k ∧ k ≤ src then Kg key arr (k - 1) else Kg key arr k := by
  have e := getElem?_bubble hs d hd k
  by_cases c : k = src - d
  · rw [if_pos c] at e ⊢; exact Kg_get e
  · rw [if_neg c] at e ⊢
    by_cases c2 : src - d < k ∧ k ≤ src
    · rw [if_pos c2] at e ⊢; exact Kg_get e
    · rw [if_neg c2] at e ⊢; exact Kg_get e
theorem s_bin {st : SortSt} {lo n m : Nat} {Q : Bool → SortSt → Prop} (K : Asks prog w A s κ key G) (hk : kindOf st = κ) (hG : ∀ x ∈ arrOf st, G x) (h1 : 1 ≤ m) (hm : m ≤ n) (hn : lo + n ≤ (arrOf st).size) (sg : Seg key (arrOf st) lo (lo + m))
    (h : ∀ st', Rr lo st st' → Seg key (arrOf st') lo (lo + n) → Q true st') : wpS (model prog w) A E s (binarySortX lo n m) Q st := by
  refine wpS_bind (wpS_mono (wpS_forRange (I := fun x c st' => c = (none, ()) ∧ Rr lo st st' ∧ Seg key (arrOf st') lo (lo + x)) (Q := fun c st' => c = (none, ()) ∧ Rr lo st st' ∧ Seg key (arrOf st') lo (lo + n)) ?_ ?_ ⟨rfl, Rr.refl lo st, by rw [Nat.max_eq_left h1]; exact sg⟩) ?_)
  · rintro i c st1 hi1 hi2 ⟨rfl, R1, sg1⟩
    have z1 := R1.size
    have hi0 : m ≤ i := Nat.le_trans (Nat.le_max_left _ _) hi1
    refine wpS_bind (wpS_mono (wpS_forRange (I := fun x c st' => st' = st1 ∧ ∃ l r, c = (none, l, r) ∧ l ≤ r ∧ r ≤ i ∧ r - l ≤ i - x ∧ (∀ t, t < l → le2 (Ks key st1 (lo + t)) (Ks key st1 (lo + i))) ∧ ∀ t, r ≤ t → t < i → le2 (Ks key st1 (lo + i)) (Ks key st1 (lo + t)))
      (Q := fun c st' => st' = st1 ∧ ∃ l r, c = (none, l, r) ∧ l ≤ i ∧ (∀ t, t < l → le2 (Ks key st1 (lo + t)) (Ks key st1 (lo + i))) ∧ ∀ t, l ≤ t → t < i → le2 (Ks key st1 (lo + i)) (Ks key st1 (lo + t))) ?_ ?_ ⟨rfl, 0, i, rfl, by omega, by omega, by omega, fun t ht => by omega, fun t t1 t2 => by omega⟩) ?_)
    · rintro x c st' _ hx ⟨rfl, l, r, rfl, l1, l2, l3, l4, l5⟩
      refine s_ite (fun (c : l ≥ r) => wpS_pure ⟨rfl, l, r, rfl, by omega, l4, fun t t1 t2 => l5 t (by omega) t2⟩) (fun (c : ¬ l ≥ r) => ?_)
      refine wpS_bind (s_ask K (R1.k.trans hk) (R1.mem hG) (i := lo + i) (j := lo + (l + r) / 2) (by omega) (by omega) ?_)
      refine s_ite (fun d => ?_) (fun d => ?_)
      · have d : lt2 (Ks key st' (lo + i)) (Ks key st' (lo + (l + r) / 2)) := of_decide_eq_true d
        exact wpS_pure ⟨rfl, l, (l + r) / 2, rfl, by omega, by omega, by omega, l4, fun t t1 t2 => le2_trans (lt2_le d) (sg1 _ _ (by omega) (by omega) (by omega))⟩
      · have d : ¬ lt2 (Ks key st' (lo + i)) (Ks key st' (lo + (l + r) / 2)) := fun z => d (decide_eq_true z)
        exact wpS_pure ⟨rfl, (l + r) / 2 + 1, r, rfl, by omega, by omega, by omega, fun t ht => le2_trans (sg1 _ _ (by omega) (by omega) (by omega)) d, l5⟩
    · rintro c st' ⟨rfl, l, r, rfl, l1, l2, l3, l4, l5⟩
      exact ⟨rfl, l, r, rfl, by omega, l4, fun t t1 t2 => l5 t (by omega) t2⟩
    · rintro c st' ⟨rfl, l, r, rfl, l1, l4, l5⟩
      refine wpS_bind (s_down (wpS_pure ⟨rfl, R1.trans (Rr.bub st' (src := lo + i) (dst := lo + l) (by omega) (by omega) (by omega)), fun a b a1 a2 a3 => ?_⟩))
      show le2 (Kg key (bubble (arrOf st') (lo + i) (lo + i - (lo + l))) a) (Kg key (bubble (arrOf st') (lo + i) (lo + i - (lo + l))) b)
      rw [Kg_bubble (by omega) (by omega), Kg_bubble (by omega) (by omega), show lo + i - (lo + i - (lo + l)) = lo + l by omega]
      have l4' : ∀ t, lo ≤ t → t < lo + l → le2 (Kg key (arrOf st') t) (Kg key (arrOf st') (lo + i)) := fun t t1 t2 => by
        have := l4 (t - lo) (by omega)
        rw [show lo + (t - lo) = t by omega] at this
        exact this
      have l5' : ∀ t, lo + l ≤ t → t < lo + i → le2 (Kg key (arrOf st') (lo + i)) (Kg key (arrOf st') t) := fun t t1 t2 => by
        have := l5 (t - lo) (by omega) (by omega)
        rw [show lo + (t - lo) = t by omega] at this
        exact this
      repeat' split
      all_goals first | exact le2_refl _ | exact l4' _ (by omega) (by omega) | exact l5' _ (by omega) (by omega) | exact sg1 _ _ (by omega) (by omega) (by omega) | (exfalso; omega)
  · rintro c st' ⟨rfl, R1, sg1⟩
    rw [show max (max m 1) n = n by omega] at sg1
    exact ⟨rfl, R1, sg1⟩
  · rintro c st' ⟨rfl, R1, sg1⟩
    exact wpS_pure (h st' R1 sg1)
end
end HT

set_option Elab.async false
set_option linter.all false
set_option maxRecDepth 100000
set_option maxHeartbeats 4000000
namespace HT
open PySem PySem.W PyProof.Rows PySem.Calls
section
variable {prog : Program} {w : World} {A : Around} {E : Value → Shared → Prop} {s : Shared} {key : Keyed → Int × Int} {G : Keyed → Prop} {κ : SortKind}
theorem s_set {st st' : SortSt} {Q : PUnit → SortSt → Prop} (h : Q ⟨⟩ st') : wpS (model prog w) A E s (set st' : StateT SortSt Sem PUnit) Q st := by
  unfold wpS
  rw [StateT.run_set]
  exact wpAny_pure ⟨rfl, h⟩
theorem mem_cut {L : List Keyed} {lo hi : Nat} {y : Keyed} (h : y ∈ (L.take hi).drop lo) : ∃ j, ∃ hj : j < L.length, lo ≤ j ∧ j < hi ∧ L[j] = y := by
  obtain ⟨m, hm, e⟩ := List.mem_iff_getElem.mp h
  rw [List.length_drop, List.length_take] at hm
  exact ⟨lo + m, by omega, by omega, by omega, by rw [← e]; simp⟩
theorem seg_srt {a : Array Keyed} {lo hi : Nat} (h : Seg key a lo hi) (hh : hi ≤ a.size) : Srt key ((a.toList.take hi).drop lo) := by
  refine List.pairwise_iff_getElem.mpr fun i j hi' hj' hij => ?_
  rw [List.length_drop, List.length_take] at hi' hj'
  have := h (lo + i) (lo + j) (by omega) (by omega) (by omega)
  rw [kg_list (by omega), kg_list (by omega)] at this
  simpa [LE2] using this
theorem Kg_cut {a : Array Keyed} {lo hi i : Nat} (h : hi ≤ a.size) (hi' : lo + i < hi) : Kg key (a.extract lo hi) i = Kg key a (lo + i) := by
  refine Kg_get ?_
  rw [Array.getElem?_extract]
  rw [if_pos (by omega)]
theorem set_take {α : Type} {p : α} : ∀ (l : List α) (i : Nat), i < l.length → (l.set i p).take (i + 1) = l.take i ++ [p]
  | [], _, h => absurd h (by simp)
  | _ :: l, 0, _ => by simp
  | x :: l, i + 1, h => by
    rw [List.set_cons_succ, List.take_succ_cons, List.take_succ_cons, set_take l i (by simpa using h)]
    rfl
theorem set_drop {α : Type} {p : α} : ∀ (l : List α) (i n : Nat), i < n → (l.set i p).drop n = l.drop n
  | [], _, _, _ => by simp
  | _ :: l, 0, n + 1, _ => rfl
  | x :: l, i + 1, n + 1, h => by
    rw [List.set_cons_succ, List.drop_succ_cons, List.drop_succ_cons]
    exact set_drop l i n (by omega)
theorem wr_back (sa : Nat) : ∀ (m : List Keyed) (j : Nat) (arr : Array Keyed), sa + j + m.length ≤ arr.size →
    ((m.zipIdx j).foldl (fun (a : Array Keyed) (x : Keyed × Nat) => match x with | (p, j) => a.setIfInBounds (sa + j) p) arr).toList = arr.toList.take (sa + j) ++ m ++ arr.toList.drop (sa + j + m.length)
  | [], j, arr, h => by simp
  | p :: m, j, arr, h => by
    rw [List.length_cons] at h
    rw [List.zipIdx_cons, List.foldl_cons]
    have ih := wr_back sa m (j + 1) (arr.setIfInBounds (sa + j) p) (by simp; omega)
    rw [ih]
    have e1 : (arr.setIfInBounds (sa + j) p).toList = arr.toList.set (sa + j) p := by simp
    rw [e1, ← Nat.add_assoc, set_take _ _ (by simp; omega), set_drop _ _ _ (by omega), List.length_cons, show sa + j + 1 + m.length = sa + j + (m.length + 1) by omega]
    simp
def mergeAtX : Nat → StateT SortSt Sem Bool := sortPriv% PySem.Builtin.mergeAt
theorem s_at {st : SortSt} {n1 n2 pw : Nat} {Q : Bool → SortSt → Prop} (K : Asks prog w A s κ key G) (hk : kindOf st = κ) (hG : ∀ x ∈ arrOf st, G x) (hf : failedOf st = none) (hp : pendingOf st = #[(0, n1, pw), (n1, n2, 0)]) (h1 : 0 < n1) (h2 : 0 < n2) (hn : n1 + n2 = (arrOf st).size)
    (s1 : Seg key (arrOf st) 0 n1) (s2 : Seg key (arrOf st) n1 (n1 + n2))
    (h : ∀ st' : SortSt, kindOf st' = κ → failedOf st' = none → pendingOf st' = #[(0, n1 + n2, pw)] → (arrOf st').toList.Perm (arrOf st).toList → Srt key (arrOf st').toList → Q true st') : wpS (model prog w) A E s (mergeAtX 0) Q st := by
  cases st with
  | mk k0 a p0 g0 f0 =>
    have hp : p0 = #[(0, n1, pw), (n1, n2, 0)] := hp
    have hf : f0 = none := hf
    have hk : k0 = κ := hk
    have hG : ∀ x ∈ a, G x := hG
    have hn : n1 + n2 = a.size := hn
    have s1 : Seg key a 0 n1 := s1
    have s2 : Seg key a n1 (n1 + n2) := s2
    have h : ∀ st' : SortSt, kindOf st' = κ → failedOf st' = none → pendingOf st' = #[(0, n1 + n2, pw)] → (arrOf st').toList.Perm a.toList → Srt key (arrOf st').toList → Q true st' := h
    subst hp hf hk
    have b0 : n1 < a.size := by omega
    have b1 : n1 - 1 < a.size := by omega
    have whole : (∀ i j, i < n1 → n1 ≤ j → j < a.size → le2 (Kg key a i) (Kg key a j)) → Srt key a.toList := fun hx => by
      refine List.pairwise_iff_getElem.mpr fun i j hi hj hij => ?_
      have hi' : i < a.size := by simpa using hi
      have hj' : j < a.size := by simpa using hj
      show le2 (key a.toList[i]) (key a.toList[j])
      rw [← kg_list (key := key) hi, ← kg_list (key := key) hj]
      by_cases c : j < n1
      · exact s1 i j (by omega) (by omega) c
      · by_cases d : i < n1
        · exact hx i j d (by omega) hj'
        · exact s2 i j (by omega) (by omega) (by omega)
    have pe : ((#[(0, n1, pw), (n1, n2, 0)] : Array (Nat × Nat × Nat)).setIfInBounds 0 (0, n1 + n2, pw)).eraseIdxIfInBounds (0 + 1) = #[(0, n1 + n2, pw)] := by
      apply Array.toList_inj.mp
      simp [Array.eraseIdxIfInBounds, Array.setIfInBounds]
    refine wpS_bind (wpS_get ?_)
    refine wpS_bind (s_set ?_)
    refine wpS_bind (s_elem (arr := a) b0 (wpS_bind (s_gallop (arr := a) K rfl hG (hG _ (Array.getElem_mem b0)) (base := 0) (n := n1) (hint := 0) (by omega) (by omega) (by rw [Nat.zero_add]; exact s1) fun k hk1 hlt hge => ?_)))
    have F1 : ∀ i, i < k → le2 (Kg key a i) (Kg key a n1) := fun i hi => by
      have := bey_le (hlt i hi)
      rw [Nat.zero_add, Kg_at (key := key) b0] at this
      exact this
    have F2 : ∀ i, k ≤ i → i < n1 → le2 (Kg key a n1) (Kg key a i) := fun i i1 i2 => by
      have := bey_ge (hge i i1 i2)
      rw [Nat.zero_add, Kg_at (key := key) b0] at this
      exact this
    refine s_ite (fun c => wpS_pure (h _ rfl rfl pe (List.Perm.refl _) (whole fun i j i1 j1 j2 => ?_))) (fun c => ?_)
    · have c : n1 - k = 0 := by simpa using c
      exact le2_trans (F1 i (by omega)) (s2 n1 j (Nat.le_refl _) j1 (by omega))
    have c : ¬ n1 - k = 0 := by simpa using c
    have ei : 0 + k + (n1 - k) - 1 = n1 - 1 := by omega
    have b1' : 0 + k + (n1 - k) - 1 < a.size := by omega
    refine wpS_bind (s_elem (arr := a) b1' (wpS_bind (s_gallop (arr := a) K rfl hG (hG _ (Array.getElem_mem b1')) (base := n1) (n := n2) (hint := n2 - 1) (by omega) (by omega) s2 fun r hr hlt2 hge2 => ?_)))
    have F3 : ∀ i, i < r → le2 (Kg key a (n1 + i)) (Kg key a (n1 - 1)) := fun i hi => by
      have := bey_le (hlt2 i hi)
      rw [Kg_at (key := key) b1', ei] at this
      exact this
    have F4 : ∀ i, r ≤ i → i < n2 → le2 (Kg key a (n1 - 1)) (Kg key a (n1 + i)) := fun i i1 i2 => by
      have := bey_ge (hge2 i i1 i2)
      rw [Kg_at (key := key) b1', ei] at this
      exact this
    refine s_ite (fun d => wpS_pure (h _ rfl rfl pe (List.Perm.refl _) (whole fun i j i1 j1 j2 => ?_))) (fun d => ?_)
    · have d : r = 0 := by simpa using d
      have := F4 (j - n1) (by omega) (by omega)
      rw [show n1 + (j - n1) = j by omega] at this
      exact le2_trans (s1 i (n1 - 1) (by omega) (by omega) (by omega)) this
    have d : ¬ r = 0 := by simpa using d
    have hx1 : (a.extract (0 + k) n1).size = n1 - k := by simp; omega
    have hy1 : (a.extract n1 (n1 + r)).size = r := by simp; omega
    have ex : (a.extract (0 + k) n1).toList = (a.toList.take n1).drop k := by rw [Nat.zero_add]; exact toList_cut a k n1
    have ey : (a.extract n1 (n1 + r)).toList = (a.toList.take (n1 + r)).drop n1 := toList_cut a n1 (n1 + r)
    have sx : Srt key (a.extract (0 + k) n1).toList := by rw [ex]; exact seg_srt (fun i j i1 i2 i3 => s1 i j (by omega) i2 i3) (by omega)
    have sy : Srt key (a.extract n1 (n1 + r)).toList := by rw [ey]; exact seg_srt (fun i j i1 i2 i3 => s2 i j i1 i2 (by omega)) (by omega)
    have gx : ∀ z ∈ a.extract (0 + k) n1, G z := fun z hz => by
      have hz : z ∈ (a.extract (0 + k) n1).toList := Array.mem_toList_iff.mpr hz
      rw [ex] at hz
      exact hG z (Array.mem_toList_iff.mp (List.mem_of_mem_take (List.mem_of_mem_drop hz)))
    have gy : ∀ z ∈ a.extract n1 (n1 + r), G z := fun z hz => by
      have hz : z ∈ (a.extract n1 (n1 + r)).toList := Array.mem_toList_iff.mpr hz
      rw [ey] at hz
      exact hG z (Array.mem_toList_iff.mp (List.mem_of_mem_take (List.mem_of_mem_drop hz)))
    have bot : ∀ z ∈ (a.extract (0 + k) n1).toList, le2 (Kg key (a.extract n1 (n1 + r)) 0) (key z) := fun z hz => by
      rw [ex] at hz
      obtain ⟨j, hj, j1, j2, rfl⟩ := mem_cut hz
      rw [Kg_cut (by omega) (by omega), ← kg_list (key := key) hj]
      exact F2 j j1 j2
    have top : ∀ z ∈ (a.extract n1 (n1 + r)).toList, le2 (key z) (Kg key (a.extract (0 + k) n1) ((a.extract (0 + k) n1).size - 1)) := fun z hz => by
      rw [ey] at hz
      obtain ⟨j, hj, j1, j2, rfl⟩ := mem_cut hz
      rw [hx1, Kg_cut (by omega) (by omega), ← kg_list (key := key) hj, show 0 + k + (n1 - k - 1) = n1 - 1 by omega]
      have := F3 (j - n1) (by omega)
      rw [show n1 + (j - n1) = j by omega] at this
      exact this
    have fin : ∀ m : Array Keyed, Fin2 key (a.extract (0 + k) n1).toList (a.extract n1 (n1 + r)).toList m.toList → ∀ arr : Array Keyed, arr.toList = a.toList.take k ++ m.toList ++ a.toList.drop (n1 + r) → arr.toList.Perm a.toList ∧ Srt key arr.toList := fun m F arr e => by
      rw [e]
      have e2 : a.toList = a.toList.take k ++ ((a.toList.take n1).drop k ++ (a.toList.take (n1 + r)).drop n1) ++ a.toList.drop (n1 + r) := by
        have q1 := List.take_append_drop (n1 + r) a.toList
        have q2 := List.take_append_drop n1 (a.toList.take (n1 + r))
        have q3 := List.take_append_drop k (a.toList.take n1)
        rw [List.take_take, Nat.min_eq_left (by omega)] at q2 q3
        rw [← List.append_assoc, q3, q2, q1]
      rw [ex, ey] at F
      have inM : ∀ z ∈ m.toList, (∃ j, ∃ hj : j < a.toList.length, k ≤ j ∧ j < n1 ∧ a.toList[j] = z) ∨ ∃ j, ∃ hj : j < a.toList.length, n1 ≤ j ∧ j < n1 + r ∧ a.toList[j] = z := fun z hz => by
        rcases List.mem_append.mp (F.perm.mem_iff.mp hz) with q | q
        · exact .inl (mem_cut q)
        · exact .inr (mem_cut q)
      have len : a.toList.length = a.size := by simp
      refine ⟨?_, List.pairwise_append.mpr ⟨List.pairwise_append.mpr ⟨?_, F.srt, fun x hx z hz => ?_⟩, ?_, fun x hx z hz => ?_⟩⟩
      · refine List.Perm.trans ?_ (List.Perm.of_eq e2.symm)
        exact (F.perm.append_left _).append_right _
      · have := seg_srt (key := key) (a := a) (lo := 0) (hi := k) (fun i j i1 i2 i3 => s1 i j i1 i2 (by omega)) (by omega)
        rw [List.drop_zero] at this
        exact this
      · have hx' : x ∈ (a.toList.take k).drop 0 := hx
        obtain ⟨i, hi, i1, i2, rfl⟩ := mem_cut hx'
        rcases inM z hz with ⟨j, hj, j1, j2, rfl⟩ | ⟨j, hj, j1, j2, rfl⟩
        · show le2 (key a.toList[i]) (key a.toList[j])
          rw [← kg_list (key := key) hi, ← kg_list (key := key) hj]
          exact s1 i j (by omega) (by omega) j2
        · show le2 (key a.toList[i]) (key a.toList[j])
          rw [← kg_list (key := key) hi, ← kg_list (key := key) hj]
          exact le2_trans (F1 i i2) (s2 n1 j (Nat.le_refl _) j1 (by omega))
      · have := seg_srt (key := key) (a := a) (lo := n1 + r) (hi := a.size) (fun i j i1 i2 i3 => s2 i j (by omega) i2 (by omega)) (Nat.le_refl _)
        rw [List.take_of_length_le (by omega)] at this
        exact this
      · obtain ⟨j, hj, j1, rfl⟩ := mem_drop_at hz
        have up : ∀ i, ∀ hi : i < a.toList.length, i < n1 + r → le2 (key a.toList[i]) (key a.toList[j]) := fun i hi i2 => by
          rw [← kg_list (key := key) hi, ← kg_list (key := key) hj]
          by_cases c : n1 ≤ i
          · exact s2 i j c (by omega) (by omega)
          · have := F4 (j - n1) (by omega) (by omega)
            rw [show n1 + (j - n1) = j by omega] at this
            exact le2_trans (s1 i (n1 - 1) (by omega) (by omega) (by omega)) this
        rcases List.mem_append.mp hx with q | q
        · have q' : x ∈ (a.toList.take k).drop 0 := q
          obtain ⟨i, hi, i1, i2, rfl⟩ := mem_cut q'
          exact up i hi (by omega)
        · rcases inM x q with ⟨i, hi, i1, i2, rfl⟩ | ⟨i, hi, i1, i2, rfl⟩
          · exact up i hi (by omega)
          · exact up i hi i2
    have back : ∀ m : Array Keyed, Fin2 key (a.extract (0 + k) n1).toList (a.extract n1 (n1 + r)).toList m.toList → ((m.toList.zipIdx).foldl (fun (a : Array Keyed) (x : Keyed × Nat) => match x with | (p, j) => a.setIfInBounds (0 + k + j) p) a).toList = a.toList.take k ++ m.toList ++ a.toList.drop (n1 + r) := fun m F => by
      have ml : m.toList.length = n1 - k + r := by
        have := F.perm.length_eq
        rw [List.length_append] at this
        simp only [Array.length_toList] at this ⊢
        rw [hx1, hy1] at this
        exact this
      have := wr_back (0 + k) m.toList 0 a (by omega)
      rw [this, ml]
      congr 2
      · congr 1
        omega
      · omega
    refine s_ite (fun _ => wpS_bind (s_lo (a := a.extract (0 + k) n1) (b := a.extract n1 (n1 + r)) K rfl gx gy (by omega) (by omega) sx sy bot top fun m st' fr F => wpS_bind (wpS_modify (wpS_bind (wpS_get ?_))))) (fun _ => wpS_bind (s_hi (a := a.extract (0 + k) n1) (b := a.extract n1 (n1 + r)) K rfl gx gy (by omega) (by omega) sx sy bot top fun m st' fr F => wpS_bind (wpS_modify (wpS_bind (wpS_get ?_)))))
    all_goals
      cases st' with
      | mk k9 a9 p9 g9 f9 =>
        obtain ⟨z1, z2, z3, z4⟩ := fr
        have z1 : k9 = k0 := z1
        have z2 : a9 = a := z2
        have z3 : p9 = #[(0, n1 + n2, pw)] := (show p9 = _ from z3).trans pe
        have z4 : f9 = none := z4
        obtain ⟨q1, q2⟩ := fin m F _ (back m F)
        rw [z4]
        refine wpS_pure (h _ z1 rfl z3 ?_ ?_)
        · rw [z2]; exact q1
        · rw [z2]; exact q2
end
end HT

set_option Elab.async false
set_option linter.all false
set_option maxRecDepth 100000
set_option maxHeartbeats 4000000
namespace HT
open PySem PySem.W PyProof.Rows PySem.Calls
section
variable {prog : Program} {w : World} {A : Around} {E : Value → Shared → Prop} {s : Shared} {key : Keyed → Int × Int} {G : Keyed → Prop} {κ : SortKind}
/-- no run, one run, two runs are found -/
inductive Found (key : Keyed → Int × Int) (κ : SortKind) (st : SortSt) : Nat → SortSt → Prop
  | no {st' : SortSt} : st' = st → Found key κ st 0 st'
  | one {st' : SortSt} {n : Nat} : kindOf st' = κ → failedOf st' = none → pendingOf st' = #[(0, n, 0)] → (arrOf st').Perm (arrOf st) → Seg key (arrOf st') 0 n → 32 ≤ n → n ≤ 64 → Found key κ st n st'
  | two {st' : SortSt} {n m pw : Nat} : kindOf st' = κ → failedOf st' = none → pendingOf st' = #[(0, n, pw), (n, m, 0)] → (arrOf st').Perm (arrOf st) → Seg key (arrOf st') 0 n → Seg key (arrOf st') n (n + m) → 0 < n → 0 < m → n + m = 64 → Found key κ st 64 st'
theorem Seg.low {a b : Array Keyed} {n : Nat} (h : Seg key a 0 n) (e : ∀ i, i < n → b[i]? = a[i]?) : Seg key b 0 n := fun i j i1 i2 i3 => by
  rw [Kg_get (key := key) (e i (by omega)), Kg_get (key := key) (e j i3)]
  exact h i j i1 i2 i3
theorem pend2 (n m pw : Nat) (f : Nat × Nat × Nat → Nat × Nat × Nat) (hf : f (0, n, 0) = (0, n, pw) := by rfl) : ((#[(0, n, 0)] : Array (Nat × Nat × Nat)).modify ((#[(0, n, 0)] : Array (Nat × Nat × Nat)).size - 1) f).push (n, m, 0) = #[(0, n, pw), (n, m, 0)] := by
  apply Array.toList_inj.mp
  rw [Array.toList_push, Array.toList_modify]
  simp [hf]
theorem s_runs64 {st : SortSt} {Q : Unit → SortSt → Prop} (K : Asks prog w A s κ key G) (hk : kindOf st = κ) (hG : ∀ x ∈ arrOf st, G x) (hf : failedOf st = none) (hp : pendingOf st = #[]) (hn : (arrOf st).size = 64)
    (h : ∀ st' : SortSt, failedOf st' = none → (arrOf st').toList.Perm (arrOf st).toList → Srt key (arrOf st').toList → Q () st') : wpS (model prog w) A E s sortRuns' Q st := by
  have hmr : minRun' (arrOf st).size (arrOf st).size 0 = 32 := by rw [hn]; rfl
  refine wpS_bind (wpS_get ?_)
  refine wpS_bind (wpS_mono (wpS_forRange (I := fun x c st' => ∃ lo, c = (none, lo) ∧ Found key κ st lo st' ∧ (x = 0 → lo = 0) ∧ (1 ≤ x → 32 ≤ lo) ∧ (2 ≤ x → lo = 64)) (Q := fun c st' => c = (none, 64) ∧ Found key κ st 64 st') ?_ ?_ ⟨0, rfl, .no rfl, fun _ => rfl, fun z => by omega, fun z => by omega⟩) ?_)
  · rintro x c st1 hx1 hx2 ⟨lo, rfl, F, l0, l1, l2⟩
    cases F with
    | no e =>
      subst e
      have x0 : x = 0 := by
        by_cases c : 1 ≤ x
        · have := l1 c; omega
        · omega
      subst x0
      refine s_ite (fun (c : 0 ≥ (arrOf st1).size) => by omega) (fun c => ?_)
      refine wpS_bind (s_count K hk hG (lo := 0) (n := (arrOf st1).size - 0) (by omega) (by omega) fun m st2 m1 m2 R2 sg2 => ?_)
      refine s_ite (fun (c : m < minRun' (arrOf st1).size (arrOf st1).size 0) => ?_) (fun (c : ¬ m < minRun' (arrOf st1).size (arrOf st1).size 0) => ?_)
      · rw [hmr] at c
        have ef : min ((arrOf st1).size - 0) (minRun' (arrOf st1).size (arrOf st1).size 0) = 32 := by rw [hmr, hn]; rfl
        have z2 := R2.size
        refine wpS_bind (wpS_lift (wpAny_rule ⟨rfl, wpS_bind (s_bin (lo := 0) (n := min ((arrOf st1).size - 0) (minRun' (arrOf st1).size (arrOf st1).size 0)) K (R2.k.trans hk) (R2.mem hG) m1 (by omega) (by omega) sg2 fun st3 R3 sg3 => ?_)⟩))
        refine s_ite (fun d => absurd d (by decide)) (fun _ => ?_)
        have R3 := R2.trans R3
        rw [Nat.zero_add] at sg3
        generalize st1 = st at *
        cases st3 with
        | mk k3 a3 p3 g3 f3 =>
          obtain ⟨r1, r2, r3, r4, r5⟩ := R3
          have r2 : p3 = #[] := (show p3 = pendingOf st from r2).trans hp
          subst r2
          refine wpS_bind (wpS_get ?_)
          refine wpS_bind (wpS_modify (wpS_pure ⟨(min ((arrOf st).size - 0) (minRun' (arrOf st).size (arrOf st).size 0)), by first | rfl | (rw [Nat.zero_add]; done) | (rw [Nat.zero_add]; rfl), ?_, fun z => by omega, fun z => by omega, fun z => by omega⟩))
          exact .one (r1.trans hk) (r3.trans hf) (by first | rfl | simp) r4 sg3 (by omega) (by omega)
      · rw [hmr] at c
        have R3 := R2
        have sg3 := sg2
        rw [Nat.zero_add] at sg3
        obtain ⟨st3, e3⟩ : ∃ z, z = st2 := ⟨_, rfl⟩
        rw [← e3] at R3 sg3 ⊢
        generalize st1 = st at *
        cases st3 with
        | mk k3 a3 p3 g3 f3 =>
          obtain ⟨r1, r2, r3, r4, r5⟩ := R3
          have r2 : p3 = #[] := (show p3 = pendingOf st from r2).trans hp
          subst r2
          refine wpS_bind (wpS_get ?_)
          refine wpS_bind (wpS_modify (wpS_pure ⟨m, by first | rfl | (rw [Nat.zero_add]; done) | (rw [Nat.zero_add]; rfl), ?_, fun z => by omega, fun z => by omega, fun z => by omega⟩))
          exact .one (r1.trans hk) (r3.trans hf) (by first | rfl | simp) r4 sg3 (by omega) (by omega)
    | @one _ n fk ff fp fpm fsg f1 f2 =>
      have x1 : 1 ≤ x := by
        by_cases c : x = 0
        · have := l0 c; omega
        · omega
      have z1 : (arrOf st1).size = 64 := by rw [fpm.size_eq]; exact hn
      have hG1 : ∀ x ∈ arrOf st1, G x := fun x hx => hG x (fpm.mem_iff.mp hx)
      refine s_ite (fun (c : lo ≥ (arrOf st).size) => wpS_pure ⟨?_, ?_⟩) (fun (c : ¬ lo ≥ (arrOf st).size) => ?_)
      · rw [show lo = 64 by omega]
      · have e : lo = 64 := by omega
        subst e
        exact .one fk ff fp fpm fsg f1 f2
      generalize lo = n at *
      refine wpS_bind (s_count K fk hG1 (lo := n) (n := (arrOf st).size - n) (by omega) (by omega) fun m st2 m1 m2 R2 sg2 => ?_)
      refine s_ite (fun (c : m < minRun' (arrOf st).size (arrOf st).size 0) => ?_) (fun (c : ¬ m < minRun' (arrOf st).size (arrOf st).size 0) => ?_)
      · rw [hmr] at c
        have ef : min ((arrOf st).size - n) (minRun' (arrOf st).size (arrOf st).size 0) = 64 - n := by rw [hmr, hn]; omega
        have z2 := R2.size
        refine wpS_bind (wpS_lift (wpAny_rule ⟨rfl, wpS_bind (s_bin (lo := n) (n := min ((arrOf st).size - n) (minRun' (arrOf st).size (arrOf st).size 0)) K (R2.k.trans fk) (R2.mem hG1) m1 (by omega) (by omega) sg2 fun st3 R3 sg3 => ?_)⟩))
        refine s_ite (fun d => absurd d (by decide)) (fun _ => ?_)
        have R3 := R2.trans R3
        cases st3 with
        | mk k3 a3 p3 g3 f3 =>
          obtain ⟨r1, r2, r3, r4, r5⟩ := R3
          have r2 : p3 = #[(0, n, 0)] := (show p3 = pendingOf st1 from r2).trans fp
          subst r2
          refine wpS_bind (wpS_get ?_)
          refine wpS_bind (wpS_mono (wpS_forRange (I := fun _ c st' => c = (none, ()) ∧ st' = SortSt.mk' k3 a3 #[(0, n, 0)] g3 f3) (Q := fun c st' => c = (none, ()) ∧ st' = SortSt.mk' k3 a3 #[(0, n, 0)] g3 f3) ?_ (fun _ _ z => z) ⟨rfl, rfl⟩) ?_)
          · rintro y c st' _ _ ⟨rfl, rfl⟩
            refine wpS_bind (wpS_get ?_)
            exact wpS_pure ⟨rfl, rfl⟩
          rintro c st' ⟨rfl, rfl⟩
          refine wpS_bind (wpS_modify ?_)
          refine wpS_bind (wpS_modify (wpS_pure ⟨64, ?_, ?_, fun z => by omega, fun z => by omega, fun z => by omega⟩))
          · refine Prod.ext rfl ?_
            show n + (min ((arrOf st).size - n) (minRun' (arrOf st).size (arrOf st).size 0)) = 64
            omega
          · refine .two (n := n) (m := (min ((arrOf st).size - n) (minRun' (arrOf st).size (arrOf st).size 0))) (pw := power' (arrOf st).size (2 * 0 + n) (2 * 0 + n + n + (min ((arrOf st).size - n) (minRun' (arrOf st).size (arrOf st).size 0))) (arrOf st).size) (r1.trans fk) (r3.trans ff) ?_ (r4.trans fpm) (Seg.low fsg r5) sg3 (by omega) (by omega) (by omega)
            exact pend2 _ _ _ _
      · rw [hmr] at c
        have R3 := R2
        have sg3 := sg2
        obtain ⟨st3, e3⟩ : ∃ z, z = st2 := ⟨_, rfl⟩
        rw [← e3] at R3 sg3 ⊢
        cases st3 with
        | mk k3 a3 p3 g3 f3 =>
          obtain ⟨r1, r2, r3, r4, r5⟩ := R3
          have r2 : p3 = #[(0, n, 0)] := (show p3 = pendingOf st1 from r2).trans fp
          subst r2
          refine wpS_bind (wpS_get ?_)
          refine wpS_bind (wpS_mono (wpS_forRange (I := fun _ c st' => c = (none, ()) ∧ st' = SortSt.mk' k3 a3 #[(0, n, 0)] g3 f3) (Q := fun c st' => c = (none, ()) ∧ st' = SortSt.mk' k3 a3 #[(0, n, 0)] g3 f3) ?_ (fun _ _ z => z) ⟨rfl, rfl⟩) ?_)
          · rintro y c st' _ _ ⟨rfl, rfl⟩
            refine wpS_bind (wpS_get ?_)
            exact wpS_pure ⟨rfl, rfl⟩
          rintro c st' ⟨rfl, rfl⟩
          refine wpS_bind (wpS_modify ?_)
          refine wpS_bind (wpS_modify (wpS_pure ⟨64, ?_, ?_, fun z => by omega, fun z => by omega, fun z => by omega⟩))
          · refine Prod.ext rfl ?_
            show n + m = 64
            omega
          · refine .two (n := n) (m := m) (pw := power' (arrOf st).size (2 * 0 + n) (2 * 0 + n + n + m) (arrOf st).size) (r1.trans fk) (r3.trans ff) ?_ (r4.trans fpm) (Seg.low fsg r5) sg3 (by omega) (by omega) (by omega)
            exact pend2 _ _ _ _
    | @two _ n m pw fk ff fp fpm fsg fsg2 f1 f2 f3 =>
      refine s_ite (fun (c : 64 ≥ (arrOf st).size) => wpS_pure ⟨rfl, .two fk ff fp fpm fsg fsg2 f1 f2 f3⟩) (fun (c : ¬ 64 ≥ (arrOf st).size) => by omega)
  · rintro c st1 ⟨lo, rfl, F, l0, l1, l2⟩
    have e : lo = 64 := l2 (by have hn : (arrOf st).size = 64 := hn; show 2 ≤ max 0 (arrOf st).size; omega)
    subst e
    exact ⟨rfl, F⟩
  · rintro c st1 ⟨rfl, F⟩
    have all : ∀ st' : SortSt, failedOf st' = none → (arrOf st').Perm (arrOf st) → Seg key (arrOf st') 0 64 → failedOf st' = none ∧ (arrOf st').toList.Perm (arrOf st).toList ∧ Srt key (arrOf st').toList := fun st' f0 pm sg => by
      have z : (arrOf st').size = 64 := by rw [pm.size_eq]; exact hn
      refine ⟨f0, Array.perm_iff_toList_perm.mp pm, ?_⟩
      have := seg_srt sg (by omega)
      rw [List.drop_zero, List.take_of_length_le (by rw [Array.length_toList]; omega)] at this
      exact this
    refine wpS_bind (wpS_mono (wpS_forRange (I := fun x c st' => c = (none, ()) ∧ ((failedOf st' = none ∧ (arrOf st').toList.Perm (arrOf st).toList ∧ Srt key (arrOf st').toList) ∧ (pendingOf st').size ≤ 1 ∨ (x = 0 ∧ ∃ n m pw, kindOf st' = κ ∧ failedOf st' = none ∧ pendingOf st' = #[(0, n, pw), (n, m, 0)] ∧ (arrOf st').Perm (arrOf st) ∧ Seg key (arrOf st') 0 n ∧ Seg key (arrOf st') n (n + m) ∧ 0 < n ∧ 0 < m ∧ n + m = 64)))
      (Q := fun c st' => c = (none, ()) ∧ failedOf st' = none ∧ (arrOf st').toList.Perm (arrOf st).toList ∧ Srt key (arrOf st').toList) ?_ ?_ ⟨rfl, ?_⟩) ?_)
    · rintro x c st2 _ _ ⟨rfl, ⟨D, ps⟩ | ⟨rfl, n, m, pw, fk, ff, fp, fpm, fsg, fsg2, f1, f2, f3⟩⟩
      · refine wpS_bind (wpS_get ?_)
        exact s_ite (fun _ => wpS_pure ⟨rfl, D⟩) (fun c => absurd ps c)
      · have z : (arrOf st2).size = 64 := by rw [fpm.size_eq]; exact hn
        cases st2 with
        | mk k3 a3 p3 g3 f9 =>
          have fp : p3 = #[(0, n, pw), (n, m, 0)] := fp
          subst fp
          refine wpS_bind (wpS_get ?_)
          refine s_ite (fun (c : 2 ≤ 1) => by omega) (fun _ => ?_)
          refine wpS_bind (s_at (n1 := n) (n2 := m) (pw := pw) K fk (fun x hx => hG x (fpm.mem_iff.mp hx)) ff rfl f1 f2 (f3.trans z.symm) fsg fsg2 fun st' q1 q2 q3 q4 q5 => ?_)
          refine s_ite (fun d => absurd d (by decide)) (fun _ => wpS_pure ⟨rfl, .inl ⟨⟨q2, q4.trans (Array.perm_iff_toList_perm.mp fpm), q5⟩, ?_⟩⟩)
          rw [q3]
          exact Nat.le_refl 1
    · rintro c st2 ⟨rfl, ⟨D, ps⟩ | ⟨e, _⟩⟩
      · exact ⟨rfl, D⟩
      · exfalso
        have e : max 0 (arrOf st).size = 0 := e
        omega
    · cases F with
      | one fk ff fp fpm fsg f1 f2 => exact .inl ⟨all _ ff fpm fsg, by rw [fp]; exact Nat.le_refl 1⟩
      | two fk ff fp fpm fsg fsg2 f1 f2 f3 => exact .inr ⟨rfl, _, _, _, fk, ff, fp, fpm, fsg, fsg2, f1, f2, f3⟩
    · rintro c st2 ⟨rfl, D⟩
      exact wpS_pure (h st2 D.1 D.2.1 D.2.2)
end
end HT

set_option Elab.async false
set_option linter.all false
set_option maxRecDepth 100000
set_option maxHeartbeats 4000000
/-! Up to 64 points are sorted. -/
namespace HT
open PySem PySem.W PyProof.Rows PySem.Calls
section
variable {prog : Program} {w : World} {A : Around} {E : Value → Shared → Prop} {s : Shared}
/-- the point that a value is -/
noncomputable def PtOf (h : Heap) (v : Value) : Int × Int := Classical.epsilon fun p => ∃ b, v = Value.ref b ∧ Pt2 h b p
theorem Pt2.uniq {h : Heap} {b : Addr} {p q : Int × Int} (x : Pt2 h b p) (y : Pt2 h b q) : p = q := by
  obtain ⟨o, t, u, n, ho, _, hd⟩ := x
  obtain ⟨o', t', u', n', ho', _, hd'⟩ := y
  rw [ho] at ho'
  cases ho'
  rw [hd] at hd'
  injection hd' with e _
  have e := congrArg Array.toList e
  injection e with e1 e2
  injection e2 with e2 _
  injection e1 with e1 _
  injection e2 with e2 _
  exact Prod.ext e1 e2
theorem PtOf_is {h : Heap} {b : Addr} {p : Int × Int} (x : Pt2 h b p) : PtOf h (.ref b) = p := by
  have z : ∃ p, ∃ b', Value.ref b = Value.ref b' ∧ Pt2 h b' p := ⟨p, b, rfl, x⟩
  obtain ⟨b', e, y⟩ := Classical.epsilon_spec z
  cases e
  exact Pt2.uniq y x
theorem zip_self : ∀ vs : List Value, vs.zip vs = vs.map fun v => (v, v)
  | [] => rfl
  | v :: vs => by rw [List.zip_cons_cons, List.map_cons, zip_self vs]
theorem list_sort_64 {a : Addr} {vs : List Value} {n : Nat} {P : PySem.Fin → Shared → Prop} (ho : s.heap.get? a = some (seqObj "list" vs.toArray n)) (hv : ∀ v ∈ vs, ∃ b p, v = Value.ref b ∧ b ≠ a ∧ Pt2 s.heap b p) (h64 : vs.length = 64)
    (h : ∀ (out : List Value) h' c, out.Perm vs → out.Pairwise (fun u v => le2 (PtOf s.heap u) (PtOf s.heap v)) → (∀ b o, b ≠ a → s.heap.get? b = some o → h'.get? b = some o) → h'.get? a = some (seqObj "list" out.toArray c) → P (.done (.ret .none)) { s with heap := h' }) :
    wpAny (model prog w) A (Builtin.«list.sort» ⟨[.ref a], []⟩) P E s := by
  have ha : a < s.heap.objs.size := Heap.lt_size ho
  obtain ⟨e1, ho1⟩ : ∃ e1, (s.heap.update a (Obj.mapSeq fun _ => (#[] : Array Value))).get? a = some (seqObj "list" #[] e1) := ⟨_, get?_update_seq ho fun _ => #[]⟩
  have sb := Heap.SameBut.update s.heap a (Obj.mapSeq fun _ => (#[] : Array Value))
  rw [list_sort_plain]
  refine wpAny_bind (listItems_at (M := model prog w) ho rfl ?_)
  refine wpAny_bind (listUpdate_at (M := model prog w) ho rfl ?_ (by rw [List.size_toArray, sizeLine_eq]; omega) (Nat.zero_le _))
  refine wpAny_bind (seqEpoch_at (M := model prog w) ho1 rfl ?_)
  refine wpAny_bind (wpAny_newTuple (M := model prog w) ?_ (by show vs.length ≤ _; rw [sizeLine_eq]; omega))
  refine wpAny_bind (wpAny_newList (M := model prog w) ?_ (Nat.zero_le _))
  refine wpAny_holding (vs := _) ?_
  obtain ⟨h2, eh⟩ : ∃ h2, h2 = ((s.heap.update a (Obj.mapSeq fun _ => (#[] : Array Value))).push (seqObj "tuple" vs.toArray 0)).push (seqObj "list" #[] 0) := ⟨_, rfl⟩
  show wpAny (model prog w) A _ P E { s with heap := ((s.heap.update a (Obj.mapSeq fun _ => (#[] : Array Value))).push (seqObj "tuple" vs.toArray 0)).push (seqObj "list" #[] 0) }
  rw [← eh]
  have keep : ∀ b o, b ≠ a → s.heap.get? b = some o → h2.get? b = some o := fun b o hb e => by
    rw [eh]
    exact Heap.get?_push_of_some _ (Heap.get?_push_of_some _ ((sb.2 b hb).trans e))
  have ho2 : h2.get? a = some (seqObj "list" #[] e1) := by
    rw [eh]
    exact Heap.get?_push_of_some _ (Heap.get?_push_of_some _ ho1)
  dsimp only
  have c2 : ¬ vs.toArray.size < 2 := by rw [List.size_toArray]; omega
  rw [if_neg c2, if_neg c2]
  have hv2 : ∀ v ∈ vs, ∃ b p, v = Value.ref b ∧ Pt2 h2 b p ∧ Pt2 s.heap b p := fun v hm => by
    obtain ⟨b, p, e, hb, x⟩ := hv v hm
    exact ⟨b, p, e, x.stay fun o e => keep b o hb e, x⟩
  obtain ⟨fs, kt, fl, fi⟩ := tups_ok (h := h2) vs (fun i => PtOf h2 (vs.getD i Value.none)) fun i hi => by
    have hm : vs.getD i Value.none ∈ vs := by
      rw [List.getD_eq_getElem?_getD, List.getElem?_eq_getElem hi]
      exact List.getElem_mem hi
    obtain ⟨b, p, eb, x, _⟩ := hv2 _ hm
    refine ⟨b, eb, ?_⟩
    rw [eb, PtOf_is x]
    exact x
  refine wpAny_bind (kat_kind (M := model prog w) (T := .type "int") kt (by omega) (fun v hv => ?_) rfl ?_)
  · obtain ⟨i, t, rfl⟩ := fi v hv
    exact Looks.now
  have ask : Asks prog w A { s with heap := h2 } (tuples' true) (fun x => PtOf h2 x.1) (fun x => x.1 ∈ vs) := fun x y E C hx hy hC => by
    obtain ⟨b, p, eb, xb, _⟩ := hv2 _ hx
    obtain ⟨b', p', eb', xb', _⟩ := hv2 _ hy
    have e1 : PtOf h2 x.1 = p := by rw [eb]; exact PtOf_is xb
    have e2 : PtOf h2 y.1 = p' := by rw [eb']; exact PtOf_is xb'
    have hC : C (decide (lt2 (PtOf h2 x.1) (PtOf h2 y.1))) { s with heap := h2 } := hC
    rw [e1, e2] at hC
    rw [eb, eb']
    exact cmp_ok xb xb' hC
  have zz : (vs.toArray.zip vs.toArray).toList = vs.map fun v => (v, v) := by
    rw [Array.toList_zip]
    exact zip_self vs
  have run := s_runs64 (E := E) (st := SortSt.mk' (tuples' true) (vs.toArray.zip vs.toArray) #[] 7 none) (Q := fun _ st' => failedOf st' = none ∧ (arrOf st').toList.Perm (vs.map fun v => (v, v)) ∧ Srt (fun x => PtOf h2 x.1) (arrOf st').toList) ask rfl (fun x hx => by
      have hx : x ∈ (vs.toArray.zip vs.toArray).toList := Array.mem_toList_iff.mpr hx
      rw [zz] at hx
      obtain ⟨v, hm, rfl⟩ := List.mem_map.mp hx
      exact hm) rfl rfl (by show (vs.toArray.zip vs.toArray).size = 64; rw [← Array.length_toList, zz, List.length_map]; exact h64) fun st' q1 q2 q3 => ⟨q1, by rw [← zz]; exact q2, q3⟩
  refine wpAny_bind (wpAny_mono run ?_ fun _ _ x => x)
  rintro ⟨⟨⟩, st'⟩ s' ⟨rfl, hf, pm, sr⟩
  dsimp only at hf pm sr ⊢
  have po : (((arrOf st').map (·.2)).toList).Perm vs := by
    rw [Array.toList_map]
    refine (pm.map _).trans (List.Perm.of_eq ?_)
    rw [List.map_map]
    exact List.map_id' vs
  have so : (((arrOf st').map (·.2)).toList).Pairwise (fun u v => le2 (PtOf s.heap u) (PtOf s.heap v)) := by
    rw [Array.toList_map, List.pairwise_map]
    refine List.Pairwise.imp_of_mem ?_ sr
    intro x y hx hy hle
    obtain ⟨v, hm, rfl⟩ := List.mem_map.mp (pm.mem_iff.mp hx)
    obtain ⟨u, hm', rfl⟩ := List.mem_map.mp (pm.mem_iff.mp hy)
    obtain ⟨b, p, rfl, xb, xb0⟩ := hv2 _ hm
    obtain ⟨b', p', rfl, yb, yb0⟩ := hv2 _ hm'
    dsimp only
    have hle : le2 (PtOf h2 (.ref b)) (PtOf h2 (.ref b')) := hle
    rw [PtOf_is xb, PtOf_is yb] at hle
    rw [PtOf_is xb0, PtOf_is yb0]
    exact hle
  have sz : ((arrOf st').map (·.2)).size = 64 := by rw [← Array.length_toList, po.length_eq]; exact h64
  refine wpAny_bind (seqEpoch_at (M := model prog w) ho2 rfl ?_)
  refine wpAny_bind (listUpdate_at (M := model prog w) ho2 rfl ?_ (Nat.zero_le _) (by show ((arrOf st').map (·.2)).size ≤ _; rw [sz, sizeLine_eq]; omega))
  rw [hf]
  simp only [bne_self_eq_false, Bool.false_eq_true, if_false]
  obtain ⟨c3, hc3⟩ : ∃ c3, (h2.update a (Obj.mapSeq fun _ => (arrOf st').map (·.2))).get? a = some (seqObj "list" ((arrOf st').map (·.2)) c3) := ⟨_, get?_update_seq ho2 fun _ => (arrOf st').map (·.2)⟩
  exact wpAny_pure (h _ _ c3 po so (fun b o hb e => ((Heap.SameBut.update h2 a _).2 b hb).trans (keep b o hb e)) (by rw [Array.toArray_toList]; exact hc3))
/-- sorted(s), s a set of points -/
theorem sorted_set {S : Addr} {es : Array (Int × Value)} {ep : Nat} {t : SetTable} {Q : Value → Shared → Prop} (hh : A.handled = none) (r : Rest w s.heap S es ep t) (h64 : es.size ≤ 64) (hE : ∀ e ∈ es.toList, ∃ b p, e.2 = Value.ref b ∧ Pt2 s.heap b p)
    (h : ∀ (D : Addr) (h' : Heap) (tk c : Nat) (vs : List Value) (κ : Nat → Int × Int), s.heap.objs.size ≤ D → (∀ b o, s.heap.get? b = some o → h'.get? b = some o) → h'.get? D = some (seqObj "list" vs.toArray c) → vs.Perm (es.toList.map (·.2)) → (∀ i, i < vs.length → ∃ b, vs.getD i Value.none = .ref b ∧ Pt2 s.heap b (κ i)) → (∀ i j, i ≤ j → j < vs.length → le2 (κ i) (κ j)) → Q (.ref D) { s with heap := h', toks := tk }) :
    wpAny (model prog w) A (call (.builtin "sorted") [.ref S]) Q E s := by
  refine Calls.call_function_entry kind_sorted plain_sorted entry_sorted (by exact args_sorted1 _) ?_
  unfold Builtin.«sorted»
  refine wpAny_bind (m := checkCount "sorted" 1 1 [Value.ref S].length) (wpAny_pure ?_)
  refine wpAny_bind (collect_src (A := A.in1) (src_set (w := w) (S := S) (es := es) (ep := ep) (t := t)) hh r (by rw [sizeLine_eq]; omega) fun h1 tk1 us big hk1 hl1 hP1 => ?_)
  have eu : us = (wOrd w S ep es).toList.map (·.2) := by
    refine List.ext_getElem? fun i => ?_
    have et : (wOrd w S ep es).toList[i]? = (wOrd w S ep es)[i]? := by simp
    rw [List.getElem?_map, et]
    cases c : us[i]? with
    | none =>
      have : us.length ≤ i := List.getElem?_eq_none_iff.mp c
      rw [Array.getElem?_eq_none (by rw [wOrd_size]; omega)]
      rfl
    | some v =>
      obtain ⟨e, he, rfl⟩ := hP1 i v c
      rw [he]
      rfl
  have pu : us.Perm (es.toList.map (·.2)) := by
    rw [eu]
    exact (wOrd_perm w S ep es).map _
  have hu : ∀ v ∈ us, ∃ b p, v = Value.ref b ∧ Pt2 s.heap b p := fun v hv => by
    obtain ⟨e, he, rfl⟩ := List.mem_map.mp (pu.mem_iff.mp hv)
    exact hE e he
  obtain ⟨κ, hκ⟩ : ∃ κ : Nat → Int × Int, ∀ i, i < us.length → ∃ b, us.getD i Value.none = .ref b ∧ Pt2 s.heap b (κ i) := by
    refine ⟨fun i => Classical.epsilon fun p => ∃ b, us.getD i Value.none = .ref b ∧ Pt2 s.heap b p, fun i hi => ?_⟩
    have z : ∃ p, ∃ b, us.getD i Value.none = .ref b ∧ Pt2 s.heap b p := by
      have hm : us.getD i Value.none ∈ us := by
        rw [List.getD_eq_getElem?_getD, List.getElem?_eq_getElem hi]
        exact List.getElem_mem hi
      obtain ⟨b, p, e, x⟩ := hu _ hm
      exact ⟨p, b, e, x⟩
    exact Classical.epsilon_spec z
  refine wpAny_bind (wpAny_newList (M := model prog w) ?_ (by rw [hl1, sizeLine_eq]; omega))
  have hoL : (h1.push { cls := .type "list", data := .seq us.toArray }).get? h1.objs.size = some (seqObj "list" us.toArray 0) := Heap.get?_push_size _ rfl
  have old : ∀ b o, s.heap.get? b = some o → b ≠ h1.objs.size := fun b o e => Nat.ne_of_lt (Heap.lt_size (hk1 b o e))
  by_cases c64 : us.length = 64
  · have hp : ∀ v ∈ us, ∃ b p, v = Value.ref b ∧ b ≠ h1.objs.size ∧ Pt2 (h1.push { cls := .type "list", data := .seq us.toArray }) b p ∧ Pt2 s.heap b p := fun v hm => by
      obtain ⟨b, p, rfl, x⟩ := hu v hm
      have x0 := x
      obtain ⟨o, _, _, _, ho, _⟩ := x0
      exact ⟨b, p, rfl, old b o ho, x.stay fun o e => Heap.get?_push_of_some _ (hk1 b o e), x⟩
    refine wpAny_bind (wpAny_holding (wpAny_call_entry slot_list_sort ⟨_, hoL, rfl⟩ entry_list_sort (list_sort_64 hoL (fun v hm => ?_) c64 fun out h' c pm sr kp hD => ⟨_, rfl, ?_⟩) (args_list_sort _)))
    · obtain ⟨b, p, e, x1, x2, _⟩ := hp v hm
      exact ⟨b, p, e, x1, x2⟩
    · have gm : ∀ i, i < out.length → out.getD i Value.none ∈ us := fun i hi => by
        rw [List.getD_eq_getElem?_getD, List.getElem?_eq_getElem hi]
        exact pm.mem_iff.mp (List.getElem_mem hi)
      refine wpAny_pure ⟨_, rfl, h h1.objs.size h' tk1 c out (fun i => PtOf s.heap (out.getD i Value.none)) big (fun b o e => kp b o (old b o e) (Heap.get?_push_of_some _ (hk1 b o e))) hD (pm.trans pu) (fun i hi => ?_) fun i j hij hj => ?_⟩
      · obtain ⟨b, p, e, _, _, x⟩ := hp _ (gm i hi)
        refine ⟨b, e, ?_⟩
        show Pt2 s.heap b (PtOf s.heap (out.getD i Value.none))
        rw [e, PtOf_is x]
        exact x
      · obtain ⟨b, p, e, _, y, x⟩ := hp _ (gm i (by omega))
        obtain ⟨b', p', e', _, y', x'⟩ := hp _ (gm j hj)
        by_cases z : i = j
        · subst z; exact le2_refl _
        · have := List.pairwise_iff_getElem.mp sr i j (by omega) hj (by omega)
          have g1 : out[i] = out.getD i Value.none := by rw [List.getD_eq_getElem?_getD, List.getElem?_eq_getElem (by omega)]; rfl
          have g2 : out[j] = out.getD j Value.none := by rw [List.getD_eq_getElem?_getD, List.getElem?_eq_getElem hj]; rfl
          rw [g1, g2, e, e'] at this
          dsimp only at this ⊢
          rw [PtOf_is y, PtOf_is y'] at this
          rw [e, e', PtOf_is x, PtOf_is x']
          exact this
  refine wpAny_bind (wpAny_holding (wpAny_call_entry slot_list_sort ⟨_, hoL, rfl⟩ entry_list_sort (list_sort_pts (κ := κ) hoL (fun i hi => ?_) (by omega) fun p h' c pr up kp hD => ⟨_, rfl, ?_⟩) (args_list_sort _)))
  · obtain ⟨b, eb, x⟩ := hκ i hi
    have x0 := x
    obtain ⟨o, _, _, _, ho, _⟩ := x0
    exact ⟨b, eb, old b o ho, x.stay fun o e => Heap.get?_push_of_some _ (hk1 b o e)⟩
  · have ek : ∀ i, i < (p.toList.map fun i => us.getD i Value.none).length → (p.toList.map fun i => us.getD i Value.none).getD i Value.none = us.getD (p.getD i 0) Value.none ∧ p.getD i 0 < us.length := fun i hi => by
      rw [List.length_map, Array.length_toList, pr.size] at hi
      have hi' : i < p.size := by rw [pr.size]; exact hi
      refine ⟨?_, pr.lt hi⟩
      rw [List.getD_eq_getElem?_getD, List.getElem?_map, Array.getElem?_toList, Array.getElem?_eq_getElem hi']
      simp [Array.getD, hi']
    refine wpAny_pure ⟨_, rfl, h h1.objs.size h' tk1 c (p.toList.map fun i => us.getD i Value.none) (Kp κ p) big (fun b o e => kp b o (old b o e) (Heap.get?_push_of_some _ (hk1 b o e))) hD ?_ (fun i hi => ?_) fun i j hij hj => ?_⟩
    · refine ((pr.perm.map _).trans (List.Perm.of_eq ?_)).trans pu
      refine List.ext_getElem (by simp) fun i h1 h2 => ?_
      simp [h2]
    · obtain ⟨e1, e2⟩ := ek i hi
      obtain ⟨b, eb, x⟩ := hκ _ e2
      exact ⟨b, by rw [e1]; exact eb, x⟩
    · rw [List.length_map, Array.length_toList, pr.size] at hj
      exact up i j hij hj
end
end HT

set_option Elab.async false
set_option linter.all false
set_option maxRecDepth 100000
set_option maxHeartbeats 4000000
/-! The layer's rules for set(l) and sorted(s) over points. -/
namespace L2
open PySem PySem.Spec PyProof.Rows HT
/-- the set at S, its entries the points at bs -/
def SetIs (w : World) (S : Addr) (bs : List Addr) (h : Heap) : Prop := ∃ es ep t, Rest w h S es ep t ∧ es.toList.map (·.2) = bs.map Value.ref
section
variable {X : Cx} {pins : List (Addr × Obj)} {σ : St} {H : Hp} {s : Shared}
theorem vals_two {x y : Int} {its : List Value} (h : Vals [.int x, .int y] its) : ∃ t u, its = [.int x t, .int y u] := by
  cases h with
  | cons h1 h2 =>
    cases h2 with
    | cons h3 h4 =>
      cases h4
      obtain ⟨t, rfl⟩ := h1
      obtain ⟨u, rfl⟩ := h3
      exact ⟨t, u, rfl⟩
theorem pt2_of {P : Program} {w : World} {h : Heap} {a : Addr} {p : Int × Int} (ok : HOk P w H h) (e : PtAt H a p) : Pt2 h a p := by
  obtain ⟨_, its, r, o, h1, h2, n, h3⟩ := (show ObjOk P w H h a (.tup [.int p.1, .int p.2]) from ok a _ e)
  obtain ⟨t, u, rfl⟩ := vals_two r
  exact ⟨o, t, u, n, h1, h2, h3⟩
theorem tup_of {P : Program} {w : World} {h : Heap} {a : Addr} {p : Int × Int} (x : Pt2 h a p) : Tup P w h [p.1, p.2] a := by
  obtain ⟨o, t, u, n, h1, h2, h3⟩ := x
  exact ⟨o, _, n, h1, h2, h3, .cons (intKind_is _ _ _ _) (.cons (intKind_is _ _ _ _) .nil)⟩
def addrOf (v : Value) : Addr := match v with
  | .ref a => a
  | _ => 0
theorem call_setP (hc : X.calm = true) (hu : X.A.units + 4 < cLine) : CallR X (.type "set") (fun xs H Q => ∃ (l : Addr) (as : List Addr) (ps : List (Int × Int)), xs = [.ref l] ∧ LPts H l as ps ∧ ps.length ≤ 64 ∧
    ∀ S bs, H S = none → (∀ b ∈ bs, b ∈ as) → bs.length ≤ ps.length → (∀ p ∈ ps, ∃ b ∈ bs, PtAt H b p) → ((∀ p ∈ ps, ∀ q ∈ ps, p = q) → bs.length ≤ 1) → Q (.ref S) (upd H S (.ext (SetIs X.w S bs)))) := by
  intro pins s σ H xs us Q I r h
  obtain ⟨l, as, ps, rfl, L, h64, q⟩ := h
  obtain ⟨u, rfl, rx⟩ := vals1 r
  cases rx
  obtain ⟨its, rv, pl, hz⟩ := I.list (L.sq (K := X.K))
  have ei := vals_refs rv
  subst ei
  have hlen : as.length = ps.length := L.2.len
  have hat : ∀ (j : Nat) (v : Value), (as.map Value.ref).toArray[j]? = some v → ∃ a, v = .ref a ∧ a ∈ as ∧ j < ps.length ∧ PtAt H a (ps.getD j (0, 0)) := fun j v hv => by
    rw [List.getElem?_toArray, List.getElem?_map] at hv
    obtain ⟨a, ha, rfl⟩ := Option.map_eq_some_iff.mp hv
    have hj : j < ps.length := by rw [← hlen]; exact (List.getElem?_eq_some_iff.mp ha).1
    obtain ⟨a', ha', x⟩ := paired_get L.2 (List.getElem?_eq_getElem hj)
    rw [ha] at ha'
    cases ha'
    refine ⟨a, rfl, List.mem_of_getElem? ha, hj, ?_⟩
    rw [List.getD_eq_getElem?_getD, List.getElem?_eq_getElem hj]
    exact x
  refine call_set_tup (key := fun j => [(ps.getD j (0, 0)).1, (ps.getD j (0, 0)).2]) (I.ok.hd hc) hu pl.isList (by rw [List.size_toArray, List.length_map]; omega) (fun j v hv => ?_) fun h' tk es ep t hk nA sq => ?_
  · obtain ⟨a, rfl, _, _, x⟩ := hat j v hv
    exact ⟨a, rfl, tup_of (pt2_of I.hok x)⟩
  · have ez : (as.map Value.ref).toArray.size = as.length := by simp
    rw [ez] at sq
    have hks : ∀ k, k ∈ (List.range as.length).map (fun j => [(ps.getD j (0, 0)).1, (ps.getD j (0, 0)).2]) ↔ ∃ p ∈ ps, k = [p.1, p.2] := fun k => by
      rw [List.mem_map]
      constructor
      · rintro ⟨j, hj, rfl⟩
        have hj' : j < ps.length := by rw [← hlen]; exact List.mem_range.mp hj
        refine ⟨ps.getD j (0, 0), ?_, rfl⟩
        rw [List.getD_eq_getElem?_getD, List.getElem?_eq_getElem hj']
        exact List.getElem_mem hj'
      · rintro ⟨p, hp, rfl⟩
        obtain ⟨j, hj, e⟩ := List.mem_iff_getElem.mp hp
        refine ⟨j, List.mem_range.mpr (by rw [hlen]; exact hj), ?_⟩
        rw [List.getD_eq_getElem?_getD, List.getElem?_eq_getElem hj]
        show [ps[j].1, ps[j].2] = _
        rw [e]
    have ref : ∀ e ∈ es.toList, ∃ a, e.2 = Value.ref a ∧ a ∈ as ∧ ∃ j, j < ps.length ∧ PtAt H a (ps.getD j (0, 0)) := fun e he => by
      obtain ⟨k, a, ee, x⟩ := sq.ents.tup e he
      have e2 : e.2 = Value.ref a := by rw [ee]
      obtain ⟨j, hj⟩ := nA e he a e2
      obtain ⟨a', e3, ha, hl, px⟩ := hat j _ hj
      cases e3
      exact ⟨a, e2, ha, j, hl, px⟩
    have eb : es.toList.map (·.2) = (es.toList.map fun e => addrOf e.2).map Value.ref := by
      rw [List.map_map]
      refine List.map_congr_left fun e he => ?_
      obtain ⟨a, e2, _⟩ := ref e he
      show e.2 = Value.ref (addrOf e.2)
      rw [e2]
      rfl
    have new : ObjOk X.prog X.w (upd H s.heap.objs.size (.ext (SetIs X.w s.heap.objs.size (es.toList.map fun e => addrOf e.2)))) h' s.heap.objs.size (.ext (SetIs X.w s.heap.objs.size (es.toList.map fun e => addrOf e.2))) := by
      refine ⟨⟨es, ep, t, ⟨sq.get, sq.tb, sq.le, sq.led, sq.plain⟩, eb⟩, ⟨_, sq.get⟩, fun h1 h2 x e => ?_⟩
      obtain ⟨es', ep', t', r', e'⟩ := x
      exact ⟨es', ep', t', r'.stay e, e'⟩
    refine ⟨.ref s.heap.objs.size, _, I.laid (t' := tk) hk (Nat.le_refl _) new, rfl, q _ _ (I.hok.fresh (Nat.le_refl _)) (fun b hb => ?_) ?_ (fun p hp => ?_) fun hall => ?_⟩
    · obtain ⟨e, he, rfl⟩ := List.mem_map.mp hb
      obtain ⟨a, e2, ha, _⟩ := ref e he
      rw [e2]
      exact ha
    · have := sq.small
      rw [List.length_map, List.length_range] at this
      rw [List.length_map, Array.length_toList]
      omega
    · obtain ⟨e, he, a, e2, x⟩ := (sq.keys [p.1, p.2]).mp ((hks _).mpr ⟨p, hp, rfl⟩)
      obtain ⟨a', e3, ha, j, hj, px⟩ := ref e he
      rw [e2] at e3
      cases e3
      refine ⟨a, List.mem_map.mpr ⟨e, he, by rw [e2]; rfl⟩, ?_⟩
      have y : Tup X.prog X.w h' [(ps.getD j (0, 0)).1, (ps.getD j (0, 0)).2] a := Tup.stay (tup_of (pt2_of I.hok px)) fun o eo => hk a o eo
      have ek := IsTupleKey.inj x y
      injection ek with k1 k2
      injection k2 with k3 k4
      have ep : p = ps.getD j (0, 0) := Prod.ext k1 k3
      rw [ep]
      exact px
    · rw [List.length_map, Array.length_toList]
      cases ps with
      | nil =>
        have := sq.small
        rw [List.length_map, List.length_range, hlen] at this
        exact Nat.le_trans this (Nat.zero_le _)
      | cons p0 r0 =>
        have := (sq.one [p0.1, p0.2] (by
          intro z
          have z' := (hks [p0.1, p0.2]).mpr ⟨p0, List.mem_cons_self, rfl⟩
          rw [z] at z'
          exact nomatch z') fun k hk => by
          obtain ⟨p, hp, rfl⟩ := (hks k).mp hk
          rw [hall p hp p0 List.mem_cons_self]).1
        omega
theorem call_sortedS (hc : X.calm = true) : CallR X (.builtin "sorted") (fun xs H Q => ∃ (S : Addr) (bs : List Addr), xs = [.ref S] ∧ H S = some (.ext (SetIs X.w S bs)) ∧ bs.length ≤ 64 ∧ (∀ b ∈ bs, ∃ p, PtAt H b p) ∧
    ∀ D as' ps', H D = none → as'.Perm bs → PtsAt H as' ps' → ps'.Pairwise le2 → Q (.ref D) (upd H D (.lst (as'.map V.ref)))) := by
  intro pins s σ H xs us Q I r h
  obtain ⟨S, bs, rfl, hS, h64, hb, q⟩ := h
  obtain ⟨u, rfl, rx⟩ := vals1 r
  cases rx
  obtain ⟨⟨es, ep, t, rs, eb⟩, _, _⟩ := (show ObjOk X.prog X.w H s.heap S (.ext (SetIs X.w S bs)) from I.hok S _ hS)
  have hsz : es.size = bs.length := by
    have := congrArg List.length eb
    rw [List.length_map, List.length_map, Array.length_toList] at this
    exact this
  refine sorted_set (I.ok.hd hc) rs (by omega) (fun e he => ?_) fun D h' tk c vs κ hD hk hd pv hp hs => ?_
  · have : e.2 ∈ bs.map Value.ref := by rw [← eb]; exact List.mem_map.mpr ⟨e, he, rfl⟩
    obtain ⟨b, hbm, e2⟩ := List.mem_map.mp this
    obtain ⟨p, px⟩ := hb b hbm
    exact ⟨b, p, e2.symm, pt2_of I.hok px⟩
  · rw [eb] at pv
    have ev : vs = (vs.map addrOf).map Value.ref := by
      rw [List.map_map]
      refine List.ext_getElem (by simp) fun i h1 h2 => ?_
      obtain ⟨b, e2, _⟩ := hp i h1
      rw [List.getD_eq_getElem?_getD, List.getElem?_eq_getElem h1] at e2
      have e3 : vs[i] = Value.ref b := e2
      simp only [List.getElem_map, Function.comp]
      rw [e3]
      rfl
    have pa : (vs.map addrOf).Perm bs := by
      have := pv.map addrOf
      rw [List.map_map] at this
      have ei : bs.map (addrOf ∘ Value.ref) = bs := by
        rw [show (addrOf ∘ Value.ref) = id from rfl, List.map_id]
      rw [ei] at this
      exact this
    have hl : vs.length ≤ sizeLine := by
      have := pv.length_eq
      rw [List.length_map] at this
      rw [sizeLine_eq]
      omega
    -- the points, in their order
    have pts : ∀ i, i < vs.length → PtAt H ((vs.map addrOf).getD i 0) (κ i) := fun i hi => by
      obtain ⟨b, e2, x⟩ := hp i hi
      rw [List.getD_eq_getElem?_getD, List.getElem?_eq_getElem hi] at e2
      have e3 : vs[i] = Value.ref b := e2
      have e4 : (vs.map addrOf).getD i 0 = b := by
        rw [List.getD_eq_getElem?_getD, List.getElem?_map, List.getElem?_eq_getElem hi]
        show addrOf vs[i] = b
        rw [e3]
        rfl
      rw [e4]
      have hbm : b ∈ bs := pa.mem_iff.mp (List.mem_map.mpr ⟨vs[i], List.getElem_mem hi, by rw [e3]; rfl⟩)
      obtain ⟨p, px⟩ := hb b hbm
      have y := pt2_of I.hok px
      have ek := IsTupleKey.inj (tup_of (P := X.prog) (w := X.w) x) (tup_of y)
      injection ek with k1 k2
      injection k2 with k3 k4
      rw [show κ i = p from Prod.ext k1 k3]
      exact px
    have pp : ∀ (as : List Addr) (g : Nat → Int × Int), (∀ i, i < as.length → PtAt H (as.getD i 0) (g i)) → PtsAt H as ((List.range as.length).map g) := by
      intro as
      induction as with
      | nil => intro g _; exact .nil
      | cons a as ih =>
        intro g hg
        rw [List.length_cons, List.range_succ_eq_map, List.map_cons, List.map_map]
        exact .cons (hg 0 (by simp)) (ih (fun i => g (i + 1)) fun i hi => hg (i + 1) (by simpa using hi))
    have pts' := pp (vs.map addrOf) κ fun i hi => pts i (by simpa using hi)
    have new : ObjOk X.prog X.w (upd H D (.lst ((vs.map addrOf).map V.ref))) h' D (.lst ((vs.map addrOf).map V.ref)) := by
      refine ⟨by rw [List.length_map, List.length_map]; exact hl, vs, c, ?_, hd⟩
      have : ∀ l : List Addr, Vals (l.map V.ref) (l.map Value.ref) := fun l => by
        induction l with
        | nil => exact .nil
        | cons a l ih => exact .cons rfl ih
      have z := this (vs.map addrOf)
      rw [← ev] at z
      exact z
    refine ⟨.ref D, _, I.laid (t' := tk) hk hD new, rfl, q D _ _ (I.hok.fresh hD) pa pts' ?_⟩
    rw [List.pairwise_map, List.pairwise_iff_getElem]
    intro i j h1 h2 hij
    rw [List.length_range, List.length_map] at h2
    simp only [List.getElem_range]
    exact hs i j (by omega) h2
end
end L2

set_option Elab.async false
set_option linter.all false
set_option maxRecDepth 100000
set_option maxHeartbeats 4000000
/-! min and max of a list of whole numbers. -/
namespace L2
open PySem PySem.Spec PyProof.Rows
section
variable {X : Cx}
theorem ints_of : ∀ {ns : List Int} {us : List Value}, Vals (ns.map V.int) us → IntsAre us ns
  | [], _, .nil => .nil
  | n :: ns, _, .cons r t => by
    obtain ⟨u, rfl⟩ := r
    exact .cons n u (ints_of t)
theorem call_minL (hc : X.calm = true) : CallR X (.builtin "min") (fun xs H Q => ∃ (l : Addr) (ns : List Int), xs = [.ref l] ∧ SqL X.K H l (ns.map V.int) ∧ 0 < ns.length ∧ ∀ m, m ∈ ns → (∀ a ∈ ns, m ≤ a) → Q (.int m) H) := by
  intro pins s σ H xs us Q I r h
  obtain ⟨l, ns, rfl, hq, hne, q⟩ := h
  obtain ⟨u, rfl, rx⟩ := vals1 r
  cases rx
  obtain ⟨its, rv, pl, hz⟩ := I.list hq
  have hi := ints_of rv
  obtain ⟨xs, e⟩ := hi.allInts.items
  have hns : ns = xs.toList.map (·.1) := by
    rw [← hi.numsOf]
    exact (congrArg (fun z : Array Value => numsOf z.toList) e).trans (nums_intItems xs)
  have hsz : 0 < xs.size := by
    have h3 := hne
    rw [hns, List.length_map, Array.length_toList] at h3
    exact h3
  have hl := pl.isList
  rw [e] at hl
  refine min_intList (I.ok.hd hc) hl hsz fun v h' tk hv hk => ?_
  obtain ⟨t, rfl⟩ := intItems_at hv
  obtain ⟨h1, h2⟩ := argBest_lt (numAt xs) (xs.size - 1)
  refine ⟨.int _, H, I.kept (t' := tk) hk, ⟨t, rfl⟩, q _ ?_ fun a ha => ?_⟩
  · rw [hns, numAt_eq]
    have hj : argBest (fun i j => decide (numAt xs i < numAt xs j)) (xs.size - 1) < (xs.toList.map (·.1)).length := by rw [List.length_map, Array.length_toList]; omega
    rw [List.getD_eq_getElem?_getD, List.getElem?_eq_getElem hj]
    exact List.getElem_mem hj
  · rw [hns] at ha
    obtain ⟨j, hj, rfl⟩ := List.mem_iff_getElem.mp ha
    have e2 : numAt xs j = (xs.toList.map (·.1))[j] := by
      rw [numAt_eq, List.getD_eq_getElem?_getD, List.getElem?_eq_getElem hj]
      rfl
    rw [← e2]
    rw [List.length_map, Array.length_toList] at hj
    exact h2 j (by omega)
end
end L2

set_option Elab.async false
set_option linter.all false
set_option maxRecDepth 100000
set_option maxHeartbeats 4000000
/-! A list comprehension with one test. -/
namespace L2
open PySem PySem.Spec PyProof.Rows
section
variable {prog : Program} {w : World} {A : Around} {R : Result → Shared → Prop} {s : Shared}
theorem compLoop_ownT {elt target iter tst : Expr} {scope : Scope} {pos : Pos} {it acc : Value} {env : Env} (I : Nat → Shared → Prop)
    (turn : ∀ n s, I n s → wpAny (model prog w) A (pyNext it) (fun r s₁ => match r with
      | none => R (.ok .next) s₁
      | some v => wpAny (model prog w) A (letOwnedTupleGo target it v) (fun _ s1 => wpAny (model prog w) A (assign target env v) (fun _ s₂ => wpAny (model prog w) A (isTrue tst env (eval tst env)) (fun okb s₃ => if okb = true then wpAny (model prog w) A (eval elt env) (fun y s₄ =>
          wpAny (model prog w) A (call (.builtin "list.append") [acc, y]) (fun _ s₅ => ∃ m, m < n ∧ I m s₅) (fun _ _ => False) s₄) (fun _ _ => False) s₃ else ∃ m, m < n ∧ I m s₃) (fun _ _ => False) s₂) (fun _ _ => False) s1) (fun _ _ => False) s₁) (fun _ _ => False) s)
    (n : Nat) (h : I n s) : codeAny (model prog w) A (.compLoop (.ListComp elt [⟨target, iter, [tst], 0⟩] scope pos) 0 it acc env) R s := by
  refine codeAny_loop rfl I (fun n s hI => ?_) n h
  show wpAny _ _ ((compTurn (.ListComp elt [⟨target, iter, [tst], 0⟩] scope pos) 0 it acc env).onRaise (fun x => do noteFrame x env; theTreesLotGoes x)) _ _ s
  refine wpAny_noted ?_
  rw [PySem.compTurn_list]
  refine wpAny_bind (wpAny_standAt (wpAny_bind (wpAny_mono (turn n s hI) (fun r s₁ h₁ => ?_) fun _ _ h' => False.elim h')))
  cases r with
  | none => exact wpAny_pure h₁
  | some v =>
    refine wpAny_bind (wpAny_mono h₁ (fun _ s1 h1 => wpAny_bind (wpAny_mono h1 (fun _ s₂ h₂ => ?_) fun _ _ h' => False.elim h')) fun _ _ h' => False.elim h')
    refine wpAny_bind (PySem.wpAny_tests_one (wpAny_mono h₂ (fun okb s₃ h₃ => ?_) fun _ _ h' => False.elim h'))
    cases okb with
    | false => rw [if_neg Bool.false_ne_true] at h₃; exact wpAny_pure ⟨rfl, h₃⟩
    | true =>
      rw [if_pos rfl] at h₃
      exact wpAny_bind (wpAny_bind (wpAny_mono h₃ (fun x s₄ h₄ => wpAny_bind (wpAny_mono h₄ (fun _ s₅ h₅ => wpAny_pure (wpAny_pure ⟨rfl, h₅⟩)) fun _ _ h' => False.elim h')) fun _ _ h' => False.elim h'))
end
def LCwT (ix : List (Option Nat)) (ti : Nat) (tc : TT) (te : TE) (σ : St) (Q : VK) (J : It) (H1 : Hp) : Prop :=
  ∀ D, H1 D = none → ∃ W : Nat → Nat → List V → Hp → Prop, (∃ m, W 0 m [] (upd H1 D (.lst []))) ∧ ∀ i m ys H2, W i m ys H2 →
    H2 D = some (.lst ys) ∧ ((J.stop i H2 ∧ Q (.ref D) H2) ∨ (J.go i H2 ∧ ∀ x H', J.yld i H2 x H' → tc ((capSt σ ix).set ti (some x)) H' fun b H3 => if b = true then
      te ((capSt σ ix).set ti (some x)) H3 (fun y H4 => ys.length < sizeLine ∧ H4 D = some (.lst ys) ∧ ∃ m', m' < m ∧ W (i + 1) m' (ys ++ [y]) (upd H4 D (.lst (ys ++ [y])))) else ∃ m', m' < m ∧ W (i + 1) m' ys H3))
def tLCT (wi : TI) (ix : List (Option Nat)) (ti : Nat) (tc : TT) (te : TE) : TE := fun σ H Q => wi σ H (LCwT ix ti tc te σ Q)
section
variable {X : Cx} {pins : List (Addr × Obj)} {σ : St} {Nc : List Str} {scope : Scope} {ti : Nat} {x : Str} {ix : List (Option Nat)}
theorem comp_runT {elt iter tst : Expr} {px pos : Pos} {te : TE} {tc : TT} {Q : VK} {E : Value → Shared → Prop} {H1 : Hp} {s2 : Shared} {it : Addr} {fp : List Addr} {tn : Nat → Heap → Prop} {J : It} {RR : Value → Addr → Result → Shared → Prop}
    (hcalm : X.calm = true) (hc : CompOk X.N X.env.scope Nc scope ti x ix) (he : ∀ cl C s H fp, PE (X.comp Nc scope cl C s H fp) elt te) (ht : ∀ cl C s H fp, PT (X.comp Nc scope cl C s H fp) tst tc)
    (I2 : Inv X pins σ H1 s2) (T : Turn X.prog X.w X.K (.Name x px) J fp it tn) (t0 : tn 0 s2.heap) (f2 : ∀ b ∈ fp, FpOk X pins H1 b) (hR : LCwT ix ti tc te σ Q J H1)
    (fin : ∀ D C H' s', Inv X pins σ H' s' → FpOk X pins H' C → (∃ m, s'.heap.Ns C m) → Q (.ref D) H' → RR (.ref D) C (.ok .next) s') :
    wpAny (model X.prog X.w) X.A (newList []) (fun acc s₃ => wpAny (model X.prog X.w) X.A (newFunctionEnv scope X.env.globals (closOf X.env scope.names) [] X.env.qual none .none (some X.env)) (fun cenv s₄ =>
      codeAny (model X.prog X.w) X.A (.compStart (.ListComp elt [⟨.Name x px, iter, [tst], 0⟩] scope pos) 0 (.ref it) acc { cenv with scope := relabel scope X.env }) (RR acc cenv.locals) s₄) E s₃) E s2 := by
  refine wpAny_newObj_type (wpAny_newFunctionEnv hc.nocell (by intro y hy; simp at hy) (fun h₁ hns₁ hsb₁ => ?_) hc.kind)
  dsimp only at hns₁ hsb₁ ⊢
  obtain ⟨W, ⟨m0, w0⟩, turn⟩ := hR s2.heap.objs.size I2.fresh
  have I3 : Inv X pins σ (upd H1 s2.heap.objs.size (.lst [])) { s2 with heap := s2.heap.push { cls := .type "list", data := .seq ([] : List Value).toArray } } := I2.lnew (t' := s2.toks) .nil (Nat.zero_le _)
  generalize hH3 : upd H1 s2.heap.objs.size (.lst []) = H3 at I3 w0
  generalize hs3 : ({ s2 with heap := s2.heap.push { cls := .type "list", data := .seq ([] : List Value).toArray } } : Shared) = s3 at I3
  have hh3 : s2.heap.push { cls := .type "list", data := .seq ([] : List Value).toArray } = s3.heap := by rw [← hs3]
  have kp3 : ∀ b o, s2.heap.get? b = some o → s3.heap.get? b = some o := fun b o e => by rw [← hh3]; exact Heap.get?_push_of_some _ e
  have f3 : ∀ b ∈ fp, FpOk X pins H3 b := fun b hb => by
    obtain ⟨o, e, _⟩ := T.obj 0 _ t0 b hb
    refine ⟨?_, (f2 b hb).2⟩
    rw [← hH3, upd_ne (Nat.ne_of_lt (Heap.lt_size e))]
    exact (f2 b hb).1
  have lt3 : ∀ b ∈ fp, b < s3.heap.objs.size := fun b hb => by
    obtain ⟨o, e, _⟩ := T.obj 0 _ t0 b hb
    exact Heap.lt_size (kp3 _ _ e)
  have kp4 : ∀ b o, s3.heap.get? b = some o → h₁.get? b = some o := fun b o e => by
    have hsb := hsb₁
    rw [hh3] at hsb
    exact hsb.extBut b o (Nat.ne_of_lt (Heap.lt_size e)) (Heap.get?_push_of_some _ e)
  have hns : h₁.Ns s3.heap.objs.size (fun x => ([] : List (Str × Value)).reverse.lookup x) := by rw [← hh3]; exact hns₁
  have t4 : tn 0 h₁ := T.keep 0 _ _ t0 fun b _ o e => kp4 _ _ (kp3 _ _ e)
  have szE : (s2.heap.push { cls := .type "list", data := .seq ([] : List Value).toArray }).objs.size = s3.heap.objs.size := by rw [hh3]
  have I4 : ∀ tk, Inv (X.comp Nc scope (closOf X.env scope.names) s3.heap.objs.size s3 H3 fp) [] (capSt σ ix) H3 { s3 with heap := h₁, toks := tk } := fun tk => inv_comp hc I3 f3 lt3 hns kp4
  have fpc : ∀ {H' : Hp}, (∀ b ∈ fp, H' b = none) → ∀ b ∈ fp, FpOk (X.comp Nc scope (closOf X.env scope.names) s3.heap.objs.size s3 H3 fp) [] H' b := fun {H'} hn b hb =>
    ⟨hn b hb, Nat.ne_of_lt (lt3 b hb), fp_stack I3 (f3 b hb), .inl hb, fun y c e => (I4 0).ok.exf b hb |>.2 y c e, fun p hp => absurd (show p ∈ ([] : List (Addr × Obj)) from hp) (by simp)⟩
  have loop : ∀ s4 : Shared, (∃ tk, s4 = { s3 with heap := h₁, toks := tk }) →
      codeAny (model X.prog X.w) X.A (.compLoop (.ListComp elt [⟨.Name x px, iter, [tst], 0⟩] scope pos) 0 (.ref it) (.ref s2.heap.objs.size) (compEnvC scope (closOf X.env scope.names) s3.heap.objs.size X.env))
        (RR (.ref s2.heap.objs.size) s3.heap.objs.size) s4 := by
    rintro s4 ⟨tk, rfl⟩
    refine compLoop_ownT (fun n s' => ∃ i ys o H', Inv (X.comp Nc scope (closOf X.env scope.names) s3.heap.objs.size s3 H3 fp) [] ((capSt σ ix).set ti o) H' s' ∧ tn i s'.heap ∧ (∀ b ∈ fp, H' b = none) ∧ W i n ys H') ?_ m0
      ⟨0, [], none, H3, (I4 tk).weak (by simp) fun j v e => ?_, t4, fun b hb => (f3 b hb).1, w0⟩
    · rintro n s5 ⟨i, ys, o, H5, I5, t5, fr5, w5⟩
      obtain ⟨hD, hw⟩ := turn i n ys H5 w5
      rcases hw with ⟨stop, q⟩ | ⟨go, step⟩
      · refine thn (T.done (X.comp Nc scope (closOf X.env scope.names) s3.heap.objs.size s3 H3 fp) rfl rfl rfl hcalm i [] s5 _ H5 _ I5 (fpc fr5) t5 stop) fun r s6 ⟨hr, I6⟩ => ?_
        subst hr
        obtain ⟨I7, f7⟩ := comp_back I3 f3 I6
        obtain ⟨m, hm, _⟩ := I6.loc
        exact fin _ _ _ _ I7 f7 ⟨m, hm⟩ q
      · refine thn (T.item (X.comp Nc scope (closOf X.env scope.names) s3.heap.objs.size s3 H3 fp) rfl rfl rfl hcalm i [] s5 _ H5 _ I5 (fpc fr5) t5 go) fun r s6 ⟨u, hr, h6⟩ => ?_
        subst hr
        refine thn h6 fun _ s7 ⟨z, H7, I7, r7, y7, t7, fr7⟩ => ?_
        have I7' := I7.pinned (fpc fr7) (T.obj _ _ t7)
        refine thn (pg_name (X := X.comp Nc scope (closOf X.env scope.names) s3.heap.objs.size s3 H3 fp) (i := ti) hc.nd hc.at (.inl (lookup_relabel_local hc.tgt)) (.inr (lookup_relabel_local hc.tgt)) _ s7 _ H7 z u
          (fun σ' H' => σ' = (capSt σ ix).set ti (some z) ∧ H' = H7) I7' r7 ⟨by rw [List.set_set], rfl⟩) fun _ s8 ⟨σ8, H8, I8, e8, e8'⟩ => ?_
        subst e8; subst e8'
        refine thn (ht _ _ _ _ _ _ s8 _ _ _ I8 (step z _ y7)) fun okb s9 ⟨H9, I9, q9⟩ => ?_
        cases okb with
        | false =>
          rw [if_neg Bool.false_ne_true] at q9 ⊢
          obtain ⟨m', hm', w9⟩ := q9
          refine ⟨m', hm', i + 1, ys, some z, _, I9.pins_of (fun p hp => nomatch hp), T.keep _ _ _ t7 fun b hb ob e => (I9.pin (b, ob) (List.mem_append_right _ (List.mem_append_right _ (mem_pinsAt hb e)))).1, fun b hb => ?_, w9⟩
          obtain ⟨ob, e, _⟩ := T.obj _ _ t7 b hb
          exact (I9.pin (b, ob) (List.mem_append_right _ (List.mem_append_right _ (mem_pinsAt hb e)))).2.1
        | true =>
          rw [if_pos rfl] at q9 ⊢
          refine thn (he _ _ _ _ _ _ s9 _ _ _ I9 q9) fun yv s11 ⟨y, H11, I11, r11, hlen, hD11, m', hm', w11⟩ => ?_
          refine thn (mt_append _ s11 _ H11 (.ref s2.heap.objs.size) [y] (.ref s2.heap.objs.size) [yv] (fun _ H' => H' = upd H11 s2.heap.objs.size (.lst (ys ++ [y]))) I11 rfl (.cons r11 .nil) ⟨_, ys, y, rfl, rfl, hD11, hlen, rfl⟩) fun _ s10 ⟨_, H10, I10, _, e10⟩ => ?_
          subst e10
          refine ⟨m', hm', i + 1, ys ++ [y], some z, _, I10.pins_of (fun p hp => nomatch hp), T.keep _ _ _ t7 fun b hb ob e => (I10.pin (b, ob) (List.mem_append_right _ (List.mem_append_right _ (mem_pinsAt hb e)))).1, fun b hb => ?_, w11⟩
          obtain ⟨ob, e, _⟩ := T.obj _ _ t7 b hb
          exact (I10.pin (b, ob) (List.mem_append_right _ (List.mem_append_right _ (mem_pinsAt hb e)))).2.1
    · by_cases hj : j = ti
      · subst hj
        rw [List.getElem?_set] at e
        simp only [if_true] at e
        split at e <;> cases e
      · rw [List.getElem?_set_ne (Ne.symm hj)] at e
        exact e
  have hst : ∃ tk, ({ s2 with heap := h₁, toks := s2.toks + ([] : List (Str × Value)).length } : Shared) = { s3 with heap := h₁, toks := tk } := ⟨s2.toks, by rw [← hs3]; rfl⟩
  have L := loop _ hst
  rw [← szE] at L
  exact codeAny_compStart_list L (T.self X.A 0 _ _ _ t4 L)
/-- [elt for x in iter if tst] -/
theorem pe_lcT {elt iter tst : Expr} {px pos : Pos} {wi : TI} {te : TE} {tc : TT} (hcalm : X.calm = true) (hc : CompOk X.N X.env.scope Nc scope ti x ix) (hi : PI X (.Name x px) iter wi) (he : ∀ cl C s H fp, PE (X.comp Nc scope cl C s H fp) elt te) (ht : ∀ cl C s H fp, PT (X.comp Nc scope cl C s H fp) tst tc)
    (hs : ∀ x, foldedSetIterable iter X.env x = pure x := by intro _; rfl) : PE X (.ListComp elt [⟨.Name x px, iter, [tst], 0⟩] scope pos) (tLCT wi ix ti tc te) := by
  intro pins s σ H Q I h
  rw [eval_ListComp]
  refine wpAny_comprehension_free (use := none) rfl hs (closureFor_of fun y hy hf => I.ok.has y.1 (.inl (hc.free y hy hf))) hc.kind hc.names (thn (hi pins s σ H _ I h) fun v s1 h1 => thn h1 fun itv s2 h2 => ?_)
  obtain ⟨it, fp, tn, J, H1, rfl, I2, T, t0, f2, hR⟩ := h2
  refine comp_runT hcalm hc he ht I2 T t0 f2 hR (RR := fun acc C => compPost (model X.prog X.w) X.A X.xe none (EP X pins σ Q) acc C) fun D C H' s' I' f' ⟨m, hm⟩ q => ?_
  exact ⟨m, hm, fun h' hs' => ⟨.ref D, H', I'.scrub f' hs', rfl, q⟩⟩
end
/-- what the test of a turn is asked for -/
def LcB (Pv : Addr → Nat → List V → Hp → Prop) (te : TE) (σ' : St) (D : Addr) (n i : Nat) (ys : List V) : Bool → Hp → Prop := fun b H3 => if b = true then te σ' H3 (LcK Pv D n i ys) else ∃ m', m' < n - i ∧ (m' = n - (i + 1) ∧ i + 1 ≤ n ∧ Pv D (i + 1) ys H3)
theorem LcB.no {Pv : Addr → Nat → List V → Hp → Prop} {D : Addr} {n i : Nat} {ys : List V} {H3 : Hp} (hi : i < n) (h2 : Pv D (i + 1) ys H3) : ∃ m', m' < n - i ∧ (m' = n - (i + 1) ∧ i + 1 ≤ n ∧ Pv D (i + 1) ys H3) := ⟨n - (i + 1), by omega, rfl, hi, h2⟩
theorem lct_list {K : PySem.W.Frag} {a : Addr} {xs : List V} {te : TE} {tc : TT} {σ : St} {H : Hp} {Q : VK} {ix : List (Option Nat)} {ti : Nat} (Pv : Addr → Nat → List V → Hp → Prop)
    (h0 : ∀ D, H D = none → Pv D 0 [] (upd H D (.lst []))) (hl : ∀ D i ys H2, i ≤ xs.length → Pv D i ys H2 → H2 D = some (.lst ys) ∧ SqL K H2 a xs)
    (hs : ∀ D i x ys H2, H D = none → xs[i]? = some x → Pv D i ys H2 → i < xs.length → tc ((capSt σ ix).set ti (some x)) H2 (LcB Pv te ((capSt σ ix).set ti (some x)) D xs.length i ys))
    (hd : ∀ D ys H2, H D = none → Pv D xs.length ys H2 → Q (.ref D) H2) : LCwT ix ti tc te σ Q (Itl K a) H := by
  intro D hD
  refine ⟨fun i m ys H2 => m = xs.length - i ∧ i ≤ xs.length ∧ Pv D i ys H2, ⟨xs.length, by simp, Nat.zero_le _, h0 D hD⟩, ?_⟩
  rintro i m ys H2 ⟨rfl, hi, p⟩
  obtain ⟨q1, q2⟩ := hl D i ys H2 hi p
  refine ⟨q1, ?_⟩
  by_cases hlt : i < xs.length
  · refine .inr ⟨⟨xs, xs[i], q2, by simp [hlt]⟩, fun x H' y => ?_⟩
    obtain ⟨e, y⟩ := y
    subst e
    exact hs D i x ys _ hD (y xs q2) p hlt
  · have e : i = xs.length := by omega
    subst e
    exact .inl ⟨⟨xs, q2, Nat.le_refl _⟩, hd D ys H2 hD p⟩
theorem lct_range {lo : Int} {n : Nat} {te : TE} {tc : TT} {σ : St} {H : Hp} {Q : VK} {ix : List (Option Nat)} {ti : Nat} (Pv : Addr → Nat → List V → Hp → Prop)
    (h0 : ∀ D, H D = none → Pv D 0 [] (upd H D (.lst []))) (hl : ∀ D i ys H2, i ≤ n → Pv D i ys H2 → H2 D = some (.lst ys))
    (hs : ∀ D i ys H2, H D = none → i < n → Pv D i ys H2 → tc ((capSt σ ix).set ti (some (.int (lo + i)))) H2 (LcB Pv te ((capSt σ ix).set ti (some (.int (lo + i)))) D n i ys))
    (hd : ∀ D ys H2, H D = none → Pv D n ys H2 → Q (.ref D) H2) : LCwT ix ti tc te σ Q (Itr lo n) H := by
  intro D hD
  refine ⟨fun i m ys H2 => m = n - i ∧ i ≤ n ∧ Pv D i ys H2, ⟨n, by simp, Nat.zero_le _, h0 D hD⟩, ?_⟩
  rintro i m ys H2 ⟨rfl, hi, p⟩
  have q1 := hl D i ys H2 hi p
  refine ⟨q1, ?_⟩
  by_cases hlt : i < n
  · refine .inr ⟨hlt, fun x H' y => ?_⟩
    obtain ⟨e, y⟩ := y
    subst e y
    exact hs D i ys _ hD hlt p
  · have e : i = n := by omega
    subst e
    exact .inl ⟨Nat.le_refl _, hd D ys H2 hD p⟩
end L2

set_option Elab.async false
set_option linter.all false
set_option maxRecDepth 100000
set_option maxHeartbeats 4000000
/-! Hills as lists of pairs of ints. -/
namespace HC
abbrev Pt := Int × Int
def gp (ps : List Pt) (i : Nat) : Pt := ps.getD i (0, 0)
theorem gp_app_left {ps qs : List Pt} {i : Nat} (h : i < ps.length) : gp (ps ++ qs) i = gp ps i := by
  unfold gp
  rw [List.getD_eq_getElem?_getD, List.getD_eq_getElem?_getD, List.getElem?_append_left h]
theorem gp_snoc {ps : List Pt} {p : Pt} : gp (ps ++ [p]) ps.length = p := by
  unfold gp
  rw [List.getD_eq_getElem?_getD, List.getElem?_append_right (Nat.le_refl _), Nat.sub_self]
  rfl
theorem gp_mem {ps : List Pt} {i : Nat} (h : i < ps.length) : gp ps i ∈ ps := by
  unfold gp
  rw [List.getD_eq_getElem?_getD, List.getElem?_eq_getElem h]
  exact List.getElem_mem h
theorem mem_gp {ps : List Pt} {p : Pt} (h : p ∈ ps) : ∃ i, i < ps.length ∧ gp ps i = p := by
  obtain ⟨i, hi, e⟩ := List.mem_iff_getElem.mp h
  refine ⟨i, hi, ?_⟩
  unfold gp
  rw [List.getD_eq_getElem?_getD, List.getElem?_eq_getElem hi]
  exact e
theorem gp_map {ps : List Pt} {f : Pt → Pt} {i : Nat} (h : i < ps.length) : gp (ps.map f) i = f (gp ps i) := by
  unfold gp
  rw [List.getD_eq_getElem?_getD, List.getD_eq_getElem?_getD, List.getElem?_map, List.getElem?_eq_getElem h]
  rfl
/-- points [8] -/
structure Hill (ps : List Pt) : Prop where
  len : 3 ≤ ps.length
  first : (gp ps 0).2 = 0
  last : (gp ps (ps.length - 1)).2 = 0
  rise : ∀ i, i + 1 < ps.length → (gp ps i).1 < (gp ps (i + 1)).1
  high : ∀ i, 0 < i → i + 1 < ps.length → 1 ≤ (gp ps i).2
theorem Hill.lt {ps : List Pt} (h : Hill ps) : ∀ {i j : Nat}, i < j → j < ps.length → (gp ps i).1 < (gp ps j).1 := by
  intro i j hij
  induction j with
  | zero => omega
  | succ j ih =>
    intro hj
    have r := h.rise j hj
    by_cases e : i = j
    · rw [e]; exact r
    · have := ih (by omega) (by omega)
      omega
theorem Hill.y0 {ps : List Pt} (h : Hill ps) {i : Nat} (hi : i < ps.length) : 0 ≤ (gp ps i).2 := by
  by_cases e : i = 0
  · rw [e, h.first]; omega
  · by_cases e2 : i = ps.length - 1
    · rw [e2, h.last]; omega
    · have := h.high i (by omega) (by omega)
      omega
theorem Hill.scale {ps : List Pt} (h : Hill ps) {f : Int} (hf : 1 ≤ f) : Hill (ps.map fun p => (p.1 * f, p.2 * f)) := by
  have l := h.len
  refine ⟨by rw [List.length_map]; exact l, ?_, ?_, fun i hi => ?_, fun i h0 hi => ?_⟩
  · rw [gp_map (by omega)]
    show (gp ps 0).2 * f = 0
    rw [h.first, Int.zero_mul]
  · rw [List.length_map, gp_map (by omega)]
    show (gp ps (ps.length - 1)).2 * f = 0
    rw [h.last, Int.zero_mul]
  · rw [List.length_map] at hi
    rw [gp_map (by omega), gp_map hi]
    exact Int.mul_lt_mul_of_pos_right (h.rise i hi) (by omega)
  · rw [List.length_map] at hi
    rw [gp_map (by omega)]
    have := h.high i h0 hi
    show 1 ≤ (gp ps i).2 * f
    have := Int.mul_le_mul this hf (by omega) (by omega)
    omega
/-- a hill under way: from (first, 0), the last point at here -/
structure Part (ps : List Pt) (first here most : Int) : Prop where
  len : 1 ≤ ps.length
  first : gp ps 0 = (first, 0)
  here : (gp ps (ps.length - 1)).1 = here
  rise : ∀ i, i + 1 < ps.length → (gp ps i).1 < (gp ps (i + 1)).1
  high : ∀ i, 0 < i → i < ps.length → 1 ≤ (gp ps i).2 ∧ (gp ps i).2 ≤ most
theorem Part.start (first most : Int) : Part [(first, 0)] first first most :=
  ⟨Nat.le_refl 1, rfl, rfl, fun i hi => by simp at hi, fun i h0 hi => by simp at hi; omega⟩
theorem Part.step {ps : List Pt} {first here most x y : Int} (h : Part ps first here most) (hx : here < x) (h1 : 1 ≤ y) (h2 : y ≤ most) : Part (ps ++ [(x, y)]) first x most := by
  have l := h.len
  have ln : (ps ++ [(x, y)]).length = ps.length + 1 := by simp
  have sn : gp (ps ++ [(x, y)]) ps.length = (x, y) := gp_snoc
  refine ⟨by omega, ?_, ?_, fun i hi => ?_, fun i h0 hi => ?_⟩
  · rw [gp_app_left (by omega)]; exact h.first
  · rw [ln, Nat.add_sub_cancel, sn]
  · rw [ln] at hi
    by_cases e : i + 1 = ps.length
    · rw [e, sn, gp_app_left (by omega), show i = ps.length - 1 by omega, h.here]
      exact hx
    · rw [gp_app_left (by omega), gp_app_left (by omega)]
      exact h.rise i (by omega)
  · rw [ln] at hi
    by_cases e : i = ps.length
    · rw [e, sn]; exact ⟨h1, h2⟩
    · rw [gp_app_left (by omega)]
      exact h.high i h0 (by omega)
theorem Part.hill {ps : List Pt} {first here most x : Int} (h : Part ps first here most) (hl : 2 ≤ ps.length) (hx : here < x) : Hill (ps ++ [(x, 0)]) := by
  have ln : (ps ++ [(x, (0 : Int))]).length = ps.length + 1 := by simp
  have sn : gp (ps ++ [(x, (0 : Int))]) ps.length = (x, 0) := gp_snoc
  refine ⟨by omega, ?_, ?_, fun i hi => ?_, fun i h0 hi => ?_⟩
  · rw [gp_app_left (by omega), h.first]
  · rw [ln, Nat.add_sub_cancel, sn]
  · rw [ln] at hi
    by_cases e : i + 1 = ps.length
    · rw [e, sn, gp_app_left (by omega), show i = ps.length - 1 by omega, h.here]
      exact hx
    · rw [gp_app_left (by omega), gp_app_left (by omega)]
      exact h.rise i (by omega)
  · rw [ln] at hi
    rw [gp_app_left (by omega)]
    exact (h.high i h0 (by omega)).1
/-- all within bounds -/
def Box (ps : List Pt) (lo hi top : Int) : Prop := ∀ p ∈ ps, lo ≤ p.1 ∧ p.1 ≤ hi ∧ 0 ≤ p.2 ∧ p.2 ≤ top
theorem Box.snoc {ps : List Pt} {lo hi hi' top : Int} {p : Pt} (h : Box ps lo hi top) (hh : hi ≤ hi') (hp : lo ≤ p.1 ∧ p.1 ≤ hi' ∧ 0 ≤ p.2 ∧ p.2 ≤ top) : Box (ps ++ [p]) lo hi' top := by
  intro q hq
  rcases List.mem_append.mp hq with z | z
  · have := h q z; omega
  · rw [List.mem_singleton.mp z]; exact hp
/-- the turn of three points [2] -/
def turn (a b c : Pt) : Int := (b.1 - a.1) * (c.2 - a.2) - (b.2 - a.2) * (c.1 - a.1)
end HC

/-! Rings, and those that lie on two curves. -/
namespace HC
def lexLt (p q : Pt) : Prop := p.1 < q.1 ∨ (p.1 = q.1 ∧ p.2 < q.2)
/-- points [4], [5] -/
structure IsRing (cs : List Pt) : Prop where
  len : 3 ≤ cs.length
  least : ∀ i, 0 < i → i < cs.length → lexLt (gp cs 0) (gp cs i)
  once : ∀ i j, i < j → j < cs.length → gp cs i ≠ gp cs j
  bend : ∀ i, i < cs.length → 0 < turn (gp cs i) (gp cs ((i + 1) % cs.length)) (gp cs ((i + 2) % cs.length))
  left : ∀ i, i < cs.length → ∀ j, j < cs.length → 0 ≤ turn (gp cs i) (gp cs ((i + 1) % cs.length)) (gp cs j)
/-- a lower and an upper curve -/
structure Oval (cs : List Pt) (m : Nat) : Prop where
  m2 : 2 ≤ m
  len : m < cs.length
  low : ∀ i, i < m → -4 ≤ (gp cs i).1 ∧ (gp cs i).1 ≤ 9 ∧ (gp cs i).2 = (gp cs i).1 * (gp cs i).1
  up : ∀ i, m ≤ i → i < cs.length → -4 ≤ (gp cs i).1 ∧ (gp cs i).1 ≤ 9 ∧ (gp cs i).2 = 200 - (gp cs i).1 * (gp cs i).1
  inc : ∀ i j, i < j → j < m → (gp cs i).1 < (gp cs j).1
  dec : ∀ i j, m ≤ i → i < j → j < cs.length → (gp cs j).1 < (gp cs i).1
  lft : ∀ i, m ≤ i → i < cs.length → (gp cs 0).1 ≤ (gp cs i).1
  rgt : ∀ i, m ≤ i → i < cs.length → (gp cs i).1 ≤ (gp cs (m - 1)).1
def cv (u : Bool) (x : Int) : Pt := (x, if u then 200 - x * x else x * x)
def t3 (ku kv kx : Bool) (a b x : Nat) : Bool := decide (0 < turn (cv ku ((a : Int) - 4)) (cv kv ((b : Int) - 4)) (cv kx ((x : Int) - 4)))
/-- all that is asked of three on the curves, by their places from -4 to 9 -/
def curveOk (a b x : Nat) : Bool :=
  -- a lower side from a to b
  (!(a < b) || ((!(x < a || b < x) || t3 false false false a b x) && t3 false false true a b x)) &&
  -- the right side from the lower a to the upper b
  (!(b ≤ a) || ((!(x < a) || t3 false true false a b x) && (!(x < b) || t3 false true true a b x))) &&
  -- an upper side from a back to b
  (!(b < a) || ((!(x < b || a < x) || t3 true true true a b x) && t3 true true false a b x)) &&
  -- the left side from the upper a down to the lower b
  (!(b ≤ a) || ((!(b < x) || t3 true false false a b x) && (!(a < x) || t3 true false true a b x)))
theorem curve_all : ((List.range 14).all fun a => (List.range 14).all fun b => (List.range 14).all fun x => curveOk a b x) = true := by decide +kernel
theorem curve {a b x : Int} (a1 : -4 ≤ a) (a2 : a ≤ 9) (b1 : -4 ≤ b) (b2 : b ≤ 9) (x1 : -4 ≤ x) (x2 : x ≤ 9) :
    (a < b → (x < a ∨ b < x → 0 < turn (cv false a) (cv false b) (cv false x)) ∧ 0 < turn (cv false a) (cv false b) (cv true x)) ∧
    (b ≤ a → (x < a → 0 < turn (cv false a) (cv true b) (cv false x)) ∧ (x < b → 0 < turn (cv false a) (cv true b) (cv true x))) ∧
    (b < a → (x < b ∨ a < x → 0 < turn (cv true a) (cv true b) (cv true x)) ∧ 0 < turn (cv true a) (cv true b) (cv false x)) ∧
    (b ≤ a → (b < x → 0 < turn (cv true a) (cv false b) (cv false x)) ∧ (a < x → 0 < turn (cv true a) (cv false b) (cv true x))) := by
  have h := List.all_eq_true.mp (List.all_eq_true.mp (List.all_eq_true.mp curve_all (a + 4).toNat (List.mem_range.mpr (by omega))) (b + 4).toNat (List.mem_range.mpr (by omega))) (x + 4).toNat (List.mem_range.mpr (by omega))
  have ea : (((a + 4).toNat : Nat) : Int) - 4 = a := by omega
  have eb : (((b + 4).toNat : Nat) : Int) - 4 = b := by omega
  have ex : (((x + 4).toNat : Nat) : Int) - 4 = x := by omega
  unfold curveOk t3 at h
  rw [ea, eb, ex] at h
  simp only [Bool.and_eq_true, Bool.or_eq_true, Bool.not_eq_true', decide_eq_false_iff_not, decide_eq_true_eq, Bool.or_eq_false_iff] at h
  obtain ⟨⟨⟨h1, h2⟩, h3⟩, h4⟩ := h
  refine ⟨fun q => ?_, fun q => ?_, fun q => ?_, fun q => ?_⟩
  · rcases h1 with z | ⟨z1, z2⟩
    · omega
    · exact ⟨fun w => z1.resolve_left (by omega), z2⟩
  · rcases h2 with z | ⟨z1, z2⟩
    · omega
    · exact ⟨fun w => z1.resolve_left (by omega), fun w => z2.resolve_left (by omega)⟩
  · rcases h3 with z | ⟨z1, z2⟩
    · omega
    · exact ⟨fun w => z1.resolve_left (by omega), z2⟩
  · rcases h4 with z | ⟨z1, z2⟩
    · omega
    · exact ⟨fun w => z1.resolve_left (by omega), fun w => z2.resolve_left (by omega)⟩
section
variable {cs : List Pt} {m : Nat}
theorem Oval.cvL (h : Oval cs m) {i : Nat} (hi : i < m) : gp cs i = cv false (gp cs i).1 := by
  unfold cv
  exact Prod.ext rfl (h.low i hi).2.2
theorem Oval.cvU (h : Oval cs m) {i : Nat} (hi : m ≤ i) (hn : i < cs.length) : gp cs i = cv true (gp cs i).1 := by
  unfold cv
  exact Prod.ext rfl (h.up i hi hn).2.2
theorem Oval.box (h : Oval cs m) {i : Nat} (hn : i < cs.length) : -4 ≤ (gp cs i).1 ∧ (gp cs i).1 ≤ 9 := by
  by_cases q : i < m
  · have := h.low i q; omega
  · have := h.up i (by omega) hn; omega
/-- every other corner lies to the left of a side -/
theorem Oval.side (h : Oval cs m) {i j : Nat} (hi : i < cs.length) (hj : j < cs.length) (h1 : j ≠ i) (h2 : j ≠ (i + 1) % cs.length) : 0 < turn (gp cs i) (gp cs ((i + 1) % cs.length)) (gp cs j) := by
  have hm := h.m2
  have hl := h.len
  have bi := h.box hi
  have bj := h.box hj
  by_cases c1 : i + 1 < m
  · rw [Nat.mod_eq_of_lt (by omega)] at h2 ⊢
    have bk := h.box (i := i + 1) (by omega)
    have cu := (curve bi.1 bi.2 bk.1 bk.2 bj.1 bj.2).1 (h.inc i (i + 1) (by omega) c1)
    rw [h.cvL (i := i) (by omega), h.cvL (i := i + 1) c1]
    by_cases q : j < m
    · rw [h.cvL q]
      refine cu.1 ?_
      by_cases w : j < i
      · exact .inl (h.inc j i w (by omega))
      · exact .inr (h.inc (i + 1) j (by omega) q)
    · rw [h.cvU (by omega) hj]
      exact cu.2
  · by_cases c2 : i < m
    · have e : i = m - 1 := by omega
      rw [Nat.mod_eq_of_lt (by omega)] at h2 ⊢
      have bk := h.box (i := i + 1) (by omega)
      have rg := h.rgt (i + 1) (by omega) (by omega)
      rw [← e] at rg
      have cu := (curve bi.1 bi.2 bk.1 bk.2 bj.1 bj.2).2.1 rg
      rw [h.cvL (i := i) c2, h.cvU (i := i + 1) (by omega) (by omega)]
      by_cases q : j < m
      · rw [h.cvL q]
        exact cu.1 (h.inc j i (by omega) c2)
      · rw [h.cvU (by omega) hj]
        exact cu.2 (h.dec (i + 1) j (by omega) (by omega) hj)
    · by_cases c3 : i + 1 < cs.length
      · rw [Nat.mod_eq_of_lt c3] at h2 ⊢
        have bk := h.box (i := i + 1) c3
        have cu := (curve bi.1 bi.2 bk.1 bk.2 bj.1 bj.2).2.2.1 (h.dec i (i + 1) (by omega) (by omega) c3)
        rw [h.cvU (i := i) (by omega) hi, h.cvU (i := i + 1) (by omega) c3]
        by_cases q : j < m
        · rw [h.cvL q]
          exact cu.2
        · rw [h.cvU (by omega) hj]
          refine cu.1 ?_
          by_cases w : j < i
          · exact .inr (h.dec j i (by omega) w hi)
          · exact .inl (h.dec (i + 1) j (by omega) (by omega) hj)
      · have e : (i + 1) % cs.length = 0 := by rw [show i + 1 = cs.length by omega]; exact Nat.mod_self _
        rw [e] at h2 ⊢
        have bk := h.box (i := 0) (by omega)
        have lf := h.lft i (by omega) hi
        have cu := (curve bi.1 bi.2 bk.1 bk.2 bj.1 bj.2).2.2.2 lf
        rw [h.cvU (i := i) (by omega) hi, h.cvL (i := 0) (by omega)]
        by_cases q : j < m
        · rw [h.cvL q]
          exact cu.1 (h.inc 0 j (by omega) q)
        · rw [h.cvU (by omega) hj]
          exact cu.2 (h.dec j i (by omega) (by omega) hi)
theorem turn_self1 (a b : Pt) : turn a b a = 0 := by unfold turn; grind
theorem turn_self2 (a b : Pt) : turn a b b = 0 := by unfold turn; grind
theorem Oval.ring (h : Oval cs m) : IsRing cs := by
  have hm := h.m2
  have hl := h.len
  have lst : ∀ i, 0 < i → i < cs.length → lexLt (gp cs 0) (gp cs i) := by
    intro i h0 hi
    by_cases q : i < m
    · exact .inl (h.inc 0 i h0 q)
    · have lf := h.lft i (by omega) hi
      by_cases e : (gp cs 0).1 = (gp cs i).1
      · refine .inr ⟨e, ?_⟩
        have u := h.up i (by omega) hi
        have l := h.low 0 (by omega)
        rw [u.2.2, l.2.2, e]
        have : (gp cs i).1 * (gp cs i).1 ≤ 81 := by
          have b := h.box hi
          have h1 : (9 - (gp cs i).1) * ((gp cs i).1 + 9) ≥ 0 := Int.mul_nonneg (by omega) (by omega)
          grind
        omega
      · exact .inl (by omega)
  have pos : ∀ i, i < cs.length → ∀ j, j < cs.length → 0 ≤ turn (gp cs i) (gp cs ((i + 1) % cs.length)) (gp cs j) := by
    intro i hi j hj
    by_cases e1 : j = i
    · rw [e1, turn_self1]; omega
    · by_cases e2 : j = (i + 1) % cs.length
      · rw [e2, turn_self2]; omega
      · exact Int.le_of_lt (h.side hi hj e1 e2)
  refine ⟨by omega, lst, fun i j hij hj e => ?_, fun i hi => ?_, pos⟩
  · -- two at one spot: the side that ends at j's follower
    by_cases q : j < m
    · have := h.inc i j hij q
      rw [e] at this
      omega
    · by_cases q2 : m ≤ i
      · have := h.dec i j q2 hij hj
        rw [e] at this
        omega
      · have l := h.low i (by omega)
        have u := h.up j (by omega) hj
        rw [e] at l
        have : (gp cs j).1 * (gp cs j).1 ≤ 81 := by
          have b := h.box hj
          have h1 : (9 - (gp cs j).1) * ((gp cs j).1 + 9) ≥ 0 := Int.mul_nonneg (by omega) (by omega)
          grind
        omega
  · refine h.side hi (Nat.mod_lt _ (by omega)) ?_ ?_
    · intro z
      by_cases w : i + 2 < cs.length
      · rw [Nat.mod_eq_of_lt w] at z; omega
      · have : (i + 2) % cs.length = i + 2 - cs.length := by rw [Nat.mod_eq_sub_mod (by omega), Nat.mod_eq_of_lt (by omega)]
        omega
    · intro z
      by_cases w : i + 2 < cs.length
      · rw [Nat.mod_eq_of_lt w, Nat.mod_eq_of_lt (by omega)] at z; omega
      · have e2 : (i + 2) % cs.length = i + 2 - cs.length := by rw [Nat.mod_eq_sub_mod (by omega), Nat.mod_eq_of_lt (by omega)]
        by_cases w2 : i + 1 < cs.length
        · rw [e2, Nat.mod_eq_of_lt w2] at z; omega
        · rw [e2, show i + 1 = cs.length by omega, Nat.mod_self] at z; omega
end
/-- from the two lists of x -/
def lo (x : Int) : Pt := (x, x * x)
def hi (x : Int) : Pt := (x, 200 - x * x)
theorem pair_lt : ∀ {la : List Int} {i j : Nat}, la.Pairwise (· < ·) → i < j → j < la.length → la.getD i 0 < la.getD j 0 := by
  intro la i j h hij hj
  rw [List.getD_eq_getElem?_getD, List.getD_eq_getElem?_getD, List.getElem?_eq_getElem hj, List.getElem?_eq_getElem (by omega)]
  exact List.pairwise_iff_getElem.mp h i j (by omega) hj hij
theorem getD_memI {la : List Int} {i : Nat} (h : i < la.length) : la.getD i 0 ∈ la := by
  rw [List.getD_eq_getElem?_getD, List.getElem?_eq_getElem h]
  exact List.getElem_mem h
theorem oval_of {la ua : List Int} {l r : Int} (hl : la.Pairwise (· < ·)) (hu : ua.Pairwise (· < ·)) (l2 : 2 ≤ la.length) (u1 : 1 ≤ ua.length) (bl : ∀ x ∈ la, l ≤ x ∧ x ≤ r) (bu : ∀ x ∈ ua, l ≤ x ∧ x ≤ r) (h0 : la.getD 0 0 = l) (h1 : la.getD (la.length - 1) 0 = r) (l4 : -4 ≤ l) (r9 : r ≤ 9) :
    Oval (la.map lo ++ (ua.map hi).reverse) la.length := by
  have ln : (la.map lo ++ (ua.map hi).reverse).length = la.length + ua.length := by simp
  have gl : ∀ i, i < la.length → gp (la.map lo ++ (ua.map hi).reverse) i = lo (la.getD i 0) := by
    intro i h
    rw [gp_app_left (by rw [List.length_map]; exact h)]
    unfold gp
    rw [List.getD_eq_getElem?_getD, List.getElem?_map, List.getElem?_eq_getElem h, List.getD_eq_getElem?_getD, List.getElem?_eq_getElem h]
    rfl
  have gu : ∀ i, la.length ≤ i → i < la.length + ua.length → gp (la.map lo ++ (ua.map hi).reverse) i = hi (ua.getD (ua.length - 1 - (i - la.length)) 0) := by
    intro i h h'
    have hk : ua.length - 1 - (i - la.length) < ua.length := by omega
    unfold gp
    rw [List.getD_eq_getElem?_getD, List.getElem?_append_right (by rw [List.length_map]; exact h), List.length_map, List.getElem?_reverse (by rw [List.length_map]; omega), List.length_map, List.getElem?_map, List.getElem?_eq_getElem hk, List.getD_eq_getElem?_getD, List.getElem?_eq_getElem hk]
    rfl
  refine ⟨l2, by omega, fun i h => ?_, fun i h h' => ?_, fun i j h h' => ?_, fun i j a b c => ?_, fun i a b => ?_, fun i a b => ?_⟩
  · rw [gl i h]
    have := bl _ (getD_memI h)
    refine ⟨?_, ?_, rfl⟩ <;> show _ ≤ _ <;> dsimp only [lo] <;> omega
  · rw [gu i h (by omega)]
    have := bu _ (getD_memI (show ua.length - 1 - (i - la.length) < ua.length by omega))
    refine ⟨?_, ?_, rfl⟩ <;> dsimp only [hi] <;> omega
  · rw [gl i (by omega), gl j h']
    exact pair_lt hl h h'
  · rw [gu i a (by omega), gu j (by omega) (by omega)]
    exact pair_lt hu (by omega) (by omega)
  · rw [gl 0 (by omega), gu i a (by omega), h0]
    have := bu _ (getD_memI (show ua.length - 1 - (i - la.length) < ua.length by omega))
    exact this.1
  · rw [gu i a (by omega), gl (la.length - 1) (by omega), h1]
    have := bu _ (getD_memI (show ua.length - 1 - (i - la.length) < ua.length by omega))
    exact this.2
end HC

/-! The way along sorted points that turns to the left, and the ring of two such ways. -/
namespace HC
def cr (u v : Pt) : Int := u.1 * v.2 - u.2 * v.1
def lp (u : Pt) : Prop := 0 < u.1 ∨ (u.1 = 0 ∧ 0 < u.2)
def dv (a b : Pt) : Pt := (b.1 - a.1, b.2 - a.2)
theorem cr_id1 (u v w : Pt) : v.1 * cr u w = u.1 * cr v w + w.1 * cr u v := by unfold cr; grind
theorem cr_id2 (u v w : Pt) : v.2 * cr u w = u.2 * cr v w + w.2 * cr u v := by unfold cr; grind
theorem cr_anti (u v : Pt) : cr u v = - cr v u := by unfold cr; grind
theorem lp_nn {u : Pt} (h : lp u) : 0 ≤ u.1 := by rcases h with h | h <;> omega
theorem nn_of_mul {a b : Int} (ha : 0 < a) (h : 0 ≤ a * b) : 0 ≤ b := by
  by_cases hb : b < 0
  · have := Int.mul_neg_of_pos_of_neg ha hb; omega
  · omega
theorem cr_trans {u v w : Pt} (hu : lp u) (hv : lp v) (hw : lp w) (h1 : 0 ≤ cr u v) (h2 : 0 ≤ cr v w) : 0 ≤ cr u w := by
  have u1 := lp_nn hu
  have w1 := lp_nn hw
  rcases hv with h | ⟨h, h'⟩
  · refine nn_of_mul h ?_
    rw [cr_id1]
    exact Int.add_nonneg (Int.mul_nonneg u1 h2) (Int.mul_nonneg w1 h1)
  · have e2 : cr v w = - (v.2 * w.1) := by unfold cr; rw [h]; grind
    have w0 : w.1 = 0 := by
      rw [e2] at h2
      by_cases z : 0 < w.1
      · have := Int.mul_pos h' z; omega
      · omega
    have w2 : 0 < w.2 := by rcases hw with z | z <;> omega
    have : cr u w = u.1 * w.2 := by unfold cr; rw [w0]; grind
    rw [this]
    exact Int.mul_nonneg u1 (by omega)
theorem cr_lt1 {u v w : Pt} (hu : lp u) (hv : lp v) (hw : lp w) (h1 : 0 < cr u v) (h2 : 0 ≤ cr v w) : 0 < cr u w := by
  have h := cr_trans hu hv hw (by omega) h2
  by_cases z : cr u w = 0
  · have := cr_trans hv hw hu h2 (by rw [cr_anti]; omega)
    rw [cr_anti] at this
    omega
  · omega
theorem cr_lt2 {u v w : Pt} (hu : lp u) (hv : lp v) (hw : lp w) (h1 : 0 ≤ cr u v) (h2 : 0 < cr v w) : 0 < cr u w := by
  have h := cr_trans hu hv hw h1 (by omega)
  by_cases z : cr u w = 0
  · have := cr_trans hw hu hv (by rw [cr_anti]; omega) h1
    rw [cr_anti] at this
    omega
  · omega
theorem turn_cr (a b c : Pt) : turn a b c = cr (dv a b) (dv b c) := by unfold turn cr dv; grind
theorem turn_cr' (a b c : Pt) : turn a b c = cr (dv a b) (dv a c) := by unfold turn cr dv; grind
theorem turn_cr2 (a b c : Pt) : turn a b c = cr (dv c b) (dv a b) := by unfold turn cr dv; grind
theorem lex_lp {a b : Pt} : lexLt a b ↔ lp (dv a b) := by
  unfold lexLt lp dv
  constructor <;> intro h <;> rcases h with h | h <;> first | exact .inl (by dsimp only at *; omega) | exact .inr (by dsimp only at *; omega)
theorem lex_trans {a b c : Pt} (h1 : lexLt a b) (h2 : lexLt b c) : lexLt a c := by
  unfold lexLt at *; omega
theorem lex_irr {a : Pt} (h : lexLt a a) : False := by unfold lexLt at h; omega
theorem lex_tri (a b : Pt) : lexLt a b ∨ a = b ∨ lexLt b a := by
  unfold lexLt
  by_cases h : a.1 = b.1
  · by_cases h' : a.2 = b.2
    · exact .inr (.inl (Prod.ext h h'))
    · omega
  · omega
theorem turn_aab (a b : Pt) : turn a a b = 0 := by unfold turn; grind
theorem turn_aba (a b : Pt) : turn a b a = 0 := by unfold turn; grind
theorem turn_abb (a b : Pt) : turn a b b = 0 := by unfold turn; grind
theorem turn_ba (a b c : Pt) : turn b a c = - turn a b c := by unfold turn; grind
theorem turn_cyc (a b c : Pt) : turn b c a = turn a b c := by unfold turn; grind
/-! the stack, its top ahead -/
def popW (p : Pt) : List Pt → List Pt
  | b :: a :: st => if turn a b p ≤ 0 then popW p (a :: st) else b :: a :: st
  | st => st
def wayGo (w : List Pt) : List Pt → List Pt
  | [] => w
  | p :: ps => wayGo (p :: popW p w) ps
def way (D : List Pt) : List Pt := (wayGo [] D).reverse
def hullS (D : List Pt) : List Pt := if D.length < 2 then D else (way D).dropLast ++ (way D.reverse).dropLast
inductive Way (P : Pt → Prop) : List Pt → Prop
  | one {a : Pt} : (∀ q, P q → q = a ∨ lexLt a q) → Way P [a]
  | more {b c : Pt} {st : List Pt} : Way P (b :: st) → lexLt b c → (∀ q, P q → 0 ≤ turn b c q) → (∀ a st', st = a :: st' → 0 < turn a b c) → Way P (c :: b :: st)
theorem Way.ext {P P' : Pt → Prop} {p : Pt} (hP : ∀ q, P' q → P q ∨ q = p) : ∀ (st : List Pt) (t : Pt), Way P (t :: st) → lexLt t p → (∀ a st', st = a :: st' → 0 < turn a t p) → Way P' (t :: st)
  | [], t, h, hl, _ => by
    cases h with
    | one h => exact .one fun q hq => (hP q hq).elim (h q) fun e => .inr (by rw [e]; exact hl)
  | a :: st, t, h, hl, ht => by
    cases h with
    | more hw hab hL hT =>
      have tp := ht a st rfl
      refine .more (Way.ext hP st a hw (lex_trans hab hl) fun a' st' e => ?_) hab (fun q hq => ?_) hT
      · have t1 := hT a' st' e
        subst e
        cases hw with
        | more hw' haa _ _ =>
          have l1 := lex_lp.mp haa
          have l2 := lex_lp.mp hab
          have l3 := lex_lp.mp hl
          rw [turn_cr] at t1 tp
          have t2 := cr_lt1 l1 l2 l3 t1 (by omega)
          have e : turn a' a p = cr (dv a' a) (dv a t) + cr (dv a' a) (dv t p) := by unfold turn cr dv; grind
          omega
      · rcases hP q hq with z | z
        · exact hL q z
        · rw [z]; omega
theorem pop_way {P P' : Pt → Prop} {p : Pt} (hP : ∀ q, P' q → P q ∨ q = p) : ∀ (st : List Pt) (t : Pt), Way P (t :: st) → lexLt t p → (∀ q, P q → q = t ∨ lexLt t q → 0 ≤ turn t p q) → Way P' (p :: popW p (t :: st))
  | [], t, h, hl, hR => by
    have h0 := h
    cases h with
    | one h =>
      refine .more (Way.ext hP [] t h0 hl fun a st' e => nomatch e) hl (fun q hq => ?_) fun a st' e => nomatch e
      rcases hP q hq with z | z
      · exact hR q z (h q z)
      · rw [z, turn_abb]; exact Int.le_refl 0
  | a :: st, t, h, hl, hR => by
    have h0 := h
    cases h with
    | more hw hab hL hT =>
      have l2 := lex_lp.mp hab
      have l3 := lex_lp.mp hl
      have l4 := lex_lp.mp (lex_trans hab hl)
      by_cases hz : turn a t p ≤ 0
      · rw [show popW p (t :: a :: st) = popW p (a :: st) by rw [popW, if_pos hz]]
        refine pop_way hP st a hw (lex_trans hab hl) fun q hq hqa => ?_
        rcases hqa with rfl | hqa
        · rw [turn_aba]; exact Int.le_refl 0
        · have q1 := hL q hq
          rw [turn_cr'] at q1 hz ⊢
          exact cr_trans l4 l2 (lex_lp.mp hqa) (by rw [cr_anti]; omega) q1
      · rw [show popW p (t :: a :: st) = t :: a :: st by rw [popW, if_neg hz]]
        refine .more (Way.ext hP (a :: st) t h0 hl fun a' st' e => ?_) hl (fun q hq => ?_) fun a' st' e => ?_
        · cases e; omega
        · rcases hP q hq with z | z
          · rcases lex_tri q t with c | c | c
            · have q1 := hL q z
              rw [turn_cr2] at q1
              rw [turn_cr2, cr_anti]
              have tp : 0 < cr (dv a t) (dv t p) := by rw [← turn_cr]; omega
              have := cr_lt2 (lex_lp.mp c) l2 l3 q1 tp
              have e : cr (dv t p) (dv q p) = - cr (dv q t) (dv t p) := by unfold cr dv; grind
              omega
            · exact hR q z (.inl c)
            · exact hR q z (.inr c)
          · rw [z, turn_abb]; exact Int.le_refl 0
        · cases e; omega
def Sorted (D : List Pt) : Prop := D.Pairwise lexLt
theorem wayGo_ok : ∀ (ps pre : List Pt) (t : Pt) (st : List Pt), (pre ++ ps).Pairwise lexLt → Way (· ∈ pre) (t :: st) → t ∈ pre → (∀ q ∈ pre, q = t ∨ lexLt q t) → ∃ t' st', wayGo (t :: st) ps = t' :: st' ∧ Way (· ∈ pre ++ ps) (t' :: st') ∧ t' ∈ pre ++ ps ∧ (∀ q ∈ pre ++ ps, q = t' ∨ lexLt q t')
  | [], pre, t, st, _, hW, ht, hm => ⟨t, st, rfl, by rw [List.append_nil]; exact hW, by rw [List.append_nil]; exact ht, by rw [List.append_nil]; exact hm⟩
  | p :: ps, pre, t, st, hs, hW, ht, hm => by
    have hs' : ((pre ++ [p]) ++ ps).Pairwise lexLt := by rw [List.append_assoc]; exact hs
    have lt : ∀ q ∈ pre, lexLt q p := fun q hq => (List.pairwise_append.mp hs).2.2 q hq p List.mem_cons_self
    have W1 : Way (· ∈ pre ++ [p]) (p :: popW p (t :: st)) := by
      refine pop_way (P := (· ∈ pre)) (fun q hq => ?_) st t hW (lt t ht) fun q hq hqt => ?_
      · rcases List.mem_append.mp hq with z | z
        · exact .inl z
        · exact .inr (List.mem_singleton.mp z)
      · rcases hqt with rfl | c
        · rw [turn_aba]; exact Int.le_refl 0
        · rcases hm q hq with rfl | c'
          · rw [turn_aba]; exact Int.le_refl 0
          · exact (lex_irr (lex_trans c c')).elim
    have r := wayGo_ok ps (pre ++ [p]) p (popW p (t :: st)) hs' W1 (List.mem_append_right _ List.mem_cons_self) fun q hq => by
      rcases List.mem_append.mp hq with z | z
      · exact .inr (lt q z)
      · exact .inl (List.mem_singleton.mp z)
    rw [List.append_assoc] at r
    exact r
theorem popW_sub (p : Pt) : ∀ (st : List Pt), ∀ q ∈ popW p st, q ∈ st
  | [], q, h => h
  | [_], q, h => h
  | b :: a :: st, q, h => by
    rw [popW] at h
    split at h
    · exact List.mem_cons_of_mem _ (popW_sub p (a :: st) q h)
    · exact h
theorem wayGo_sub : ∀ (ps w : List Pt), ∀ q ∈ wayGo w ps, q ∈ w ∨ q ∈ ps
  | [], w, q, h => .inl h
  | p :: ps, w, q, h => by
    rcases wayGo_sub ps _ q h with z | z
    · rcases List.mem_cons.mp z with rfl | z
      · exact .inr List.mem_cons_self
      · exact .inl (popW_sub p w q z)
    · exact .inr (List.mem_cons_of_mem _ z)
/-- the bottom of the stack stays -/
theorem popW_last (p d : Pt) : ∀ (st : List Pt), st ≠ [] → (popW p st).getLastD d = st.getLastD d ∧ popW p st ≠ []
  | [], h => absurd rfl h
  | [_], h => ⟨rfl, h⟩
  | b :: a :: st, h => by
    rw [popW]
    split
    · have r := popW_last p d (a :: st) (by simp)
      exact ⟨r.1.trans (by simp), r.2⟩
    · exact ⟨rfl, h⟩
theorem wayGo_last (d : Pt) : ∀ (ps w : List Pt), w ≠ [] → (wayGo w ps).getLastD d = w.getLastD d
  | [], w, _ => rfl
  | p :: ps, w, h => by
    have r := popW_last p d w h
    rw [wayGo, wayGo_last d ps _ (by simp)]
    obtain ⟨x, l, e⟩ : ∃ x l, popW p w = x :: l := by
      cases q : popW p w with
      | nil => exact absurd q r.2
      | cons x l => exact ⟨x, l, rfl⟩
    rw [← r.1, e]
    simp
/-- all that is wanted of a way along sorted points, its top ahead -/
structure WayOk (D st : List Pt) : Prop where
  len : 2 ≤ st.length
  sub : ∀ q ∈ st, q ∈ D
  top : ∀ q ∈ D, q = gp st 0 ∨ lexLt q (gp st 0)
  bot : ∀ q ∈ D, q = gp st (st.length - 1) ∨ lexLt (gp st (st.length - 1)) q
  up : ∀ i, i + 1 < st.length → lexLt (gp st (i + 1)) (gp st i)
  left : ∀ i, i + 1 < st.length → ∀ q ∈ D, 0 ≤ turn (gp st (i + 1)) (gp st i) q
  bend : ∀ i, i + 2 < st.length → 0 < turn (gp st (i + 2)) (gp st (i + 1)) (gp st i)
theorem gp_cons_succ (a : Pt) (l : List Pt) (i : Nat) : gp (a :: l) (i + 1) = gp l i := rfl
theorem gp_cons_zero (a : Pt) (l : List Pt) : gp (a :: l) 0 = a := rfl
theorem Way.at {P : Pt → Prop} : ∀ (st : List Pt), Way P st → (∀ q, P q → q = gp st (st.length - 1) ∨ lexLt (gp st (st.length - 1)) q) ∧ (∀ i, i + 1 < st.length → lexLt (gp st (i + 1)) (gp st i) ∧ ∀ q, P q → 0 ≤ turn (gp st (i + 1)) (gp st i) q) ∧ ∀ i, i + 2 < st.length → 0 < turn (gp st (i + 2)) (gp st (i + 1)) (gp st i)
  | [], h => nomatch h
  | [a], h => by
    cases h with
    | one h => exact ⟨h, fun i hi => by simp at hi, fun i hi => by simp at hi⟩
  | c :: b :: st, h => by
    cases h with
    | more hw hbc hL hT =>
      obtain ⟨r1, r2, r3⟩ := Way.at (b :: st) hw
      refine ⟨fun q hq => ?_, fun i hi => ?_, fun i hi => ?_⟩
      · have := r1 q hq
        rw [show (c :: b :: st).length - 1 = (b :: st).length - 1 + 1 by simp, gp_cons_succ]
        exact this
      · cases i with
        | zero => exact ⟨hbc, hL⟩
        | succ i => exact r2 i (by simp only [List.length_cons] at hi ⊢; omega)
      · cases i with
        | zero =>
          cases st with
          | nil => simp at hi
          | cons a st => exact hT a st rfl
        | succ i => exact r3 i (by simp only [List.length_cons] at hi ⊢; omega)
theorem way_ok {D : List Pt} (hs : D.Pairwise lexLt) (h2 : 2 ≤ D.length) : WayOk D (wayGo [] D) := by
  match D, hs, h2 with
  | p :: p2 :: ps, hs, _ =>
    have W0 : Way (· ∈ [p]) (p :: popW p []) := .one fun q hq => .inl (List.mem_singleton.mp hq)
    obtain ⟨t, st, e, hW, ht, hm⟩ := wayGo_ok (p2 :: ps) [p] p [] hs W0 List.mem_cons_self fun q hq => .inl (List.mem_singleton.mp hq)
    have e' : wayGo [] (p :: p2 :: ps) = t :: st := e
    obtain ⟨r1, r2, r3⟩ := hW.at
    rw [e']
    refine ⟨?_, fun q hq => ?_, hm, r1, fun i hi => (r2 i hi).1, fun i hi q hq => (r2 i hi).2 q hq, r3⟩
    · cases st with
      | cons a st => simp
      | nil =>
        have b1 := r1 p List.mem_cons_self
        have b2 := r1 p2 (List.mem_cons_of_mem _ List.mem_cons_self)
        have m1 := hm p List.mem_cons_self
        have m2 := hm p2 (List.mem_cons_of_mem _ List.mem_cons_self)
        have hlt : lexLt p p2 := (List.pairwise_cons.mp hs).1 p2 List.mem_cons_self
        have g : gp [t] ([t].length - 1) = t := rfl
        rw [g] at b1 b2
        exfalso
        rcases b1 with z | z
        · rcases m2 with w | w
          · rw [z, w] at hlt; exact lex_irr hlt
          · rw [z] at hlt; exact lex_irr (lex_trans hlt w)
        · rcases m1 with w | w
          · rw [w] at z; exact lex_irr z
          · exact lex_irr (lex_trans z w)
    · rcases wayGo_sub _ _ q (by rw [e']; exact hq) with z | z
      · exact nomatch z
      · exact z
end HC

/-! The ring of the two ways. -/
namespace HC
def ng (p : Pt) : Pt := (-p.1, -p.2)
theorem turn_ng (a b c : Pt) : turn (ng a) (ng b) (ng c) = turn a b c := by unfold turn ng; grind
theorem lex_ng {a b : Pt} : lexLt (ng a) (ng b) ↔ lexLt b a := by unfold lexLt ng; dsimp only; omega
theorem ng_ng (a : Pt) : ng (ng a) = a := by unfold ng; simp
theorem popW_ng (p : Pt) : ∀ st : List Pt, popW (ng p) (st.map ng) = (popW p st).map ng
  | [] => rfl
  | [_] => rfl
  | b :: a :: st => by
    show popW (ng p) (ng b :: ng a :: st.map ng) = _
    rw [popW, popW, turn_ng]
    split
    · exact popW_ng p (a :: st)
    · rfl
theorem wayGo_ng : ∀ (ps w : List Pt), wayGo (w.map ng) (ps.map ng) = (wayGo w ps).map ng
  | [], w => rfl
  | p :: ps, w => by
    show wayGo (ng p :: popW (ng p) (w.map ng)) (ps.map ng) = _
    rw [popW_ng]
    exact wayGo_ng ps (p :: popW p w)
/-- the way back: its top is the least -/
structure BackOk (D st : List Pt) : Prop where
  len : 2 ≤ st.length
  sub : ∀ q ∈ st, q ∈ D
  top : ∀ q ∈ D, q = gp st 0 ∨ lexLt (gp st 0) q
  bot : ∀ q ∈ D, q = gp st (st.length - 1) ∨ lexLt q (gp st (st.length - 1))
  up : ∀ i, i + 1 < st.length → lexLt (gp st i) (gp st (i + 1))
  left : ∀ i, i + 1 < st.length → ∀ q ∈ D, 0 ≤ turn (gp st (i + 1)) (gp st i) q
  bend : ∀ i, i + 2 < st.length → 0 < turn (gp st (i + 2)) (gp st (i + 1)) (gp st i)
theorem back_ok {D : List Pt} (hs : D.Pairwise lexLt) (h2 : 2 ≤ D.length) : BackOk D (wayGo [] D.reverse) := by
  have hs' : (D.reverse.map ng).Pairwise lexLt := by
    rw [List.pairwise_map, List.pairwise_reverse]
    exact hs.imp fun h => lex_ng.mpr h
  have W := way_ok hs' (by rw [List.length_map, List.length_reverse]; exact h2)
  have e : wayGo [] (D.reverse.map ng) = (wayGo [] D.reverse).map ng := wayGo_ng D.reverse []
  rw [e] at W
  generalize wayGo [] D.reverse = st at W
  have hl : (st.map ng).length = st.length := List.length_map _
  have l2 := W.len
  rw [hl] at l2
  have mem : ∀ q ∈ D, ng q ∈ D.reverse.map ng := fun q hq => List.mem_map.mpr ⟨q, List.mem_reverse.mpr hq, rfl⟩
  have inj : ∀ a b : Pt, ng a = ng b → a = b := fun a b h => by rw [← ng_ng a, h, ng_ng]
  refine ⟨l2, fun q hq => ?_, fun q hq => ?_, fun q hq => ?_, fun i hi => ?_, fun i hi q hq => ?_, fun i hi => ?_⟩
  · obtain ⟨r, hr, er⟩ := List.mem_map.mp (W.sub (ng q) (List.mem_map.mpr ⟨q, hq, rfl⟩))
    rw [← inj r q er]
    exact List.mem_reverse.mp hr
  · have := W.top (ng q) (mem q hq)
    rw [gp_map (by omega)] at this
    exact this.imp (inj _ _) lex_ng.mp
  · have := W.bot (ng q) (mem q hq)
    rw [hl, gp_map (by omega)] at this
    exact this.imp (inj _ _) lex_ng.mp
  · have := W.up i (by omega)
    rw [gp_map (by omega), gp_map (by omega)] at this
    exact lex_ng.mp this
  · have := W.left i (by omega) (ng q) (mem q hq)
    rw [gp_map (by omega), gp_map (by omega), turn_ng] at this
    exact this
  · have := W.bend i (by omega)
    rw [gp_map (by omega), gp_map (by omega), gp_map (by omega), turn_ng] at this
    exact this
theorem chain_lt {st : List Pt} {R : Pt → Pt → Prop} (tr : ∀ {a b c}, R a b → R b c → R a c) (h : ∀ i, i + 1 < st.length → R (gp st (i + 1)) (gp st i)) : ∀ {i j : Nat}, i < j → j < st.length → R (gp st j) (gp st i) := by
  intro i j hij
  induction j with
  | zero => omega
  | succ j ih =>
    intro hj
    by_cases e : i = j
    · rw [e]; exact h j hj
    · exact tr (h j hj) (ih (by omega) (by omega))
/-- a ring round all that P tells -/
structure RR (cs : List Pt) (P : Pt → Prop) : Prop where
  len : 3 ≤ cs.length
  sub : ∀ q ∈ cs, P q
  least : ∀ q, P q → q = gp cs 0 ∨ lexLt (gp cs 0) q
  once : ∀ i j, i < j → j < cs.length → gp cs i ≠ gp cs j
  bend : ∀ i, i < cs.length → 0 < turn (gp cs i) (gp cs ((i + 1) % cs.length)) (gp cs ((i + 2) % cs.length))
  left : ∀ i, i < cs.length → ∀ q, P q → 0 ≤ turn (gp cs i) (gp cs ((i + 1) % cs.length)) q
/-- two ends of a line on which all lie -/
structure Flat2 (cs : List Pt) (P : Pt → Prop) (a b : Pt) : Prop where
  eq : cs = [a, b]
  lt : lexLt a b
  ina : P a
  inb : P b
  least : ∀ q, P q → q = a ∨ lexLt a q
  most : ∀ q, P q → q = b ∨ lexLt q b
  flat : ∀ q, P q → turn a b q = 0
theorem col {e x y z : Pt} (he : e ≠ (0, 0)) (h1 : cr e (dv x y) = 0) (h2 : cr e (dv x z) = 0) : turn x y z = 0 := by
  rw [turn_cr']
  have i1 := cr_id1 (dv x y) e (dv x z)
  have i2 := cr_id2 (dv x y) e (dv x z)
  rw [h2, cr_anti (dv x y) e, h1] at i1 i2
  have z1 : e.1 * cr (dv x y) (dv x z) = 0 := by rw [i1]; grind
  have z2 : e.2 * cr (dv x y) (dv x z) = 0 := by rw [i2]; grind
  rcases Int.mul_eq_zero.mp z1 with a | a
  · rcases Int.mul_eq_zero.mp z2 with b | b
    · exact absurd (Prod.ext a b) he
    · exact b
  · exact a
theorem col3 {a M x y z : Pt} (he : a ≠ M) (hx : turn a M x = 0) (hy : turn a M y = 0) (hz : turn a M z = 0) : turn x y z = 0 := by
  refine col (e := dv a M) (fun h => he ?_) ?_ ?_
  · unfold dv at h
    have h1 := congrArg Prod.fst h
    have h2 := congrArg Prod.snd h
    dsimp only at h1 h2
    exact Prod.ext (by omega) (by omega)
  · have e : cr (dv a M) (dv x y) = turn a M y - turn a M x := by unfold turn cr dv; grind
    rw [e, hx, hy]; rfl
  · have e : cr (dv a M) (dv x z) = turn a M z - turn a M x := by unfold turn cr dv; grind
    rw [e, hx, hz]; rfl
/-- at the greatest point the way turns, or all lie on one line -/
theorem knee {P : Pt → Prop} {a M b : Pt} (ha : lexLt a M) (hb : lexLt b M) (hm : ∀ q, P q → q = M ∨ lexLt q M) (h1 : ∀ q, P q → 0 ≤ turn a M q) (h2 : ∀ q, P q → 0 ≤ turn M b q) (pb : P b) : 0 < turn a M b ∨ ∀ q, P q → turn a M q = 0 := by
  by_cases z : turn a M b = 0
  · refine .inr fun q hq => ?_
    rcases hm q hq with rfl | hl
    · exact turn_abb a q
    · have t1 := h1 q hq
      have t2 := h2 q hq
      rw [turn_cr2] at t1 z ⊢
      have e2 : turn M b q = cr (dv b M) (dv q M) := by unfold turn cr dv; grind
      rw [e2] at t2
      by_cases w : 0 < cr (dv q M) (dv a M)
      · have := cr_lt2 (lex_lp.mp hb) (lex_lp.mp hl) (lex_lp.mp ha) t2 w
        omega
      · omega
  · have := h1 b pb
    exact .inl (by omega)
theorem knee' {P : Pt → Prop} {a M b : Pt} (ha : lexLt M a) (hb : lexLt M b) (hm : ∀ q, P q → q = M ∨ lexLt M q) (h1 : ∀ q, P q → 0 ≤ turn a M q) (h2 : ∀ q, P q → 0 ≤ turn M b q) (pb : P b) : 0 < turn a M b ∨ ∀ q, P q → turn a M q = 0 := by
  by_cases z : turn a M b = 0
  · refine .inr fun q hq => ?_
    rcases hm q hq with rfl | hl
    · exact turn_abb a q
    · have t1 := h1 q hq
      have t2 := h2 q hq
      have e1 : ∀ c, turn a M c = cr (dv M c) (dv M a) := fun c => by unfold turn cr dv; grind
      have e2 : turn M b q = cr (dv M b) (dv M q) := by unfold turn cr dv; grind
      rw [e1] at t1 z ⊢
      rw [e2] at t2
      by_cases w : 0 < cr (dv M q) (dv M a)
      · have := cr_lt2 (lex_lp.mp hb) (lex_lp.mp hl) (lex_lp.mp ha) t2 w
        omega
      · omega
  · have := h1 b pb
    exact .inl (by omega)
theorem gp_rev {l : List Pt} {i : Nat} (h : i < l.length) : gp l.reverse i = gp l (l.length - 1 - i) := by
  unfold gp
  rw [List.getD_eq_getElem?_getD, List.getD_eq_getElem?_getD, List.getElem?_reverse h]
theorem gp_app_right {ps qs : List Pt} {i : Nat} (h : ps.length ≤ i) : gp (ps ++ qs) i = gp qs (i - ps.length) := by
  unfold gp
  rw [List.getD_eq_getElem?_getD, List.getD_eq_getElem?_getD, List.getElem?_append_right h]
theorem gp_drop {l : List Pt} {i : Nat} (h : i < l.length - 1) : gp l.dropLast i = gp l i := by
  unfold gp
  rw [List.getD_eq_getElem?_getD, List.getD_eq_getElem?_getD, List.getElem?_dropLast, if_pos h]
theorem hull_ring {D : List Pt} (hs : D.Pairwise lexLt) (h2 : 2 ≤ D.length) : RR (hullS D) (· ∈ D) ∨ ∃ a b, Flat2 (hullS D) (· ∈ D) a b := by
  have A := way_ok hs h2
  have B := back_ok hs h2
  have eH : hullS D = (wayGo [] D).reverse.dropLast ++ (wayGo [] D.reverse).reverse.dropLast := by
    unfold hullS way
    rw [if_neg (by omega)]
  rw [eH]
  generalize wayGo [] D = st at A
  generalize wayGo [] D.reverse = su at B
  obtain ⟨m, hm⟩ : ∃ m, st.length = m + 1 := ⟨st.length - 1, by have := A.len; omega⟩
  obtain ⟨k, hk⟩ : ∃ k, su.length = k + 1 := ⟨su.length - 1, by have := B.len; omega⟩
  have m1 : 1 ≤ m := by have := A.len; omega
  have k1 : 1 ≤ k := by have := B.len; omega
  have inA : ∀ i, i < st.length → gp st i ∈ D := fun i hi => A.sub _ (gp_mem hi)
  have inB : ∀ i, i < su.length → gp su i ∈ D := fun i hi => B.sub _ (gp_mem hi)
  have eM : gp st 0 = gp su k := by
    have x := A.top _ (inB k (by omega))
    have y := B.bot _ (inA 0 (by omega))
    rw [hk, Nat.add_sub_cancel] at y
    rcases x with x | x
    · exact x.symm
    · rcases y with y | y
      · exact y
      · exact (lex_irr (lex_trans x y)).elim
  have em : gp st m = gp su 0 := by
    have x := A.bot _ (inB 0 (by omega))
    have y := B.top _ (inA m (by omega))
    rw [hm, Nat.add_sub_cancel] at x
    rcases x with x | x
    · exact x.symm
    · rcases y with y | y
      · exact y
      · exact (lex_irr (lex_trans x y)).elim
  -- the closed way
  obtain ⟨f, hf⟩ : ∃ f : Nat → Pt, f = fun i => if i ≤ m then gp st (m - i) else gp su (k - (i - m)) := ⟨_, rfl⟩
  have fA : ∀ i, i ≤ m → f i = gp st (m - i) := fun i hi => by rw [hf]; exact if_pos hi
  have fB : ∀ i, m ≤ i → f i = gp su (k - (i - m)) := fun i hi => by
    by_cases e : i = m
    · rw [fA i (by omega), e, Nat.sub_self, Nat.sub_zero]; exact eM
    · rw [hf]; exact if_neg (by omega)
  have fD : ∀ i, i ≤ m + k → f i ∈ D := fun i hi => by
    by_cases e : i ≤ m
    · rw [fA i e]; exact inA _ (by omega)
    · rw [fB i (by omega)]; exact inB _ (by omega)
  have fz : f (m + k) = f 0 := by
    rw [fB _ (by omega), fA 0 (by omega), show k - (m + k - m) = 0 by omega, Nat.sub_zero]
    exact em.symm
  have fL : ∀ i, i < m + k → ∀ q, q ∈ D → 0 ≤ turn (f i) (f (i + 1)) q := fun i hi q hq => by
    by_cases e : i < m
    · rw [fA i (by omega), fA (i + 1) (by omega), show m - i = m - (i + 1) + 1 by omega]
      exact A.left _ (by omega) q hq
    · rw [fB i (by omega), fB (i + 1) (by omega), show k - (i - m) = k - (i + 1 - m) + 1 by omega]
      exact B.left _ (by omega) q hq
  have fT : ∀ i, i + 2 ≤ m + k → i + 1 ≠ m → 0 < turn (f i) (f (i + 1)) (f (i + 2)) := fun i hi hne => by
    by_cases e : i + 2 ≤ m
    · rw [fA i (by omega), fA (i + 1) (by omega), fA (i + 2) e, show m - i = m - (i + 2) + 2 by omega, show m - (i + 1) = m - (i + 2) + 1 by omega]
      exact A.bend _ (by omega)
    · rw [fB i (by omega), fB (i + 1) (by omega), fB (i + 2) (by omega), show k - (i - m) = k - (i + 2 - m) + 2 by omega, show k - (i + 1 - m) = k - (i + 2 - m) + 1 by omega]
      exact B.bend _ (by omega)
  have ltA : ∀ i j, i < j → j ≤ m → lexLt (f i) (f j) := fun i j hij hj => by
    rw [fA i (by omega), fA j hj]
    exact chain_lt (R := lexLt) lex_trans A.up (by omega) (by omega)
  have ltB : ∀ i j, m ≤ i → i < j → j ≤ m + k → lexLt (f j) (f i) := fun i j hi hij hj => by
    rw [fB i hi, fB j (by omega)]
    exact chain_lt (R := fun a b => lexLt b a) (fun x y => lex_trans y x) B.up (by omega) (by omega)
  have least : ∀ q, q ∈ D → q = f 0 ∨ lexLt (f 0) q := fun q hq => by
    have := A.bot q hq
    rw [hm, Nat.add_sub_cancel] at this
    rw [fA 0 (by omega)]
    exact this
  have most : ∀ q, q ∈ D → q = f m ∨ lexLt q (f m) := fun q hq => by
    have := A.top q hq
    rw [fA m (by omega), Nat.sub_self]
    exact this
  have lL : st.reverse.dropLast.length = m := by rw [List.length_dropLast, List.length_reverse, hm]; rfl
  have lU : su.reverse.dropLast.length = k := by rw [List.length_dropLast, List.length_reverse, hk]; rfl
  obtain ⟨cs, ecs⟩ : ∃ cs, cs = st.reverse.dropLast ++ su.reverse.dropLast := ⟨_, rfl⟩
  rw [← ecs]
  have lc : cs.length = m + k := by rw [ecs, List.length_append, lL, lU]
  have gc : ∀ i, i < m + k → gp cs i = f i := fun i hi => by
    rw [ecs]
    by_cases e : i < m
    · rw [gp_app_left (by omega), gp_drop (by rw [List.length_reverse]; omega), gp_rev (by omega), fA i (by omega), hm]
      congr 1
    · rw [gp_app_right (by omega), lL, gp_drop (by rw [List.length_reverse]; omega), gp_rev (by omega), fB i (by omega), hk]
      congr 1
  by_cases n3 : 3 ≤ m + k
  · left
    have strict : ∃ x y z, x ∈ D ∧ y ∈ D ∧ z ∈ D ∧ 0 < turn x y z := by
      by_cases e : 2 ≤ m
      · exact ⟨f 0, f 1, f 2, fD 0 (by omega), fD 1 (by omega), fD 2 (by omega), fT 0 (by omega) (by omega)⟩
      · exact ⟨f m, f (m + 1), f (m + 2), fD _ (by omega), fD _ (by omega), fD _ (by omega), fT m (by omega) (by omega)⟩
    obtain ⟨x, y, z, hx, hy, hz, pos⟩ := strict
    have noflat : ∀ a M, a ≠ M → ¬ ∀ q, q ∈ D → turn a M q = 0 := fun a M hne h => by
      have := col3 hne (h x hx) (h y hy) (h z hz)
      omega
    have J1 : 0 < turn (f (m - 1)) (f m) (f (m + 1)) := by
      have l1 := fL (m - 1) (by omega)
      rw [show m - 1 + 1 = m by omega] at l1
      have lt1 := ltA (m - 1) m (by omega) (by omega)
      rcases knee (P := (· ∈ D)) lt1 (ltB m (m + 1) (by omega) (by omega) (by omega)) most l1 (fL m (by omega)) (fD _ (by omega)) with h | h
      · exact h
      · exact (noflat _ _ (fun e => lex_irr (by rw [e] at lt1; exact lt1)) h).elim
    have J2 : 0 < turn (f (m + k - 1)) (f 0) (f 1) := by
      have l1 := fL (m + k - 1) (by omega)
      rw [show m + k - 1 + 1 = m + k by omega, fz] at l1
      have lt1 := ltB (m + k - 1) (m + k) (by omega) (by omega) (by omega)
      rw [fz] at lt1
      rcases knee' (P := (· ∈ D)) lt1 (ltA 0 1 (by omega) (by omega)) least l1 (fL 0 (by omega)) (fD _ (by omega)) with h | h
      · exact h
      · exact (noflat _ _ (fun e => lex_irr (by rw [e] at lt1; exact lt1)) h).elim
    have g1 : ∀ i, i < m + k → gp cs ((i + 1) % (m + k)) = f (i + 1) := fun i hi => by
      by_cases e : i + 1 < m + k
      · rw [Nat.mod_eq_of_lt e, gc _ e]
      · rw [show i + 1 = m + k by omega, Nat.mod_self, gc 0 (by omega), fz]
    have g2 : ∀ i, i + 2 ≤ m + k → gp cs ((i + 2) % (m + k)) = f (i + 2) := fun i hi => by
      by_cases e : i + 2 < m + k
      · rw [Nat.mod_eq_of_lt e, gc _ e]
      · rw [show i + 2 = m + k by omega, Nat.mod_self, gc 0 (by omega), fz]
    have once : ∀ i j, i < j → j < m + k → f i ≠ f j := fun i j hij hj e => by
      by_cases c1 : j ≤ m
      · have := ltA i j hij c1
        rw [e] at this
        exact lex_irr this
      · by_cases c2 : m ≤ i
        · have := ltB i j c2 hij (by omega)
          rw [e] at this
          exact lex_irr this
        · by_cases c3 : i = 0
          · have := ltB j (m + k) (by omega) (by omega) (by omega)
            rw [fz, ← e, c3] at this
            exact lex_irr this
          · have a1 : lexLt (f (i - 1)) (f i) := ltA (i - 1) i (by omega) (by omega)
            have a2 : lexLt (f i) (f (i + 1)) := ltA i (i + 1) (by omega) (by omega)
            have a3 : lexLt (f i) (f (j - 1)) := by rw [e]; exact ltB (j - 1) j (by omega) (by omega) (by omega)
            have t1 := fT (i - 1) (by omega) (by omega)
            rw [show i - 1 + 1 = i by omega, show i - 1 + 2 = i + 1 by omega] at t1
            have t2 := fL (j - 1) (by omega) (f (i - 1)) (fD _ (by omega))
            rw [show j - 1 + 1 = j by omega, ← e] at t2
            have t3 := fL i (by omega) (f (j - 1)) (fD _ (by omega))
            have e1 : turn (f (i - 1)) (f i) (f (i + 1)) = - cr (dv (f i) (f (i + 1))) (dv (f (i - 1)) (f i)) := by unfold turn cr dv; grind
            have e2 : turn (f (j - 1)) (f i) (f (i - 1)) = cr (dv (f i) (f (j - 1))) (dv (f (i - 1)) (f i)) := by unfold turn cr dv; grind
            have e3 : turn (f i) (f (i + 1)) (f (j - 1)) = cr (dv (f i) (f (i + 1))) (dv (f i) (f (j - 1))) := by unfold turn cr dv; grind
            rw [e1] at t1
            rw [e2] at t2
            rw [e3] at t3
            have := cr_trans (lex_lp.mp a2) (lex_lp.mp a3) (lex_lp.mp a1) t3 t2
            omega
    refine ⟨by omega, fun q hq => ?_, fun q hq => ?_, fun i j hij hj => ?_, fun i hi => ?_, fun i hi q hq => ?_⟩
    · obtain ⟨i, hi, e⟩ := mem_gp hq
      rw [← e, gc i (by omega)]
      exact fD i (by omega)
    · rw [gc 0 (by omega)]
      exact least q hq
    · rw [gc i (by omega), gc j (by omega)]
      exact once i j hij (by omega)
    · rw [lc] at hi ⊢
      rw [gc i hi, g1 i hi]
      by_cases e : i + 2 ≤ m + k
      · rw [g2 i e]
        by_cases e2 : i + 1 = m
        · have : i = m - 1 := by omega
          rw [this, show m - 1 + 1 = m by omega, show m - 1 + 2 = m + 1 by omega]
          exact J1
        · exact fT i e e2
      · rw [show i = m + k - 1 by omega, show m + k - 1 + 1 = m + k by omega, show m + k - 1 + 2 = 1 + (m + k) by omega, Nat.add_mod_right, Nat.mod_eq_of_lt (by omega), gc 1 (by omega), fz]
        exact J2
    · rw [lc] at hi ⊢
      rw [gc i hi, g1 i hi]
      exact fL i hi q hq
  · right
    have hm1 : m = 1 := by omega
    have hk1 : k = 1 := by omega
    refine ⟨f 0, f 1, ?_, ltA 0 1 (by omega) (by omega), fD 0 (by omega), fD 1 (by omega), least, fun q hq => ?_, fun q hq => ?_⟩
    · match cs, lc, gc with
      | [], h, _ => simp at h; omega
      | [_], h, _ => simp at h; omega
      | [a, b], _, g => rw [← g 0 (by omega), ← g 1 (by omega)]; rfl
      | _ :: _ :: _ :: _, h, _ => simp at h; omega
    · have := most q hq
      rw [hm1] at this
      exact this
    · have t1 := fL 0 (by omega) q hq
      have t2 := fL 1 (by omega) q hq
      rw [show (1 : Nat) + 1 = m + k by omega, fz, turn_ba] at t2
      rw [Nat.zero_add] at t1
      omega
end HC

/-! One ring only; sorted points with repeats; the rope. -/
namespace HC
theorem plu (x a z d : Pt) : cr x a * cr z d - cr x d * cr z a = cr x z * cr a d := by unfold cr; grind
theorem cr_sub (x : Pt) (c a b : Pt) : cr x (dv a b) = cr x (dv c b) - cr x (dv c a) := by unfold cr dv; grind
theorem half_le {x c a b d : Pt} (h0 : turn c a b = 0) (x1 : 0 < cr x (dv c a)) (t1 : 0 < turn c a d) (l1 : 0 ≤ turn a d b) : cr x (dv c b) ≤ cr x (dv c a) := by
  have e := plu x (dv c a) (dv a d) (dv a b)
  have e0 : cr (dv c a) (dv a b) = 0 := by rw [← h0]; unfold turn cr dv; grind
  have e1 : cr (dv a d) (dv a b) = turn a d b := by unfold turn cr dv; grind
  have e2 : cr (dv a d) (dv c a) = - turn c a d := by unfold turn cr dv; grind
  rw [e0, e1, e2, cr_sub x c a b, Int.mul_zero] at e
  have p1 := Int.mul_nonneg (Int.le_of_lt x1) l1
  by_cases h : cr x (dv c b) ≤ cr x (dv c a)
  · exact h
  · have p2 := Int.mul_pos (show 0 < cr x (dv c b) - cr x (dv c a) by omega) t1
    have e3 : (cr x (dv c b) - cr x (dv c a)) * -turn c a d = - ((cr x (dv c b) - cr x (dv c a)) * turn c a d) := by grind
    omega
theorem next_eq {x c a b d d' : Pt} (h1 : 0 ≤ turn c a b) (h2 : 0 ≤ turn c b a) (x1 : 0 < cr x (dv c a)) (x2 : 0 < cr x (dv c b)) (t1 : 0 < turn c a d) (t2 : 0 < turn c b d') (l1 : 0 ≤ turn a d b) (l2 : 0 ≤ turn b d' a) : a = b := by
  have e : turn c b a = - turn c a b := by unfold turn; grind
  have z1 : turn c a b = 0 := by omega
  have z2 : turn c b a = 0 := by omega
  have u1 := half_le z1 x1 t1 l1
  have u2 := half_le z2 x2 t2 l2
  have zd : cr x (dv a b) = 0 := by rw [cr_sub x c a b]; omega
  have za : cr (dv c a) (dv a b) = 0 := by rw [← z1]; unfold turn cr dv; grind
  have i1 : cr x (dv c a) * (b.1 - a.1) = cr x (dv a b) * (a.1 - c.1) - cr (dv c a) (dv a b) * x.1 := by unfold cr dv; grind
  have i2 : cr x (dv c a) * (b.2 - a.2) = cr x (dv a b) * (a.2 - c.2) - cr (dv c a) (dv a b) * x.2 := by unfold cr dv; grind
  rw [zd, za, Int.zero_mul, Int.zero_mul] at i1 i2
  have j1 := (Int.mul_eq_zero.mp (i1.trans (by rfl))).resolve_left (by omega)
  have j2 := (Int.mul_eq_zero.mp (i2.trans (by rfl))).resolve_left (by omega)
  exact Prod.ext (by omega) (by omega)
theorem lex_half {u v : Pt} (hu : lp u) (hv : lp v) : ∃ x : Pt, 0 < cr x u ∧ 0 < cr x v := by
  have key : ∀ (N : Int) (w : Pt), lp w → -N < w.2 → w.2 < N → 0 < cr (1, -N) w := fun N w hw h1 h2 => by
    have e : cr (1, -N) w = w.2 + N * w.1 := by unfold cr; grind
    rw [e]
    rcases hw with h | ⟨h, h'⟩
    · have : N * 1 ≤ N * w.1 := Int.mul_le_mul_of_nonneg_left (by omega) (by omega)
      omega
    · rw [h, Int.mul_zero]; omega
  refine ⟨(1, -((u.2.natAbs : Int) + v.2.natAbs + 1)), key _ u hu (by omega) (by omega), key _ v hv (by omega) (by omega)⟩
section
variable {A B : List Pt} {P : Pt → Prop}
theorem RR.pt (h : RR A P) {i : Nat} (hi : i < A.length) : P (gp A i) := h.sub _ (gp_mem hi)
theorem RR.head (hA : RR A P) (hB : RR B P) : gp A 0 = gp B 0 := by
  have a3 := hA.len
  have b3 := hB.len
  rcases hA.least _ (hB.pt (i := 0) (by omega)) with x | x
  · exact x.symm
  · rcases hB.least _ (hA.pt (i := 0) (by omega)) with y | y
    · exact y
    · exact (lex_irr (lex_trans x y)).elim
theorem RR.next (hA : RR A P) (hB : RR B P) {i : Nat} (ha : i < A.length) (hb : i < B.length) (e : ∀ j, j ≤ i → gp A j = gp B j) : gp A ((i + 1) % A.length) = gp B ((i + 1) % B.length) := by
  have a3 := hA.len
  have b3 := hB.len
  have ma : ∀ j, j % A.length < A.length := fun j => Nat.mod_lt _ (by omega)
  have mb : ∀ j, j % B.length < B.length := fun j => Nat.mod_lt _ (by omega)
  have ba := hA.bend i ha
  have bb := hB.bend i hb
  rw [← e i (Nat.le_refl i)] at bb
  have lA := hA.left i ha
  have lB := hB.left i hb
  rw [← e i (Nat.le_refl i)] at lB
  have sA := hA.left ((i + 1) % A.length) (ma _)
  have sB := hB.left ((i + 1) % B.length) (mb _)
  rw [Nat.mod_add_mod] at sA sB
  obtain ⟨x, x1, x2⟩ : ∃ x : Pt, 0 < cr x (dv (gp A i) (gp A ((i + 1) % A.length))) ∧ 0 < cr x (dv (gp A i) (gp B ((i + 1) % B.length))) := by
    by_cases i0 : i = 0
    · subst i0
      rw [show (0 + 1) % A.length = 1 by rw [Nat.zero_add]; exact Nat.mod_eq_of_lt (by omega), show (0 + 1) % B.length = 1 by rw [Nat.zero_add]; exact Nat.mod_eq_of_lt (by omega)]
      refine lex_half (lex_lp.mp ?_) (lex_lp.mp ?_)
      · exact (hA.least _ (hA.pt (i := 1) (by omega))).resolve_left fun z => hA.once 0 1 (by omega) (by omega) z.symm
      · rw [hA.head hB]
        exact (hB.least _ (hB.pt (i := 1) (by omega))).resolve_left fun z => hB.once 0 1 (by omega) (by omega) z.symm
    · have p1 := hA.bend (i - 1) (by omega)
      have p2 := hB.bend (i - 1) (by omega)
      rw [show i - 1 + 1 = i by omega, show i - 1 + 2 = i + 1 by omega, turn_cr] at p1 p2
      rw [Nat.mod_eq_of_lt ha] at p1
      rw [Nat.mod_eq_of_lt hb, ← e i (Nat.le_refl i), ← e (i - 1) (by omega)] at p2
      exact ⟨_, p1, p2⟩
  exact next_eq (lA _ (hB.pt (mb _))) (lB _ (hA.pt (ma _))) x1 x2 ba bb (sA _ (hB.pt (mb _))) (sB _ (hA.pt (ma _)))
theorem RR.all (hA : RR A P) (hB : RR B P) : ∀ i, i < A.length → i < B.length → ∀ j, j ≤ i → gp A j = gp B j
  | 0, _, _, j, hj => by rw [show j = 0 by omega]; exact hA.head hB
  | i + 1, ha, hb, j, hj => by
    have r := RR.all hA hB i (by omega) (by omega)
    by_cases e : j = i + 1
    · have n := hA.next hB (i := i) (by omega) (by omega) r
      rw [Nat.mod_eq_of_lt ha, Nat.mod_eq_of_lt hb] at n
      rw [e]; exact n
    · exact r j (by omega)
theorem RR.notlt (hA : RR A P) (hB : RR B P) : ¬ A.length < B.length := fun h => by
  have a3 := hA.len
  have n := hA.next hB (i := A.length - 1) (by omega) (by omega) (hA.all hB _ (by omega) (by omega))
  rw [show A.length - 1 + 1 = A.length by omega, Nat.mod_self, Nat.mod_eq_of_lt h, hA.head hB] at n
  exact hB.once 0 A.length (by omega) h n
theorem list_ext {A B : List Pt} (hl : A.length = B.length) (h : ∀ i, i < A.length → gp A i = gp B i) : A = B := by
  refine List.ext_getElem hl fun i h1 h2 => ?_
  have := h i h1
  unfold gp at this
  rw [List.getD_eq_getElem?_getD, List.getD_eq_getElem?_getD, List.getElem?_eq_getElem h1, List.getElem?_eq_getElem h2] at this
  exact this
theorem RR.uniq (hA : RR A P) (hB : RR B P) : A = B := by
  have h1 := hA.notlt hB
  have h2 := hB.notlt hA
  have a3 := hA.len
  exact list_ext (by omega) fun i hi => hA.all hB (A.length - 1) (by omega) (by omega) i (by omega)
end
theorem RR.imp {cs : List Pt} {P P' : Pt → Prop} (h : RR cs P) (e : ∀ q, P q ↔ P' q) : RR cs P' :=
  ⟨h.len, fun q hq => (e q).mp (h.sub q hq), fun q hq => h.least q ((e q).mpr hq), h.once, h.bend, fun i hi q hq => h.left i hi q ((e q).mpr hq)⟩
theorem ring_iff {cs : List Pt} : IsRing cs ↔ RR cs (· ∈ cs) := by
  constructor
  · intro h
    have h3 := h.len
    refine ⟨h.len, fun q hq => hq, fun q hq => ?_, h.once, h.bend, fun i hi q hq => ?_⟩
    · obtain ⟨i, hi, e⟩ := mem_gp hq
      by_cases z : i = 0
      · left; rw [← e, z]
      · right; rw [← e]; exact h.least i (by omega) hi
    · obtain ⟨j, hj, e⟩ := mem_gp hq
      rw [← e]; exact h.left i hi j hj
  · intro h
    have h3 := h.len
    refine ⟨h.len, fun i h0 hi => ?_, h.once, h.bend, fun i hi j hj => h.left i hi _ (gp_mem hj)⟩
    exact (h.least _ (gp_mem hi)).resolve_left fun z => h.once 0 i h0 hi z.symm
/-- the ring round the points, by the two ways along them sorted -/
def HullOf (ps cs : List Pt) : Prop := ∃ D : List Pt, D.Pairwise lexLt ∧ (∀ q, q ∈ D ↔ q ∈ ps) ∧ cs = hullS D
theorem hull_is {ps cs : List Pt} (h : HullOf ps cs) : (3 ≤ ps.length ∧ cs = ps) ↔ IsRing ps := by
  obtain ⟨D, hs, hm, rfl⟩ := h
  constructor
  · rintro ⟨h3, e⟩
    by_cases d2 : 2 ≤ D.length
    · rcases hull_ring hs d2 with r | ⟨a, b, f⟩
      · rw [e] at r
        exact ring_iff.mpr (r.imp hm)
      · have := f.eq
        rw [e] at this
        rw [this] at h3
        simp at h3
    · have : hullS D = D := by unfold hullS; rw [if_pos (by omega)]
      rw [this] at e
      rw [e] at d2
      omega
  · intro h
    have r := ring_iff.mp h
    have h3 := r.len
    have hd : ∀ i, i < ps.length → gp ps i ∈ D := fun i hi => (hm _).mpr (gp_mem hi)
    have d2 : 2 ≤ D.length := by
      match D, hd with
      | [], hd => exact nomatch hd 0 (by omega)
      | [x], hd => exact absurd ((List.mem_singleton.mp (hd 0 (by omega))).trans (List.mem_singleton.mp (hd 1 (by omega))).symm) (r.once 0 1 (by omega) (by omega))
      | _ :: _ :: _, _ => simp
    refine ⟨h3, ?_⟩
    rcases hull_ring hs d2 with r' | ⟨a, b, f⟩
    · exact RR.uniq (r'.imp hm) r
    · have z := col3 (fun e => lex_irr (by have := f.lt; rw [e] at this; exact this)) (f.flat _ (hd 0 (by omega))) (f.flat _ (hd 1 (by omega))) (f.flat _ (hd 2 (by omega)))
      have := r.bend 0 (by omega)
      rw [Nat.mod_eq_of_lt (by omega), Nat.mod_eq_of_lt (by omega)] at this
      rw [Nat.zero_add, Nat.zero_add] at this
      omega
/-! sorted points, some of them several times -/
def lexLe (a b : Pt) : Prop := a = b ∨ lexLt a b
theorem sorted_uniq : ∀ {A B : List Pt}, A.Pairwise lexLt → B.Pairwise lexLt → (∀ q, q ∈ A ↔ q ∈ B) → A = B
  | [], [], _, _, _ => rfl
  | [], b :: B, _, _, h => nomatch (h b).mpr List.mem_cons_self
  | a :: A, [], _, _, h => nomatch (h a).mp List.mem_cons_self
  | a :: A, b :: B, hA, hB, h => by
    have pA := List.pairwise_cons.mp hA
    have pB := List.pairwise_cons.mp hB
    have e : a = b := by
      rcases List.mem_cons.mp ((h a).mp List.mem_cons_self) with z | z
      · exact z
      · rcases List.mem_cons.mp ((h b).mpr List.mem_cons_self) with w | w
        · exact w.symm
        · exact (lex_irr (lex_trans (pB.1 a z) (pA.1 b w))).elim
    subst e
    rw [sorted_uniq pA.2 pB.2 fun q => ?_]
    constructor
    · intro hq
      rcases List.mem_cons.mp ((h q).mp (List.mem_cons_of_mem _ hq)) with z | z
      · have := pA.1 q hq; rw [z] at this; exact (lex_irr this).elim
      · exact z
    · intro hq
      rcases List.mem_cons.mp ((h q).mpr (List.mem_cons_of_mem _ hq)) with z | z
      · have := pB.1 q hq; rw [z] at this; exact (lex_irr this).elim
      · exact z
/-- each once, after t -/
def onceAfter (t : Pt) : List Pt → List Pt
  | [] => []
  | p :: r => if p = t then onceAfter t r else p :: onceAfter p r
def onceAll : List Pt → List Pt
  | [] => []
  | a :: r => a :: onceAfter a r
theorem popW_idem (p : Pt) : ∀ st : List Pt, popW p (popW p st) = popW p st
  | [] => rfl
  | [_] => rfl
  | b :: a :: st => by
    by_cases h : turn a b p ≤ 0
    · rw [show popW p (b :: a :: st) = popW p (a :: st) by rw [popW, if_pos h]]
      exact popW_idem p (a :: st)
    · rw [show popW p (b :: a :: st) = b :: a :: st by rw [popW, if_neg h], popW, if_neg h]
theorem wayGo_once : ∀ (S : List Pt) (t : Pt) (w v : List Pt), popW t v = v → (w = t :: v ∨ (w = [t, t] ∧ v = [])) → wayGo w S = wayGo (t :: v) (onceAfter t S) ∨ ∃ x, wayGo w S = [x, x] ∧ wayGo (t :: v) (onceAfter t S) = [x]
  | [], t, w, v, _, h => by
    rcases h with rfl | ⟨rfl, rfl⟩
    · exact .inl rfl
    · exact .inr ⟨t, rfl, rfl⟩
  | p :: S, t, w, v, hv, h => by
    by_cases e : p = t
    · subst e
      rw [onceAfter, if_pos rfl, wayGo]
      refine wayGo_once S p _ v hv ?_
      rcases h with rfl | ⟨rfl, rfl⟩
      · match v, hv with
        | [], _ => exact .inr ⟨rfl, rfl⟩
        | b :: r, hv =>
          left
          rw [popW, if_pos (by rw [turn_abb]; exact Int.le_refl 0), hv]
      · right
        refine ⟨?_, rfl⟩
        rw [popW, if_pos (by rw [turn_abb]; exact Int.le_refl 0)]
        rfl
    · rw [onceAfter, if_neg e, wayGo, wayGo]
      have same : popW p w = popW p (t :: v) := by
        rcases h with rfl | ⟨rfl, rfl⟩
        · rfl
        · rw [popW, if_pos (by rw [turn_aab]; exact Int.le_refl 0)]
      rw [same]
      exact wayGo_once S p _ _ (popW_idem p _) (.inl rfl)
theorem onceAfter_mem : ∀ (S : List Pt) (t q : Pt), (q = t ∨ q ∈ onceAfter t S) ↔ (q = t ∨ q ∈ S)
  | [], t, q => Iff.rfl
  | p :: S, t, q => by
    by_cases e : p = t
    · subst e
      rw [onceAfter, if_pos rfl, onceAfter_mem S p q, List.mem_cons]
      exact ⟨fun h => h.imp id .inr, fun h => h.elim .inl fun z => z.elim .inl .inr⟩
    · rw [onceAfter, if_neg e, List.mem_cons, List.mem_cons, onceAfter_mem S p q]
theorem onceAfter_sorted {R : Pt → Pt → Prop} (tr : ∀ a b c, R a b → R b c → R a c) : ∀ (S : List Pt) (t : Pt), (t :: S).Pairwise (fun a b => a = b ∨ R a b) → (t :: onceAfter t S).Pairwise R
  | [], t, _ => List.pairwise_singleton _ _
  | p :: S, t, h => by
    have h1 := List.pairwise_cons.mp h
    have h2 := List.pairwise_cons.mp h1.2
    by_cases e : p = t
    · subst e
      rw [onceAfter, if_pos rfl]
      exact onceAfter_sorted tr S p h1.2
    · have r := onceAfter_sorted tr S p h1.2
      rw [onceAfter, if_neg e]
      refine List.pairwise_cons.mpr ⟨fun q hq => ?_, r⟩
      have tp : R t p := (h1.1 p List.mem_cons_self).resolve_left fun z => e z.symm
      rcases List.mem_cons.mp hq with rfl | z
      · exact tp
      · exact tr _ _ _ tp ((List.pairwise_cons.mp r).1 q z)
theorem onceAll_mem (S : List Pt) (q : Pt) : q ∈ onceAll S ↔ q ∈ S := by
  cases S with
  | nil => exact Iff.rfl
  | cons a r => rw [onceAll, List.mem_cons, List.mem_cons]; exact onceAfter_mem r a q
theorem onceAll_sorted {R : Pt → Pt → Prop} (tr : ∀ a b c, R a b → R b c → R a c) {S : List Pt} (h : S.Pairwise (fun a b => a = b ∨ R a b)) : (onceAll S).Pairwise R := by
  cases S with
  | nil => exact .nil
  | cons a r => exact onceAfter_sorted tr r a h
theorem way_once {S : List Pt} (h : 2 ≤ (wayGo [] (onceAll S)).length) : wayGo [] S = wayGo [] (onceAll S) := by
  cases S with
  | nil => rfl
  | cons a r =>
    have q := wayGo_once r a [a] [] rfl (.inl rfl)
    have e1 : wayGo [] (a :: r) = wayGo [a] r := rfl
    have e2 : wayGo [] (onceAll (a :: r)) = wayGo [a] (onceAfter a r) := rfl
    rw [e2] at h ⊢
    rw [e1]
    rcases q with z | ⟨x, _, z⟩
    · exact z
    · rw [z] at h; simp at h
/-- what the program does with the sorted spots -/
def hullP (S : List Pt) : List Pt := if S.length < 2 then S else (way S).dropLast ++ (way S.reverse).dropLast
theorem hull_spots {S ps : List Pt} (hs : S.Pairwise lexLe) (hm : ∀ q, q ∈ S ↔ q ∈ ps) (h1 : (∀ p ∈ ps, ∀ q ∈ ps, p = q) → S.length ≤ 1) : HullOf ps (hullP S) := by
  by_cases d2 : 2 ≤ (onceAll S).length
  · have sD : (onceAll S).Pairwise lexLt := onceAll_sorted (R := lexLt) (fun _ _ _ x y => lex_trans x y) hs
    have sR : (onceAll S.reverse).Pairwise (fun a b => lexLt b a) := onceAll_sorted (R := fun a b => lexLt b a) (fun _ _ _ x y => lex_trans y x) (by
      rw [List.pairwise_reverse]
      exact hs.imp fun h => h.imp Eq.symm id)
    have eR : (onceAll S.reverse) = (onceAll S).reverse := by
      have : (onceAll S.reverse).reverse = onceAll S := sorted_uniq (by rw [List.pairwise_reverse]; exact sR) sD fun q => by
        rw [List.mem_reverse, onceAll_mem, List.mem_reverse, onceAll_mem]
      rw [← this, List.reverse_reverse]
    have w1 := way_once (S := S) (way_ok sD d2).len
    have w2 := way_once (S := S.reverse) (by rw [eR]; exact (back_ok sD d2).len)
    rw [eR] at w2
    have l2 : ¬ S.length < 2 := fun z => by
      match S, z, d2 with
      | [], _, d2 => simp [onceAll] at d2
      | [_], _, d2 => simp [onceAll, onceAfter] at d2
      | _ :: _ :: _, z, _ => simp at z; omega
    refine ⟨onceAll S, sD, fun q => (onceAll_mem S q).trans (hm q), ?_⟩
    unfold hullP hullS way
    rw [if_neg l2, if_neg (by omega), w1, w2]
  · have all : ∀ p ∈ ps, ∀ q ∈ ps, p = q := fun p hp q hq => by
      have hp' := (onceAll_mem S p).mpr ((hm p).mpr hp)
      have hq' := (onceAll_mem S q).mpr ((hm q).mpr hq)
      generalize onceAll S = D at *
      match D, d2, hp', hq' with
      | [x], _, h1, h2 => rw [List.mem_singleton.mp h1, List.mem_singleton.mp h2]
      | _ :: _ :: _, d2, _, _ => simp at d2
    have l1 := h1 all
    refine ⟨S, ?_, hm, ?_⟩
    · match S, l1 with
      | [], _ => exact .nil
      | [x], _ => exact List.pairwise_singleton _ _
      | _ :: _ :: _, l1 => simp at l1
    · unfold hullP hullS
      rw [if_pos (by omega)]
end HC

/-! The rope as those places whose points are corners of the ring round the hill. -/
namespace HC
theorem pw_gp {l : List Pt} {R : Pt → Pt → Prop} (h : ∀ i j, i < j → j < l.length → R (gp l i) (gp l j)) : l.Pairwise R := by
  rw [List.pairwise_iff_getElem]
  intro i j hi hj hij
  have := h i j hij hj
  unfold gp at this
  rw [List.getD_eq_getElem?_getD, List.getD_eq_getElem?_getD, List.getElem?_eq_getElem hi, List.getElem?_eq_getElem hj] at this
  exact this
theorem hill_sorted {ps : List Pt} (h : Hill ps) : ps.Pairwise lexLt := pw_gp fun i j hij hj => .inl (h.lt hij hj)
def ropeF (ps cs : List Pt) : List Nat := (List.range ps.length).filter fun i => decide (gp ps i ∈ cs)
structure RopeN (ps : List Pt) (ks : List Nat) : Prop where
  len : 3 ≤ ks.length
  len2 : ks.length ≤ ps.length
  first : ks.getD 0 0 = 0
  last : ks.getD (ks.length - 1) 0 = ps.length - 1
  rise : ∀ i, i + 1 < ks.length → ks.getD i 0 < ks.getD (i + 1) 0
  bend : ∀ i, i + 2 < ks.length → turn (gp ps (ks.getD i 0)) (gp ps (ks.getD (i + 1) 0)) (gp ps (ks.getD (i + 2) 0)) < 0
  under : ∀ i, i + 1 < ks.length → ∀ j, j < ps.length → turn (gp ps (ks.getD i 0)) (gp ps (ks.getD (i + 1) 0)) (gp ps j) ≤ 0
theorem turn_cba (a b c : Pt) : turn c b a = - turn a b c := by unfold turn; grind
theorem rope_ok {ps cs : List Pt} (hH : Hill ps) (h : HullOf ps cs) : RopeN ps (ropeF ps cs) := by
  obtain ⟨D, hs, hm, rfl⟩ := h
  obtain rfl : D = ps := sorted_uniq hs (hill_sorted hH) hm
  have h3 := hH.len
  have A := way_ok hs (by omega)
  have B := back_ok hs (by omega)
  have eH : hullS D = (wayGo [] D).reverse.dropLast ++ (wayGo [] D.reverse).reverse.dropLast := by
    unfold hullS way
    rw [if_neg (by omega)]
  rw [eH]
  generalize wayGo [] D = st at A
  generalize wayGo [] D.reverse = su at B
  have a2 := A.len
  have b2 := B.len
  have mx : ∀ q ∈ D, q = gp D (D.length - 1) ∨ lexLt q (gp D (D.length - 1)) := fun q hq => by
    obtain ⟨i, hi, e⟩ := mem_gp hq
    by_cases z : i = D.length - 1
    · left; rw [← e, z]
    · right; rw [← e]; exact .inl (hH.lt (by omega) (by omega))
  have mn : ∀ q ∈ D, q = gp D 0 ∨ lexLt (gp D 0) q := fun q hq => by
    obtain ⟨i, hi, e⟩ := mem_gp hq
    by_cases z : i = 0
    · left; rw [← e, z]
    · right; rw [← e]; exact .inl (hH.lt (by omega) hi)
  have inD : ∀ i, i < D.length → gp D i ∈ D := fun i hi => gp_mem hi
  have anti : ∀ {a b : Pt}, (a = b ∨ lexLt a b) → (b = a ∨ lexLt b a) → a = b := fun {a b} x y => by
    rcases x with x | x
    · exact x
    · rcases y with y | y
      · exact y.symm
      · exact (lex_irr (lex_trans x y)).elim
  have st0 : gp st 0 = gp D (D.length - 1) := anti (mx _ (A.sub _ (gp_mem (by omega)))) (A.top _ (inD _ (by omega)))
  have stm : gp st (st.length - 1) = gp D 0 := anti ((A.bot _ (inD 0 (by omega))).imp Eq.symm id) ((mn _ (A.sub _ (gp_mem (by omega)))).imp Eq.symm id)
  have su0 : gp su 0 = gp D 0 := anti ((B.top _ (inD 0 (by omega))).imp Eq.symm id) ((mn _ (B.sub _ (gp_mem (by omega)))).imp Eq.symm id)
  have suk : gp su (su.length - 1) = gp D (D.length - 1) := anti (mx _ (B.sub _ (gp_mem (by omega)))) (B.bot _ (inD _ (by omega)))
  have yf := hH.first
  have yl := hH.last
  have xl := hH.lt (i := 0) (j := D.length - 1) (by omega) (by omega)
  -- the way there has its two ends alone
  have m1 : st.length = 2 := by
    by_cases z : st.length = 2
    · exact z
    · exfalso
      have u1 := A.up (st.length - 2) (by omega)
      rw [show st.length - 2 + 1 = st.length - 1 by omega, stm] at u1
      have u2 : lexLt (gp st (st.length - 2)) (gp st 0) := chain_lt (R := lexLt) lex_trans A.up (by omega) (by omega)
      rw [st0] at u2
      have l := A.left (st.length - 2) (by omega) _ (inD (D.length - 1) (by omega))
      rw [show st.length - 2 + 1 = st.length - 1 by omega, stm] at l
      obtain ⟨i, hi, e⟩ := mem_gp (A.sub _ (gp_mem (show st.length - 2 < st.length by omega)))
      rw [← e] at u1 u2 l
      have hy := hH.high i (by
        by_cases c : i = 0
        · rw [c] at u1; exact (lex_irr u1).elim
        · omega) (by
        by_cases c : i = D.length - 1
        · rw [c] at u2; exact (lex_irr u2).elim
        · omega)
      unfold turn at l
      rw [yf, yl] at l
      have p := Int.mul_pos (show 0 < (gp D i).2 by omega) (show 0 < (gp D (D.length - 1)).1 - (gp D 0).1 by omega)
      have e2 : ((gp D i).1 - (gp D 0).1) * (0 - 0) - ((gp D i).2 - 0) * ((gp D (D.length - 1)).1 - (gp D 0).1) = - ((gp D i).2 * ((gp D (D.length - 1)).1 - (gp D 0).1)) := by grind
      omega
  have mem : ∀ q, q ∈ st.reverse.dropLast ++ su.reverse.dropLast ↔ q ∈ su := fun q => by
    match st, m1, stm with
    | [x, y], _, e =>
      have ey : y = gp D 0 := e
      match su, b2, su0 with
      | u :: r, _, e0 =>
        have eu : u = gp D 0 := e0
        rw [List.reverse_cons, List.dropLast_concat, ey, ← eu]
        simp [or_comm]
  have sortU : su.Pairwise lexLt := pw_gp fun i j hij hj => chain_lt (R := fun a b => lexLt b a) (fun x y => lex_trans y x) B.up hij hj
  generalize ecs : st.reverse.dropLast ++ su.reverse.dropLast = cs at mem
  have e1 : (List.range D.length).map (gp D) = D := list_ext (by simp) fun i hi => by
    have hi' : i < D.length := by simpa using hi
    unfold gp
    rw [List.getD_eq_getElem?_getD, List.getElem?_map, List.getElem?_range hi']
    rfl
  have e2 : (ropeF D cs).map (gp D) = su := by
    have : (ropeF D cs).map (gp D) = D.filter fun q => decide (q ∈ cs) := by
      unfold ropeF
      conv => rhs; rw [← e1]
      rw [List.filter_map]
      rfl
    rw [this]
    refine sorted_uniq (hs.filter _) sortU fun q => ?_
    rw [List.mem_filter, decide_eq_true_iff, mem]
    exact ⟨fun z => z.2, fun z => ⟨B.sub q z, z⟩⟩
  have lk : (ropeF D cs).length = su.length := by rw [← e2, List.length_map]
  have inR : ∀ i, i < (ropeF D cs).length → (ropeF D cs).getD i 0 < D.length := fun i hi => by
    have : (ropeF D cs).getD i 0 ∈ ropeF D cs := by
      rw [List.getD_eq_getElem?_getD, List.getElem?_eq_getElem hi]
      exact List.getElem_mem hi
    exact List.mem_range.mp (List.mem_filter.mp this).1
  have gk : ∀ i, i < (ropeF D cs).length → gp D ((ropeF D cs).getD i 0) = gp su i := fun i hi => by
    conv => rhs; rw [← e2]
    unfold gp
    rw [List.getD_eq_getElem?_getD (l := List.map _ _), List.getElem?_map, List.getD_eq_getElem?_getD (l := ropeF D cs), List.getElem?_eq_getElem hi]
    rfl
  have inj : ∀ i j, i < D.length → j < D.length → gp D i = gp D j → i = j := fun i j hi hj e => by
    by_cases c : i < j
    · have := hH.lt c hj; rw [e] at this; omega
    · by_cases c2 : j < i
      · have := hH.lt c2 hi; rw [e] at this; omega
      · omega
  have pk : (ropeF D cs).Pairwise (· < ·) := List.pairwise_lt_range.filter _
  have len3 : 3 ≤ su.length := by
    by_cases z : su.length = 2
    · exfalso
      have l := B.left 0 (by omega) _ (inD 1 (by omega))
      rw [z] at suk
      rw [su0, show (0 : Nat) + 1 = 2 - 1 by rfl, suk] at l
      have hy := hH.high 1 (by omega) (by omega)
      unfold turn at l
      rw [yf, yl] at l
      have p := Int.mul_pos (show 0 < (gp D 1).2 by omega) (show 0 < (gp D (D.length - 1)).1 - (gp D 0).1 by omega)
      have e2 : ((gp D 0).1 - (gp D (D.length - 1)).1) * ((gp D 1).2 - 0) - (0 - 0) * ((gp D 1).1 - (gp D (D.length - 1)).1) = - ((gp D 1).2 * ((gp D (D.length - 1)).1 - (gp D 0).1)) := by grind
      omega
    · omega
  refine ⟨by omega, ?_, ?_, ?_, fun i hi => ?_, fun i hi => ?_, fun i hi j hj => ?_⟩
  · exact Nat.le_trans (List.length_filter_le _ _) (by simp)
  · exact inj _ _ (inR 0 (by omega)) (by omega) ((gk 0 (by omega)).trans su0)
  · refine inj _ _ (inR _ (by omega)) (by omega) ((gk _ (by omega)).trans ?_)
    rw [lk]; exact suk
  · have := List.pairwise_iff_getElem.mp pk i (i + 1) (by omega) hi (by omega)
    rw [List.getD_eq_getElem?_getD, List.getD_eq_getElem?_getD, List.getElem?_eq_getElem (show i < (ropeF D cs).length by omega), List.getElem?_eq_getElem hi]
    exact this
  · rw [gk i (by omega), gk (i + 1) (by omega), gk (i + 2) hi]
    have := B.bend i (by omega)
    rw [turn_cba] at this
    omega
  · rw [gk i (by omega), gk (i + 1) hi]
    have := B.left i (by omega) _ (inD j hj)
    rw [turn_ba] at this
    omega
end HC

namespace K10s
open PySem L2
def top (i : Nat) : Stmt := PySem.Challenge.pw_hillcut_k10_whole_rope.main.body.getD i (.Pass ⟨0, 0, 0, 0⟩)
abbrev s_turned : Stmt := top 4
abbrev s_hull : Stmt := top 6
abbrev s_left_way : Stmt := top 7
abbrev s_check_hill : Stmt := top 9
abbrev s_rope : Stmt := top 10
abbrev s__law_whole : Stmt := top 12
abbrev s__law_at : Stmt := top 13
abbrev s__law_are_points : Stmt := top 14
abbrev s__law_bend : Stmt := top 15
abbrev s__law_hill : Stmt := top 16
abbrev s__law_far_off : Stmt := top 17
abbrev s_law : Stmt := top 18
/-- where the defs stand -/
structure Adr where
  f_turned : Addr
  d_turned : FuncData
  f_hull : Addr
  d_hull : FuncData
  f_left_way : Addr
  d_left_way : FuncData
  f_check_hill : Addr
  d_check_hill : FuncData
  f_rope : Addr
  d_rope : FuncData
  f__law_whole : Addr
  d__law_whole : FuncData
  f__law_at : Addr
  d__law_at : FuncData
  f__law_are_points : Addr
  d__law_are_points : FuncData
  f__law_bend : Addr
  d__law_bend : FuncData
  f__law_hill : Addr
  d__law_hill : FuncData
  f__law_far_off : Addr
  d__law_far_off : FuncData
  f_law : Addr
  d_law : FuncData
  c_HillError : Addr
  c_NoHill : Addr
/-- what the walk asks of the text as the top has made it -/
structure Txt (K : PySem.W.Frag) (mg : Str → Option Value) (a : Adr) : Prop where
  g_turned : mg "turned" = some (.ref a.f_turned)
  F_turned : Fun K "turned" "turned" s_turned a.f_turned a.d_turned
  b_turned : Binds K a.d_turned ["one", "two", "three"] []
  g_hull : mg "hull" = some (.ref a.f_hull)
  F_hull : Fun K "hull" "hull" s_hull a.f_hull a.d_hull
  b_hull : Binds K a.d_hull ["points"] []
  g_left_way : mg "left_way" = some (.ref a.f_left_way)
  F_left_way : Fun K "left_way" "left_way" s_left_way a.f_left_way a.d_left_way
  b_left_way : Binds K a.d_left_way ["spots"] []
  g_check_hill : mg "check_hill" = some (.ref a.f_check_hill)
  F_check_hill : Fun K "check_hill" "check_hill" s_check_hill a.f_check_hill a.d_check_hill
  b_check_hill : Binds K a.d_check_hill ["points"] []
  g_rope : mg "rope" = some (.ref a.f_rope)
  F_rope : Fun K "rope" "rope" s_rope a.f_rope a.d_rope
  b_rope : Binds K a.d_rope ["points"] []
  g__law_whole : mg "_law_whole" = some (.ref a.f__law_whole)
  F__law_whole : Fun K "_law_whole" "_law_whole" s__law_whole a.f__law_whole a.d__law_whole
  b__law_whole : Binds K a.d__law_whole ["_law_found"] []
  g__law_at : mg "_law_at" = some (.ref a.f__law_at)
  F__law_at : Fun K "_law_at" "_law_at" s__law_at a.f__law_at a.d__law_at
  b__law_at : Binds K a.d__law_at ["_law_script", "_law_k"] []
  g__law_are_points : mg "_law_are_points" = some (.ref a.f__law_are_points)
  F__law_are_points : Fun K "_law_are_points" "_law_are_points" s__law_are_points a.f__law_are_points a.d__law_are_points
  b__law_are_points : Binds K a.d__law_are_points ["_law_found"] []
  g__law_bend : mg "_law_bend" = some (.ref a.f__law_bend)
  F__law_bend : Fun K "_law_bend" "_law_bend" s__law_bend a.f__law_bend a.d__law_bend
  b__law_bend : Binds K a.d__law_bend ["_law_one", "_law_two", "_law_three"] []
  g__law_hill : mg "_law_hill" = some (.ref a.f__law_hill)
  F__law_hill : Fun K "_law_hill" "_law_hill" s__law_hill a.f__law_hill a.d__law_hill
  b__law_hill : Binds K a.d__law_hill ["_law_cells", "_law_first", "_law_most"] []
  g__law_far_off : mg "_law_far_off" = some (.ref a.f__law_far_off)
  F__law_far_off : Fun K "_law_far_off" "_law_far_off" s__law_far_off a.f__law_far_off a.d__law_far_off
  b__law_far_off : Binds K a.d__law_far_off ["_law_points", "_law_cell"] []
  g_law : mg "law" = some (.ref a.f_law)
  F_law : Fun K "law" "law" s_law a.f_law a.d_law
  b_law : Binds K a.d_law ["_law_script"] []
  ValueError : mg "ValueError" = none
  sorted : mg "sorted" = none
  range : mg "range" = none
  list : mg "list" = none
  set : mg "set" = none
  len : mg "len" = none
  isinstance : mg "isinstance" = none
  int : mg "int" = none
  reversed : mg "reversed" = none
  bool : mg "bool" = none
  tuple : mg "tuple" = none
  g_HillError : mg "HillError" = some (.ref a.c_HillError)
  k_HillError : Cl K a.c_HillError
  g_NoHill : mg "NoHill" = some (.ref a.c_NoHill)
  k_NoHill : Cl K a.c_NoHill
  s_HillError_HillError : PySem.W.subIn K (.ref a.c_HillError) (.ref a.c_HillError) = some true
  s_HillError_NoHill : PySem.W.subIn K (.ref a.c_HillError) (.ref a.c_NoHill) = some false
  s_NoHill_HillError : PySem.W.subIn K (.ref a.c_NoHill) (.ref a.c_HillError) = some true
  s_NoHill_NoHill : PySem.W.subIn K (.ref a.c_NoHill) (.ref a.c_NoHill) = some true
-- levels: {'turned': 1, 'left_way': 2, 'hull': 3, 'check_hill': 1, 'rope': 4, '_law_whole': 1, '_law_at': 1, '_law_are_points': 2, '_law_bend': 1, '_law_hill': 1, '_law_far_off': 1, 'law': 5}
open HC
def Bp (p : Int × Int) : Prop := Bd p.1 ∧ Bd p.2
theorem getD_all {ps : List (Int × Int)} {P : Int × Int → Prop} (h : ∀ p ∈ ps, P p) {i : Nat} (hi : i < ps.length) : P (ps.getD i (0, 0)) := h _ (HC.gp_mem hi)
def sp_at (K : PySem.W.Frag) : Sp := fun vs H Q _ => ∃ (p : Addr) (ns : List Int) (k : Int), vs = [.ref p, .int k] ∧ SqL K H p (ns.map V.int) ∧ 0 ≤ k ∧ Q (.int (ns.getD k.toNat 0)) H
theorem sc__law_at : FnScope ["_law_script", "_law_k"] ["_law_script", "_law_k"] (defScope s__law_at) := ⟨rfl, rfl, rfl, by decide +kernel, rfl, by decide +kernel, by decide +kernel⟩
theorem ok_at {P : Program} {w : World} {K : PySem.W.Frag} {mg : Str → Option Value} {base : Heap} {a : Adr} (T : Txt K mg a) : FnOk P w K mg base CX0 1 a.f__law_at a.d__law_at ["_law_script", "_law_k"] (sp_at K) := by
  refine T.F__law_at.ok sc__law_at (fun vs H Q E h => ?_) (fun cdv A outer s H vs Q E hr h => ?_)
  · obtain ⟨p, ns, k, rfl, _⟩ := h
    rfl
  · obtain ⟨p, ns, i, rfl, hS, h0, k⟩ := h
    refine ⟨_, (pss_cons (ps_if (pt_cmpR op_lt (pv 1) (pe_callB call_len_seq rfl T.len PySem.boot_len (pa_cons (pv 0) pa_nil)) (nomark _))
        (pss_one (ps_ret (pe_ix ix_list (pv 0) (pv 1) (fun _ _ => rfl))))
        pss_nil)
      (pss_one (ps_ret pe_int))), ?_⟩
    refine ⟨_, rfl, _, rfl, _, _, rfl, Or.inl hS, _, _, rfl, rfl, _, rfl, ite2 (fun hy => ?_) (fun hy => ?_)⟩
    · have hy : i < ((ns.map V.int).length : Int) := of_decide_eq_true hy
      rw [List.length_map] at hy
      exact ⟨_, rfl, _, rfl, _, _, _, _, rfl, rfl, hS, ints_at h0 hy, k⟩
    · have hy : ¬ i < ((ns.map V.int).length : Int) := fun z => hy (decide_eq_true z)
      rw [List.length_map] at hy
      have e : ns.getD i.toNat 0 = 0 := by
        rw [List.getD_eq_getElem?_getD, List.getElem?_eq_none_iff.mpr (by omega)]
        rfl
      rw [e] at k
      exact k

def sp_whole : Sp := fun vs H Q _ => ∃ i : Int, vs = [.int i] ∧ Q (.bl true) H
theorem sc__law_whole : FnScope ["_law_found"] ["_law_found"] (defScope s__law_whole) := ⟨rfl, rfl, rfl, by decide +kernel, rfl, by decide +kernel, by decide +kernel⟩
theorem ok_whole {P : Program} {w : World} {K : PySem.W.Frag} {mg : Str → Option Value} {base : Heap} {a : Adr} (T : Txt K mg a) : FnOk P w K mg base CX0 1 a.f__law_whole a.d__law_whole ["_law_found"] sp_whole := by
  refine T.F__law_whole.ok sc__law_whole (fun vs H Q E h => ?_) (fun cdv A outer s H vs Q E hr h => ?_)
  · obtain ⟨i, rfl, _⟩ := h
    rfl
  · obtain ⟨i, rfl, k⟩ := h
    refine ⟨_, (pss_one (ps_ret (pe_and (pe_callB call_isinst rfl T.isinstance PyProof.Rows.boot_isinstance (pa_cons (pv 0) (pa_cons (pe_bltn (v := .ty "int") rfl T.int (by decide +kernel) rfl) pa_nil))) (pe_one (pe_not (pe_callB call_isinst rfl T.isinstance PyProof.Rows.boot_isinstance (pa_cons (pv 0) (pa_cons (pe_bltn (v := .ty "bool") rfl T.bool (by decide +kernel) rfl) pa_nil)))))))), ?_⟩
    refine ⟨_, rfl, _, _, _, _, rfl, .int i, isT_int_int, _, rfl, iteT ?_⟩
    exact ⟨_, rfl, _, _, _, _, rfl, .int i, isT_int_bool, _, rfl, k⟩

def sp_are : Sp := fun vs H Q _ => ∃ (l : Addr) (as : List Addr) (ps : List (Int × Int)), vs = [.ref l] ∧ LPts H l as ps ∧ Q (.bl true) H
theorem sc__law_are_points : FnScope ["_law_found", "_law_point"] ["_law_found"] (defScope s__law_are_points) := ⟨rfl, rfl, rfl, by decide +kernel, rfl, by decide +kernel, by decide +kernel⟩
theorem ok_are {P : Program} {w : World} {K : PySem.W.Frag} {mg : Str → Option Value} {base : Heap} {a : Adr} (T : Txt K mg a) : FnOk P w K mg base CX0 2 a.f__law_are_points a.d__law_are_points ["_law_found"] sp_are := by
  have G__law_whole : FnOk P w K mg base CX0 1 a.f__law_whole a.d__law_whole ["_law_found"] sp_whole := ok_whole T
  refine T.F__law_are_points.ok sc__law_are_points (fun vs H Q E h => ?_) (fun cdv A outer s H vs Q E hr h => ?_)
  · obtain ⟨l, as, ps, rfl, _⟩ := h
    rfl
  · obtain ⟨l, as, ps, rfl, L, k⟩ := h
    have nd := sc__law_are_points.nd
    refine ⟨_, (pss_cons (ps_if (pt_not (pt_val (pe_callB call_isinst rfl T.isinstance PyProof.Rows.boot_isinstance (pa_cons (pv 0) (pa_cons (pe_bltn (v := .ty "list") rfl T.list (by decide +kernel) rfl) pa_nil)))))
        (pss_one (ps_ret pe_bl))
        pss_nil)
      (pss_cons (ps_for PassesOwn.never rfl (pi_list (pv 0)) (pg_name (i := 1) nd rfl (Or.inl rfl))
        (pss_cons (ps_if (PW.pt (pw_or (pt_not (pt_val (pe_callB call_isinst rfl T.isinstance PyProof.Rows.boot_isinstance (pa_cons (pv 1) (pa_cons (pe_bltn (v := .ty "tuple") rfl T.tuple (by decide +kernel) rfl) pa_nil))))) (pw_or1 (pt_cmpR op_ne (pe_callB call_len_seq rfl T.len PySem.boot_len (pa_cons (pv 1) pa_nil)) pe_int (nomark _)))))
          (pss_one (ps_ret pe_bl))
          pss_nil)
        (pss_one (ps_if (PW.pt (pw_or (pt_not (pt_val (pe_call G__law_whole (hr.mono (by decide)) rfl T.g__law_whole T.F__law_whole.kp T.b__law_whole .nil pass0 (pa_cons (pe_ix ix_tup (pv 1) pe_int (fun _ _ => rfl)) pa_nil)))) (pw_or1 (pt_not (pt_val (pe_call G__law_whole (hr.mono (by decide)) rfl T.g__law_whole T.F__law_whole.kp T.b__law_whole .nil pass0 (pa_cons (pe_ix ix_tup (pv 1) pe_int (fun _ _ => rfl)) pa_nil)))))))
          (pss_one (ps_ret pe_bl))
          pss_nil))))
      (pss_one (ps_ret pe_bl)))), ?_⟩
    refine ⟨_, rfl, _, _, _, _, rfl, .lst L.1, isT_list_list, _, rfl, iteF ?_⟩
    refine ⟨_, rfl, _, rfl, ⟨_, L.sq⟩, for_list (K := K) (a := l) (xs := as.map V.ref) (fun i σ' H' => H' = H ∧ ∃ o, σ' = [some (.ref l), o]) ⟨rfl, none, rfl⟩ (fun i σ' H' _ ⟨e, _⟩ => by rw [e]; exact L.sq) ?_ ?_⟩
    · rintro i x σ' H' hx ⟨rfl, o, rfl⟩
      rw [List.getElem?_map] at hx
      obtain ⟨b, hb, rfl⟩ := Option.map_eq_some_iff.mp hx
      have hi : i < ps.length := by
        rw [← L.2.len]
        exact (List.getElem?_eq_some_iff.mp hb).1
      obtain ⟨b', hb', q⟩ := paired_get L.2 (List.getElem?_eq_getElem hi)
      rw [hb] at hb'
      cases hb'
      refine ⟨_, rfl, _, _, _, _, rfl, .tup q, isT_tuple_tuple, _, rfl, iteF ⟨_, rfl, _, _, rfl, Or.inr (q.sq (K := K)), rfl, _, rfl, iteNS rfl ?_⟩⟩
      refine ⟨_, rfl, _, _, _, _, rfl, rfl, (q.sq (K := K)), rfl, _, rfl, _, rfl, iteF ⟨_, rfl, _, _, _, _, rfl, rfl, (q.sq (K := K)), rfl, _, rfl, _, rfl, iteF ?_⟩⟩
      exact ⟨rfl, _, rfl⟩
    · rintro σ' H' ⟨rfl, o, rfl⟩
      exact k

def sp_far : Sp := fun vs H Q _ => ∃ (l : Addr) (as : List Addr) (ps : List (Int × Int)) (c : Int), vs = [.ref l, .int c] ∧ LPts H l as ps ∧ ps.length ≤ 100 ∧ (∀ p ∈ ps, -100000 ≤ p.1 ∧ p.1 ≤ 100000 ∧ -100000 ≤ p.2 ∧ p.2 ≤ 100000) ∧
  ∀ (l' : Addr) (as' : List Addr) (fv : Int) (H' : Hp), Same H H' → 1 ≤ fv → fv ≤ 10 ^ 30 → LPts H' l' as' (ps.map fun p => (p.1 * fv, p.2 * fv)) → Q (.ref l') H'
theorem sc__law_far_off : FnScope ["_law_points", "_law_cell", "_law_far"] ["_law_points", "_law_cell"] (defScope s__law_far_off) := ⟨rfl, rfl, rfl, by decide +kernel, rfl, by decide +kernel, by decide +kernel⟩
theorem cmp__law_far_off_0 : CompOk ["_law_points", "_law_cell", "_law_far"] (defScope s__law_far_off) ["_law_point", "_law_far"] (lcScope (nthS (defBody s__law_far_off) 1)) 0 "_law_point" [none, some 2] :=
  ⟨rfl, by decide +kernel, by decide +kernel, by decide +kernel, by decide +kernel, rfl, by decide +kernel, by decide +kernel⟩
theorem ok_far {P : Program} {w : World} {K : PySem.W.Frag} {mg : Str → Option Value} {base : Heap} {a : Adr} (T : Txt K mg a) : FnOk P w K mg base CX0 1 a.f__law_far_off a.d__law_far_off ["_law_points", "_law_cell"] sp_far := by
  refine T.F__law_far_off.ok sc__law_far_off (fun vs H Q E h => ?_) (fun cdv A outer s H vs Q E hr h => ?_)
  · obtain ⟨l, as, ps, c, rfl, _⟩ := h
    rfl
  · obtain ⟨l, as, ps, c, rfl, L, hlen, bd, k⟩ := h
    have nd := sc__law_far_off.nd
    refine ⟨_, (pss_cons (ps_set (i := 2) nd rfl (Or.inr rfl) (pe_ix ix_list (pe_lst (pa_cons pe_int (pa_cons (pe_op op_add pe_int (pe_op op_mod (pv 1) (pe_op op_pow pe_int pe_int))) (pa_cons (pe_op op_pow pe_int pe_int) pa_nil)))) (pe_op op_mod (pv 1) pe_int) (fun _ _ => rfl)))
      (pss_one (ps_ret (pe_lc rfl cmp__law_far_off_0 (pi_list (pv 0)) (fun cl C s H fp => (pe_tup (pa_cons (pe_op op_mulB (pe_ix (ixT_K (K := K) rfl) (pv 0) pe_int (fun _ _ => rfl)) (pv 1)) (pa_cons (pe_op op_mulB (pe_ix (ixT_K (K := K) rfl) (pv 0) pe_int (fun _ _ => rfl)) (pv 1)) pa_nil)))))))), ?_⟩
    obtain ⟨fv, hat, f1, f2⟩ : ∃ fv : Int, atI [V.int 1, V.int (1 + c % 10 ^ 30), V.int (10 ^ 15)] (c % 3) = some (.int fv) ∧ 1 ≤ fv ∧ fv ≤ 10 ^ 30 := by
      have h3 : c % 3 = 0 ∨ c % 3 = 1 ∨ c % 3 = 2 := by omega
      rcases h3 with e | e | e <;> rw [e]
      · exact ⟨1, rfl, by omega, by omega⟩
      · exact ⟨_, rfl, by omega, by omega⟩
      · exact ⟨10 ^ 15, rfl, by omega, by omega⟩
    refine ⟨_, rfl, _, _, rfl, rfl, ⟨by decide, by decide, by decide⟩, _, _, rfl, rfl, (by show (0 : Int) < 10 ^ 30; decide), _, _, rfl, rfl, _, _, rfl, rfl, ⟨by decide, by decide, by decide⟩, (by show 3 ≤ sizeLine; decide), fun m hm => ⟨_, rfl, _, _, rfl, rfl, (by show (0 : Int) < 3; decide), _, _, _, _, rfl, rfl, SqL.here, hat, ?_⟩⟩
    have sm0 : Same H _ := Same.upd (o := .lst [V.int 1, V.int (1 + c % 10 ^ 30), V.int (10 ^ 15)]) hm
    have L1 := L.same sm0
    refine ⟨_, rfl, _, rfl, ⟨_, L1.sq⟩, ?_⟩
    refine lc_list (K := K) (a := l) (xs := as.map V.ref) (fun D i ys H' => ∃ bs, ys = bs.map V.ref ∧ Same (upd H m (.lst [V.int 1, V.int (1 + c % 10 ^ 30), V.int (10 ^ 15)])) H' ∧ H' D = some (.lst ys) ∧ PtsAt H' bs ((ps.take i).map fun p => (p.1 * fv, p.2 * fv)))
      (fun D hD => ⟨[], rfl, Same.upd hD, upd_same, .nil⟩) (fun D i ys H' _ ⟨bs, _, sm, h1, _⟩ => ⟨h1, (L1.same sm).sq⟩) ?_ ?_
    · rintro D i x ys H' hD hx ⟨bs, rfl, sm, hDl, hp⟩ hi
      rw [List.getElem?_map] at hx
      obtain ⟨b, hb, rfl⟩ := Option.map_eq_some_iff.mp hx
      rw [List.length_map] at hi
      have hip : i < ps.length := by rw [← L.2.len]; exact hi
      obtain ⟨b', hb', q⟩ := paired_get (L1.same sm).2 (List.getElem?_eq_getElem hip)
      rw [hb] at hb'
      cases hb'
      have b0 := bd _ (List.getElem_mem hip)
      refine ⟨_, rfl, _, _, _, _, rfl, rfl, (q.sq (K := K)), rfl, _, rfl, _, _, rfl, rfl, (by unfold CBig; omega), _, rfl, _, _, _, _, rfl, rfl, (q.sq (K := K)), rfl, _, rfl, _, _, rfl, rfl, (by unfold CBig; omega), (by show 2 ≤ sizeLine; decide), fun t ht => ?_⟩
      have Dt : D ≠ t := ne_of_none hDl ht
      have hbl : bs.length ≤ i := by
        have := hp.len
        rw [List.length_map, List.length_take] at this
        omega
      refine LcK.mk (by rw [List.length_map]; exact hi) (by rw [List.length_map, L.2.len]; exact Nat.le_trans hlen (by decide)) (by rw [List.length_map]; exact hbl) (by rw [upd_ne Dt]; exact hDl) ⟨bs ++ [t], by rw [List.map_append]; rfl, ?_, upd_same, ?_⟩
      · intro b2 o e
        rw [upd_ne (ne_of_none e hD), upd_ne (ne_of_none (sm b2 o e) ht)]
        exact sm b2 o e
      · have h1 : PtsAt (upd H' t (.tup [.int (ps[i].1 * fv), .int (ps[i].2 * fv)])) (bs ++ [t]) ((ps.take i).map (fun p => (p.1 * fv, p.2 * fv)) ++ [(ps[i].1 * fv, ps[i].2 * fv)]) := (hp.same (Same.upd ht)).snoc upd_same
        have e : (ps.take (i + 1)).map (fun p : Int × Int => (p.1 * fv, p.2 * fv)) = (ps.take i).map (fun p => (p.1 * fv, p.2 * fv)) ++ [(ps[i].1 * fv, ps[i].2 * fv)] := by
          rw [List.take_add_one, List.getElem?_eq_getElem hip, List.map_append]
          rfl
        rw [e]
        exact h1.wr (by rw [upd_ne Dt]; exact hDl)
    · rintro D ys H' hD ⟨bs, rfl, sm, hDl, hp⟩
      rw [List.length_map, L.2.len, List.take_length] at hp
      exact k D bs fv H' (sm0.trans sm) f1 f2 ⟨hDl, hp⟩

open HC in
def sp_hill (K : PySem.W.Frag) : Sp := fun vs H Q _ => ∃ (c : Addr) (ns : List Int) (first most : Int), vs = [.ref c, .int first, .int most] ∧ SqL K H c (ns.map V.int) ∧ ns.length ≤ 63 ∧ 1 ≤ most ∧ most ≤ 10 ^ 31 ∧
  ∀ (l : Addr) (as : List Addr) (ps : List (Int × Int)) (H' : Hp), Same H H' → LPts H' l as ps → Hill ps → Box ps first (first + 3 * (ns.length : Int) + 4) most → gp ps 0 = (first, 0) → ps.length = (if ns = [] then 3 else ns.length + 2) → Q (.ref l) H'
theorem sc__law_hill : FnScope ["_law_cells", "_law_first", "_law_most", "_law_points", "_law_here", "_law_k"] ["_law_cells", "_law_first", "_law_most"] (defScope s__law_hill) := ⟨rfl, rfl, rfl, by decide +kernel, rfl, by decide +kernel, by decide +kernel⟩
open HC in
theorem ok_hill {P : Program} {w : World} {K : PySem.W.Frag} {mg : Str → Option Value} {base : Heap} {a : Adr} (T : Txt K mg a) : FnOk P w K mg base CX0 1 a.f__law_hill a.d__law_hill ["_law_cells", "_law_first", "_law_most"] (sp_hill K) := by
  refine T.F__law_hill.ok sc__law_hill (fun vs H Q E h => ?_) (fun cdv A outer s H vs Q E hr h => ?_)
  · obtain ⟨c, ns, first, most, rfl, _⟩ := h
    rfl
  · obtain ⟨c, ns, first, most, rfl, hS, hlen, m1, m2, k⟩ := h
    have nd := sc__law_hill.nd
    have hu := hu_of hr
    refine ⟨_, (pss_cons (ps_set (i := 3) nd rfl (Or.inl rfl) (pe_lst (pa_cons (pe_tup (pa_cons (pv 1) (pa_cons pe_int pa_nil))) pa_nil)))
      (pss_cons (ps_set (i := 4) nd rfl (Or.inl rfl) (pv 1))
      (pss_cons (ps_for PassesOwn.never rfl (pi_range1 rfl T.range (pa_cons (pe_callB call_len_seq rfl T.len PySem.boot_len (pa_cons (pv 0) pa_nil)) pa_nil)) (pg_name (i := 5) nd rfl (Or.inl rfl))
        (pss_cons (ps_set (i := 4) nd rfl (Or.inl rfl) (pe_op op_add (pe_op op_add (pv 4) pe_int) (pe_op op_mod (pe_ix ix_list (pv 0) (pv 5) (fun _ _ => rfl)) pe_int)))
        (pss_one (ps_expr (pe_bm F.plainAttrs_list F.slot_list_append F.type_list_append mt_append (pv 3) (pa_cons (pe_tup (pa_cons (pv 4) (pa_cons (pe_op op_add pe_int (pe_op op_mod (pe_op op_add (pe_op op_fdiv (pe_ix ix_list (pv 0) (pv 5) (fun _ _ => rfl)) pe_int) (pe_op op_mulB (pv 5) (pv 5))) (pv 2))) pa_nil))) pa_nil))))))
      (pss_cons (ps_if (pt_cmpR (op_eqI hu) (pv 0) (pe_lst pa_nil) (nomark _))
        (pss_cons (ps_set (i := 4) nd rfl (Or.inl rfl) (pe_op op_add (pv 4) pe_int))
        (pss_one (ps_expr (pe_bm F.plainAttrs_list F.slot_list_append F.type_list_append mt_append (pv 3) (pa_cons (pe_tup (pa_cons (pv 4) (pa_cons (pv 2) pa_nil))) pa_nil)))))
        pss_nil)
      (pss_cons (ps_expr (pe_bm F.plainAttrs_list F.slot_list_append F.type_list_append mt_append (pv 3) (pa_cons (pe_tup (pa_cons (pe_op op_add (pe_op op_add (pv 4) pe_int) (pe_op op_mod (pe_callB call_len_seq rfl T.len PySem.boot_len (pa_cons (pv 0) pa_nil)) pe_int)) (pa_cons pe_int pa_nil))) pa_nil)))
      (pss_one (ps_ret (pv 3)))))))), ?_⟩
    -- a point appended
    have put : ∀ {H' : Hp} {l q : Addr} {as : List Addr} {ps : List (Int × Int)} {x y : Int}, H l = none → Same H H' → LPts H' l as ps → H' q = none →
        Same H (upd (upd H' q (.tup [.int x, .int y])) l (.lst (as.map V.ref ++ [.ref q]))) ∧ LPts (upd (upd H' q (.tup [.int x, .int y])) l (.lst (as.map V.ref ++ [.ref q]))) l (as ++ [q]) (ps ++ [(x, y)]) := by
      intro H' l q as ps x y hl sm L hq
      have L1 := L.same (Same.upd (o := .tup [.int x, .int y]) hq)
      refine ⟨fun b o e => ?_, ?_, ?_⟩
      · rw [upd_ne (ne_of_none e hl), upd_ne (ne_of_none (sm b o e) hq)]
        exact sm b o e
      · rw [upd_same, List.map_append]
        rfl
      · exact (L1.2.snoc (a := q) (p := (x, y)) upd_same).wr L1.1
    refine ⟨_, rfl, (by show 2 ≤ sizeLine; decide), fun q hq => ⟨(by show 1 ≤ sizeLine; decide), fun l hl' => ?_⟩⟩
    have hl : H l = none := (Same.upd hq).free hl'
    refine ⟨_, rfl, ?_⟩
    have sm0 : Same H (upd (upd H q (.tup [.int first, .int 0])) l (.lst [.ref q])) := (Same.upd hq).trans (Same.upd hl')
    have L0 : LPts (upd (upd H q (.tup [.int first, .int 0])) l (.lst [.ref q])) l [q] [(first, 0)] := ⟨upd_same, .cons (Same.upd hl' _ _ upd_same) .nil⟩
    have hn : ((ns.map V.int).length : Int) = (ns.length : Int) := by rw [List.length_map]
    refine ⟨_, rfl, _, _, rfl, Or.inl (sm0.seq hS), _, rfl, by omega, by omega, ?_⟩
    rw [show (((ns.map V.int).length : Int)).toNat = ns.length by omega]
    refine for_range0 (fun i σ' H' => ∃ as ps here o, σ' = [some (.ref c), some (.int first), some (.int most), some (.ref l), some (.int here), o] ∧ Same H H' ∧ LPts H' l as ps ∧ Part ps first here most ∧ Box ps first here most ∧ first ≤ here ∧ here ≤ first + 3 * (i : Int) ∧ ps.length = i + 1)
      ⟨[q], [(first, 0)], first, none, rfl, sm0, L0, Part.start first most, fun p hp => by rw [List.mem_singleton.mp hp]; dsimp only; omega, by omega, by omega, rfl⟩ ?_ ?_
    · rintro i σ' H' hi ⟨as, ps, here, o, rfl, sm, L, PT, BX, b1, b2, hps⟩
      have hS' := sm.seq hS
      have hat : atI (ns.map V.int) (i : Int) = some (.int (ns.getD i 0)) := ints_at (by omega) (by omega)
      refine ⟨_, rfl, _, _, rfl, rfl, _, rfl, _, rfl, _, _, _, _, rfl, rfl, hS', hat, _, _, rfl, rfl, (by show (0 : Int) < 3; decide), _, _, rfl, rfl, ?_⟩
      refine ⟨_, rfl, Or.inl ⟨rfl, _, L.sq⟩, _, rfl, _, rfl, _, rfl, _, _, _, _, rfl, rfl, hS', hat, _, _, rfl, rfl, ⟨by decide, by decide⟩, _, rfl, _, rfl, _, _, rfl, rfl, (by unfold CBig; omega), _, _, rfl, rfl, _, rfl, _, _, rfl, rfl, (by show 0 < most; omega), _, _, rfl, rfl, (by show 2 ≤ sizeLine; decide), fun q2 hq2 => ?_⟩
      have lq : l ≠ q2 := ne_of_none L.1 hq2
      refine ⟨l, as.map V.ref, .ref q2, rfl, rfl, (by rw [upd_ne lq]; exact L.1), (by rw [List.length_map, L.2.len]; exact Nat.lt_of_le_of_lt (show ps.length ≤ 64 by omega) (by decide)), ?_⟩
      obtain ⟨s1, L1⟩ := put (x := here + 1 + ns.getD i 0 % 3) (y := 1 + (ns.getD i 0 / 3 + (i : Int) * (i : Int)) % most) hl sm L hq2
      have z1 := Int.emod_nonneg (ns.getD i 0) (show (3 : Int) ≠ 0 by decide)
      have z2 := Int.emod_lt_of_pos (ns.getD i 0) (show (0 : Int) < 3 by decide)
      have z3 := Int.emod_nonneg (ns.getD i 0 / 3 + (i : Int) * (i : Int)) (show most ≠ 0 by omega)
      have z4 := Int.emod_lt_of_pos (ns.getD i 0 / 3 + (i : Int) * (i : Int)) (show 0 < most by omega)
      refine ⟨as ++ [q2], _, here + 1 + ns.getD i 0 % 3, _, rfl, s1, L1, PT.step (by omega) (by omega) (by omega), BX.snoc (by omega) ⟨?_, ?_, ?_, ?_⟩, by omega, by omega, by rw [List.length_append, hps]; rfl⟩ <;> dsimp only <;> omega
    · rintro σ' H' ⟨as, ps, here, o, rfl, sm, L, PT, BX, b1, b2, hps⟩
      have hS' := sm.seq hS
      refine ⟨_, rfl, (by show 0 ≤ sizeLine; decide), fun z hz => ⟨c, z, ns, [], rfl, rfl, hS'.up hz, .here, _, rfl, ite2 (fun hy => ?_) (fun hy => ?_)⟩⟩
      · have hy : ns = [] := of_decide_eq_true hy
        have sm2 := sm.trans (Same.upd (o := .lst []) hz)
        have L2' := L.same (Same.upd (o := .lst []) hz)
        have hS2 := sm2.seq hS
        have hn0 : ns.length = 0 := by rw [hy]; rfl
        refine ⟨_, rfl, _, _, rfl, rfl, ?_⟩
        refine ⟨_, rfl, Or.inl ⟨rfl, _, L2'.sq⟩, _, rfl, _, rfl, (by show 2 ≤ sizeLine; decide), fun q2 hq2 => ?_⟩
        have lq : l ≠ q2 := ne_of_none L2'.1 hq2
        refine ⟨l, as.map V.ref, .ref q2, rfl, rfl, (by rw [upd_ne lq]; exact L2'.1), (by rw [List.length_map, L.2.len]; exact Nat.lt_of_le_of_lt (show ps.length ≤ 64 by omega) (by decide)), ?_⟩
        obtain ⟨s1, L1⟩ := put (x := here + 2) (y := most) hl sm2 L2' hq2
        have PT1 := PT.step (x := here + 2) (y := most) (by omega) m1 (Int.le_refl _)
        have BX1 : Box (ps ++ [(here + 2, most)]) first (here + 2) most := BX.snoc (by omega) ⟨by dsimp only; omega, by dsimp only; omega, by dsimp only; omega, by dsimp only; omega⟩
        refine ⟨_, rfl, Or.inl ⟨rfl, _, L1.sq⟩, _, rfl, _, _, rfl, rfl, _, rfl, _, _, rfl, Or.inl (s1.seq hS), _, _, rfl, rfl, (by show (0 : Int) < 2; decide), _, _, rfl, rfl, (by show 2 ≤ sizeLine; decide), fun q3 hq3 => ?_⟩
        have lq3 : l ≠ q3 := ne_of_none L1.1 hq3
        refine ⟨l, (as ++ [q2]).map V.ref, .ref q3, rfl, rfl, (by rw [upd_ne lq3]; exact L1.1), (by rw [List.length_map, L1.2.len, List.length_append]; exact Nat.lt_of_le_of_lt (show ps.length + 1 ≤ 65 by omega) (by decide)), ?_⟩
        obtain ⟨s3, L3⟩ := put (x := here + 2 + 1 + ((ns.map V.int).length : Int) % 2) (y := 0) hl s1 L1 hq3
        refine ⟨_, rfl, k l _ _ _ s3 L3 (PT1.hill (by rw [List.length_append]; show 2 ≤ ps.length + 1; omega) (by omega)) (BX1.snoc (by omega) ⟨by dsimp only; omega, by dsimp only; omega, by dsimp only; omega, by dsimp only; omega⟩) ?_ ?_⟩
        · rw [gp_app_left (by rw [List.length_append]; omega), gp_app_left (by omega)]; exact PT.first
        · rw [if_pos hy, List.length_append, List.length_append, hps, hn0]; rfl
      · have hy : ¬ ns = [] := fun z => hy (decide_eq_true z)
        have hn1 : 1 ≤ ns.length := by
          cases ns with
          | nil => exact absurd rfl hy
          | cons x r => simp
        have sm2 := sm.trans (Same.upd (o := .lst []) hz)
        have L2' := L.same (Same.upd (o := .lst []) hz)
        refine ⟨_, rfl, Or.inl ⟨rfl, _, L2'.sq⟩, _, rfl, _, _, rfl, rfl, _, rfl, _, _, rfl, Or.inl (sm2.seq hS), _, _, rfl, rfl, (by show (0 : Int) < 2; decide), _, _, rfl, rfl, (by show 2 ≤ sizeLine; decide), fun q3 hq3 => ?_⟩
        have lq3 : l ≠ q3 := ne_of_none L2'.1 hq3
        refine ⟨l, as.map V.ref, .ref q3, rfl, rfl, (by rw [upd_ne lq3]; exact L2'.1), (by rw [List.length_map, L.2.len]; exact Nat.lt_of_le_of_lt (show ps.length ≤ 64 by omega) (by decide)), ?_⟩
        obtain ⟨s3, L3⟩ := put (x := here + 1 + ((ns.map V.int).length : Int) % 2) (y := 0) hl sm2 L2' hq3
        refine ⟨_, rfl, k l _ _ _ s3 L3 (PT.hill (by omega) (by omega)) (BX.snoc (by omega) ⟨by dsimp only; omega, by dsimp only; omega, by dsimp only; omega, by dsimp only; omega⟩) ?_ ?_⟩
        · rw [gp_app_left (by omega)]; exact PT.first
        · rw [if_neg hy, List.length_append, hps]; rfl

def sp_bend : Sp := fun vs H Q _ => ∃ (p q r : Addr) (a b c : Int × Int), vs = [.ref p, .ref q, .ref r] ∧ PtAt H p a ∧ PtAt H q b ∧ PtAt H r c ∧ Bp a ∧ Bp b ∧ Bp c ∧ Q (.int (HC.turn a b c)) H
theorem sc__law_bend : FnScope ["_law_one", "_law_two", "_law_three", "_law_up"] ["_law_one", "_law_two", "_law_three"] (defScope s__law_bend) := ⟨rfl, rfl, rfl, by decide +kernel, rfl, by decide +kernel, by decide +kernel⟩
theorem ok_bend {P : Program} {w : World} {K : PySem.W.Frag} {mg : Str → Option Value} {base : Heap} {a : Adr} (T : Txt K mg a) : FnOk P w K mg base CX0 1 a.f__law_bend a.d__law_bend ["_law_one", "_law_two", "_law_three"] sp_bend := by
  refine T.F__law_bend.ok sc__law_bend (fun vs H Q E h => ?_) (fun cdv A outer s H vs Q E hr h => ?_)
  · obtain ⟨p, q, r, x, y, z, rfl, _⟩ := h
    rfl
  · obtain ⟨p, q, r, x, y, z, rfl, hp, hq, hr', ⟨b1, b2⟩, ⟨b3, b4⟩, ⟨b5, b6⟩, k⟩ := h
    have nd := sc__law_bend.nd
    refine ⟨_, (pss_cons (ps_set (i := 3) nd rfl (Or.inl rfl) (pe_op op_mulB (pe_op op_sub (pe_ix ix_tup (pv 1) pe_int (fun _ _ => rfl)) (pe_ix ix_tup (pv 0) pe_int (fun _ _ => rfl))) (pe_op op_sub (pe_ix ix_tup (pv 2) pe_int (fun _ _ => rfl)) (pe_ix ix_tup (pv 0) pe_int (fun _ _ => rfl)))))
      (pss_one (ps_ret (pe_op op_sub (pv 3) (pe_op op_mulB (pe_op op_sub (pe_ix ix_tup (pv 1) pe_int (fun _ _ => rfl)) (pe_ix ix_tup (pv 0) pe_int (fun _ _ => rfl))) (pe_op op_sub (pe_ix ix_tup (pv 2) pe_int (fun _ _ => rfl)) (pe_ix ix_tup (pv 0) pe_int (fun _ _ => rfl)))))))), ?_⟩
    refine ⟨_, rfl, _, _, _, _, rfl, rfl, (hq.sq (K := K)), rfl, _, rfl, _, _, _, _, rfl, rfl, (hp.sq (K := K)), rfl, _, _, rfl, rfl, _, rfl, _, _, _, _, rfl, rfl, (hr'.sq (K := K)), rfl, _, rfl, _, _, _, _, rfl, rfl, (hp.sq (K := K)), rfl, _, _, rfl, rfl, _, _, rfl, rfl, (by unfold CBig; omega), ?_⟩
    exact ⟨_, rfl, _, rfl, _, _, _, _, rfl, rfl, (hq.sq (K := K)), rfl, _, rfl, _, _, _, _, rfl, rfl, (hp.sq (K := K)), rfl, _, _, rfl, rfl, _, rfl, _, _, _, _, rfl, rfl, (hr'.sq (K := K)), rfl, _, rfl, _, _, _, _, rfl, rfl, (hp.sq (K := K)), rfl, _, _, rfl, rfl, _, _, rfl, rfl, (by unfold CBig; omega), _, _, rfl, rfl, k⟩

open HC in
/-- point [12]: the places of the rope's corners -/
structure Rope (ps : List (Int × Int)) (ks : List Int) : Prop where
  len : 3 ≤ ks.length
  len2 : ks.length ≤ ps.length
  first : ks.getD 0 0 = 0
  last : ks.getD (ks.length - 1) 0 = (ps.length : Int) - 1
  rise : ∀ i, i + 1 < ks.length → ks.getD i 0 < ks.getD (i + 1) 0
  bend : ∀ i, i + 2 < ks.length → turn (gp ps (ks.getD i 0).toNat) (gp ps (ks.getD (i + 1) 0).toNat) (gp ps (ks.getD (i + 2) 0).toNat) < 0
  under : ∀ i, i + 1 < ks.length → ∀ j : Nat, ks.getD i 0 ≤ j → (j : Int) < ks.getD (i + 1) 0 → turn (gp ps (ks.getD i 0).toNat) (gp ps (ks.getD (i + 1) 0).toNat) (gp ps j) ≤ 0
theorem Rope.up {ps : List (Int × Int)} {ks : List Int} (h : Rope ps ks) : ∀ i j, i ≤ j → j < ks.length → ks.getD i 0 ≤ ks.getD j 0 := by
  intro i j hij
  induction j with
  | zero => intro _; rw [show i = 0 by omega]; exact Int.le_refl _
  | succ j ih =>
    intro hj
    by_cases e : i = j + 1
    · rw [e]; exact Int.le_refl _
    · have := ih (by omega) (by omega)
      have := h.rise j hj
      omega
theorem Rope.range {ps : List (Int × Int)} {ks : List Int} (h : Rope ps ks) {i : Nat} (hi : i < ks.length) : 0 ≤ ks.getD i 0 ∧ ks.getD i 0 < ps.length := by
  have h1 := h.up 0 i (by omega) hi
  have h2 := h.up i (ks.length - 1) (by omega) (by omega)
  have := h.first
  have := h.last
  omega
def sp_rope (c : Addr) : Sp := fun vs H Q E => ∃ (l : Addr) (as : List Addr) (ps : List (Int × Int)), vs = [.ref l] ∧ LPts H l as ps ∧ (∀ p ∈ ps, Bp p) ∧ ps.length ≤ 64 ∧
  (¬ HC.Hill ps → ∀ H', Same H H' → E (.ref c) none H') ∧ (HC.Hill ps → ∀ l' ks H', Same H H' → H' l' = some (.lst (ks.map V.int)) → Rope ps ks → Q (.ref l') H')

def sp_turned : Sp := fun vs H Q _ => ∃ (p q r : Addr) (a b c : Int × Int), vs = [.ref p, .ref q, .ref r] ∧ PtAt H p a ∧ PtAt H q b ∧ PtAt H r c ∧ Bp a ∧ Bp b ∧ Bp c ∧ Q (.int (HC.turn a b c)) H
theorem sc_turned : FnScope ["one", "two", "three"] ["one", "two", "three"] (defScope s_turned) := ⟨rfl, rfl, rfl, by decide +kernel, rfl, by decide +kernel, by decide +kernel⟩
theorem ok_turned {P : Program} {w : World} {K : PySem.W.Frag} {mg : Str → Option Value} {base : Heap} {a : Adr} (T : Txt K mg a) : FnOk P w K mg base CX0 1 a.f_turned a.d_turned ["one", "two", "three"] sp_turned := by
  refine T.F_turned.ok sc_turned (fun vs H Q E h => ?_) (fun cdv A outer s H vs Q E hr h => ?_)
  · obtain ⟨p, q, r, x, y, z, rfl, _⟩ := h
    rfl
  · obtain ⟨p, q, r, x, y, z, rfl, hp, hq, hr', ⟨b1, b2⟩, ⟨b3, b4⟩, ⟨b5, b6⟩, k⟩ := h
    refine ⟨_, (pss_one (ps_ret (pe_op op_sub (pe_op op_mulB (pe_op op_sub (pe_ix ix_tup (pv 1) pe_int (fun _ _ => rfl)) (pe_ix ix_tup (pv 0) pe_int (fun _ _ => rfl))) (pe_op op_sub (pe_ix ix_tup (pv 2) pe_int (fun _ _ => rfl)) (pe_ix ix_tup (pv 0) pe_int (fun _ _ => rfl)))) (pe_op op_mulB (pe_op op_sub (pe_ix ix_tup (pv 1) pe_int (fun _ _ => rfl)) (pe_ix ix_tup (pv 0) pe_int (fun _ _ => rfl))) (pe_op op_sub (pe_ix ix_tup (pv 2) pe_int (fun _ _ => rfl)) (pe_ix ix_tup (pv 0) pe_int (fun _ _ => rfl))))))), ?_⟩
    refine ⟨_, rfl, _, _, _, _, rfl, rfl, (hq.sq (K := K)), rfl, _, rfl, _, _, _, _, rfl, rfl, (hp.sq (K := K)), rfl, _, _, rfl, rfl, _, rfl, _, _, _, _, rfl, rfl, (hr'.sq (K := K)), rfl, _, rfl, _, _, _, _, rfl, rfl, (hp.sq (K := K)), rfl, _, _, rfl, rfl, _, _, rfl, rfl, (by unfold CBig; omega), ?_⟩
    exact ⟨_, rfl, _, _, _, _, rfl, rfl, (hq.sq (K := K)), rfl, _, rfl, _, _, _, _, rfl, rfl, (hp.sq (K := K)), rfl, _, _, rfl, rfl, _, rfl, _, _, _, _, rfl, rfl, (hr'.sq (K := K)), rfl, _, rfl, _, _, _, _, rfl, rfl, (hp.sq (K := K)), rfl, _, _, rfl, rfl, _, _, rfl, rfl, (by unfold CBig; omega), _, _, rfl, rfl, k⟩

/-- point [8]: refused unless a hill -/
def sp_chill (c : Addr) : Sp := fun vs H Q E => ∃ (l : Addr) (as : List Addr) (ps : List (Int × Int)), vs = [.ref l] ∧ LPts H l as ps ∧ ps.length ≤ 1000 ∧ (HC.Hill ps → Q .non H) ∧ (¬ HC.Hill ps → E (.ref c) none H)
theorem sc_check_hill : FnScope ["points", "place"] ["points"] (defScope s_check_hill) := ⟨rfl, rfl, rfl, by decide +kernel, rfl, by decide +kernel, by decide +kernel⟩
open HC in
theorem ok_chill {P : Program} {w : World} {K : PySem.W.Frag} {mg : Str → Option Value} {base : Heap} {a : Adr} (T : Txt K mg a) : FnOk P w K mg base (Fly P w) 1 a.f_check_hill a.d_check_hill ["points"] (sp_chill a.c_NoHill) := by
  refine T.F_check_hill.okX sc_check_hill (fun vs H Q E h => ?_) (fun cdv A outer s H vs Q E hr h => ?_)
  · obtain ⟨l, as, ps, rfl, _⟩ := h
    rfl
  · obtain ⟨l, as, ps, rfl, L, hlen, k, k2⟩ := h
    have nd := sc_check_hill.nd
    have hn : ((as.map V.ref).length : Int) = (ps.length : Int) := by rw [List.length_map, L.2.len]
    have no : ∀ t : V, ¬ Hill ps → ([t] : List V).length ≤ sizeLine ∧ E (.ref a.c_NoHill) none H := fun t h => ⟨(by show 1 ≤ sizeLine; decide), k2 h⟩
    refine ⟨_, (pss_cons (ps_if (PW.pt (pw_or (pt_cmpR op_lt (pe_callB call_len_seq rfl T.len PySem.boot_len (pa_cons (pv 0) pa_nil)) pe_int (nomark _)) (pw_or (pt_cmpR op_ne (pe_ix ix_tup (pe_ix ix_list (pv 0) pe_int (fun _ _ => rfl)) pe_int (fun _ _ => rfl)) pe_int (nomark _)) (pw_or1 (pt_cmpR op_ne (pe_ix ix_tup (pe_ix ix_list (pv 0) (pe_un un_neg pe_int) (fun _ _ => rfl)) pe_int (fun _ _ => rfl)) pe_int (nomark _))))))
        (pss_one (ps_raise rfl raises_fly T.k_NoHill.ex rfl T.g_NoHill (pa_cons pe_str pa_nil)))
        pss_nil)
      (pss_cons (ps_for PassesOwn.leaving rfl (pi_range2 rfl T.range (pa_cons pe_int (pa_cons (pe_callB call_len_seq rfl T.len PySem.boot_len (pa_cons (pv 0) pa_nil)) pa_nil))) (pg_name (i := 1) nd rfl (Or.inl rfl))
        (pss_one (ps_if (pt_cmpR op_le (pe_ix ix_tup (pe_ix ix_list (pv 0) (pv 1) (fun _ _ => rfl)) pe_int (fun _ _ => rfl)) (pe_ix ix_tup (pe_ix ix_list (pv 0) (pe_op op_sub (pv 1) pe_int) (fun _ _ => rfl)) pe_int (fun _ _ => rfl)) (nomark _))
          (pss_one (ps_raise rfl raises_fly T.k_NoHill.ex rfl T.g_NoHill (pa_cons pe_str pa_nil)))
          pss_nil)))
      (pss_one (ps_for PassesOwn.leaving rfl (pi_range2 rfl T.range (pa_cons pe_int (pa_cons (pe_op op_sub (pe_callB call_len_seq rfl T.len PySem.boot_len (pa_cons (pv 0) pa_nil)) pe_int) pa_nil))) (pg_name (i := 1) nd rfl (Or.inl rfl))
        (pss_one (ps_if (pt_cmpR op_lt (pe_ix ix_tup (pe_ix ix_list (pv 0) (pv 1) (fun _ _ => rfl)) pe_int (fun _ _ => rfl)) pe_int (nomark _))
          (pss_one (ps_raise rfl raises_fly T.k_NoHill.ex rfl T.g_NoHill (pa_cons pe_str pa_nil)))
          pss_nil)))))), ?_⟩
    refine ⟨_, rfl, _, _, rfl, Or.inl L.sq, _, _, rfl, rfl, _, rfl, ite2 (fun hy => iteT ?_) (fun hy => ?_)⟩
    · have hy : ((as.map V.ref).length : Int) < 3 := of_decide_eq_true hy
      exact no _ fun h => by have := h.len; omega
    have h3 : 3 ≤ ps.length := by
      have hy : ¬ ((as.map V.ref).length : Int) < 3 := fun z => hy (decide_eq_true z)
      omega
    obtain ⟨a0, e0, q0⟩ := L.atZ (i := 0) (by omega) (by omega)
    obtain ⟨a1, e1, q1⟩ := L.neg (k := 1) (by omega) (by omega)
    refine ⟨_, rfl, _, _, _, _, rfl, rfl, L.sq, e0, _, _, _, _, rfl, rfl, (q0.sq (K := K)), rfl, rfl, _, rfl, ite2 (fun hy => iteT ?_) (fun hy => ?_)⟩
    · refine no _ fun h => ?_
      rw [Bool.not_eq_true', decide_eq_false_iff_not] at hy
      exact hy (congrArg V.int h.first)
    have y0 : (gp ps 0).2 = 0 := by
      rw [Bool.not_eq_true', decide_eq_false_iff_not, Decidable.not_not] at hy
      exact V.int.inj hy
    refine ⟨_, rfl, _, rfl, _, _, _, _, rfl, rfl, L.sq, e1, _, _, _, _, rfl, rfl, (q1.sq (K := K)), rfl, rfl, _, rfl, ite2 (fun hy => ?_) (fun hy => ?_)⟩
    · refine no _ fun h => ?_
      rw [Bool.not_eq_true', decide_eq_false_iff_not] at hy
      exact hy (congrArg V.int h.last)
    have y1 : (gp ps (ps.length - 1)).2 = 0 := by
      rw [Bool.not_eq_true', decide_eq_false_iff_not, Decidable.not_not] at hy
      exact V.int.inj hy
    refine ⟨_, rfl, _, _, rfl, Or.inl L.sq, _, _, rfl, ⟨by decide, by decide, by omega, by omega⟩, ?_⟩
    rw [show (((as.map V.ref).length : Int) - 1).toNat = ps.length - 1 by omega]
    refine for_range (fun i σ' H' => H' = H ∧ ∃ o, σ' = [some (.ref l), o] ∧ ∀ j, j < i → (gp ps j).1 < (gp ps (j + 1)).1)
      ⟨rfl, none, rfl, fun j hj => by omega⟩ ?_ ?_
    · rintro i σ' H' hi ⟨rfl, o, rfl, r1⟩
      rw [show (1 : Int) + (i : Int) = ((1 + i : Nat) : Int) by omega]
      obtain ⟨a2, e2, q2⟩ := L.at (i := 1 + i) (by omega)
      obtain ⟨a3, e3, q3⟩ := L.atZ (i := ((1 + i : Nat) : Int) - 1) (by omega) (by omega)
      rw [show (((1 + i : Nat) : Int) - 1).toNat = i by omega] at q3
      refine ⟨_, rfl, _, rfl, _, _, _, _, rfl, rfl, L.sq, e2, _, _, _, _, rfl, rfl, (q2.sq (K := K)), rfl, _, rfl, _, rfl, _, _, rfl, rfl, _, _, _, _, rfl, rfl, L.sq, e3, _, _, _, _, rfl, rfl, (q3.sq (K := K)), rfl, _, _, rfl, rfl, _, rfl, ite2 (fun hy => ?_) (fun hy => ?_)⟩
      · have hy : (gp ps (1 + i)).1 ≤ (gp ps i).1 := of_decide_eq_true hy
        refine no _ fun h => ?_
        have := h.rise i (by omega)
        rw [Nat.add_comm i 1] at this
        omega
      have hy : ¬ (gp ps (1 + i)).1 ≤ (gp ps i).1 := fun z => hy (decide_eq_true z)
      refine ⟨rfl, _, rfl, fun j hj => ?_⟩
      by_cases e : j = i
      · rw [e, Nat.add_comm i 1]; omega
      · exact r1 j (by omega)
    · rintro σ' H' ⟨rfl, o, rfl, r1⟩
      refine ⟨_, rfl, _, _, rfl, Or.inl L.sq, _, _, rfl, rfl, _, _, rfl, ⟨by decide, by decide, by omega, by omega⟩, ?_⟩
      rw [show (((as.map V.ref).length : Int) - 1 - 1).toNat = ps.length - 2 by omega]
      refine for_range (fun i σ' H'' => H'' = H' ∧ ∃ o, σ' = [some (.ref l), o] ∧ ∀ j, 0 < j → j ≤ i → 1 ≤ (gp ps j).2)
        ⟨rfl, o, rfl, fun j h0 hj => by omega⟩ ?_ ?_
      · rintro i σ' H' hi ⟨rfl, o, rfl, r2⟩
        rw [show (1 : Int) + (i : Int) = ((1 + i : Nat) : Int) by omega]
        obtain ⟨a2, e2, q2⟩ := L.at (i := 1 + i) (by omega)
        refine ⟨_, rfl, _, rfl, _, _, _, _, rfl, rfl, L.sq, e2, _, _, _, _, rfl, rfl, (q2.sq (K := K)), rfl, _, _, rfl, rfl, _, rfl, ite2 (fun hy => ?_) (fun hy => ?_)⟩
        · have hy : (gp ps (1 + i)).2 < 1 := of_decide_eq_true hy
          refine no _ fun h => ?_
          have := h.high (1 + i) (by omega) (by omega)
          omega
        have hy : ¬ (gp ps (1 + i)).2 < 1 := fun z => hy (decide_eq_true z)
        refine ⟨rfl, _, rfl, fun j h0 hj => ?_⟩
        by_cases e : j = 1 + i
        · rw [e]; omega
        · exact r2 j h0 (by omega)
      · rintro σ' H' ⟨rfl, o, rfl, r2⟩
        exact k ⟨h3, y0, y1, fun i hi => r1 i (by omega), fun i h0 hi => r2 i h0 (by omega)⟩

theorem revIx1 {α : Type} (f : α → V) (x : α) (st : List α) : atI ((x :: st).reverse.map f) (-1) = some (f x) := by
  rw [List.reverse_cons, List.map_append]
  exact atI_last _ _
theorem atI_two {α : Type} (xs : List α) (u v : α) : atI (xs ++ [u] ++ [v]) (-2) = some u := by
  have hl : (xs ++ [u] ++ [v]).length = xs.length + 2 := by simp
  have e : ixN (xs ++ [u] ++ [v]).length (-2) = some xs.length := by
    unfold ixN
    rw [hl, if_neg (by decide), if_pos (by omega)]
    congr 1
    omega
  unfold atI
  rw [e]
  show (xs ++ [u] ++ [v])[xs.length]? = some u
  simp
theorem revIx2 {α : Type} (f : α → V) (x y : α) (st : List α) : atI ((x :: y :: st).reverse.map f) (-2) = some (f y) := by
  rw [List.reverse_cons, List.map_append, List.reverse_cons, List.map_append]
  exact atI_two _ _ _
theorem revLast {α : Type} (f : α → V) (x : α) (st : List α) : ((x :: st).reverse.map f)[((x :: st).reverse.map f).length - 1]? = some (f x) := by
  rw [List.reverse_cons, List.map_append]
  simp
/-- the way at m: the last point told first -/
structure WaySt (H : Hp) (m : Addr) (H' : Hp) (st : List Addr) (ws : List (Int × Int)) : Prop where
  sm : Same H H'
  lk : H' m = some (.lst (st.reverse.map V.ref))
  pts : PtsAt H' st ws
  fm : H m = none
theorem WaySt.pop {H H' : Hp} {m b : Addr} {st : List Addr} {p : Int × Int} {ws : List (Int × Int)} (S : WaySt H m H' (b :: st) (p :: ws)) : WaySt H m (upd H' m (.lst ((b :: st).reverse.map V.ref).dropLast)) st ws := by
  refine ⟨fun c o e => ?_, ?_, ?_, S.fm⟩
  · rw [upd_ne (ne_of_none e S.fm)]
    exact S.sm c o e
  · rw [upd_same, List.reverse_cons, List.map_append]
    show some (HO.lst ((_ ++ [_]).dropLast)) = _
    rw [List.dropLast_concat]
  · cases S.pts with
    | cons _ t => exact PtsAt.wr t S.lk
theorem WaySt.push {H H' : Hp} {m q : Addr} {st : List Addr} {p : Int × Int} {ws : List (Int × Int)} (S : WaySt H m H' st ws) (hq : PtAt H q p) : WaySt H m (upd H' m (.lst (st.reverse.map V.ref ++ [.ref q]))) (q :: st) (p :: ws) := by
  refine ⟨fun c o e => ?_, ?_, ?_, S.fm⟩
  · rw [upd_ne (ne_of_none e S.fm)]
    exact S.sm c o e
  · rw [upd_same, List.reverse_cons, List.map_append]
    rfl
  · exact PtsAt.wr (.cons (hq.same S.sm) S.pts) S.lk
theorem wayGo_snoc (p : Int × Int) : ∀ (l w : List (Int × Int)), HC.wayGo w (l ++ [p]) = p :: HC.popW p (HC.wayGo w l)
  | [], w => rfl
  | q :: l, w => wayGo_snoc p l _
theorem popW_le (p : Int × Int) : ∀ st : List (Int × Int), (HC.popW p st).length ≤ st.length
  | [] => Nat.le_refl _
  | [_] => Nat.le_refl _
  | b :: a :: st => by
    rw [HC.popW]
    split
    · have := popW_le p (a :: st)
      simp only [List.length_cons] at this ⊢
      omega
    · exact Nat.le_refl _
theorem wayGo_le : ∀ (l w : List (Int × Int)), (HC.wayGo w l).length ≤ w.length + l.length
  | [], w => Nat.le_refl _
  | p :: l, w => by
    have h1 := wayGo_le l (p :: HC.popW p w)
    have h2 := popW_le p w
    rw [HC.wayGo]
    simp only [List.length_cons] at h1 ⊢
    omega
/-- the way along the spots -/
def sp_way : Sp := fun vs H Q _ => ∃ (l : Addr) (as : List Addr) (ps : List (Int × Int)), vs = [.ref l] ∧ LPts H l as ps ∧ (∀ p ∈ ps, Bp p) ∧ ps.length ≤ 1000 ∧ ∀ l' bs H', Same H H' → LPts H' l' bs (HC.way ps) → Q (.ref l') H'
theorem sc_left_way : FnScope ["spots", "way", "spot"] ["spots"] (defScope s_left_way) := ⟨rfl, rfl, rfl, by decide +kernel, rfl, by decide +kernel, by decide +kernel⟩
open HC in
theorem ok_way {P : Program} {w : World} {K : PySem.W.Frag} {mg : Str → Option Value} {base : Heap} {a : Adr} (T : Txt K mg a) : FnOk P w K mg base CX0 2 a.f_left_way a.d_left_way ["spots"] sp_way := by
  have G_turned : FnOk P w K mg base CX0 1 a.f_turned a.d_turned ["one", "two", "three"] sp_turned := ok_turned T
  refine T.F_left_way.ok sc_left_way (fun vs H Q E h => ?_) (fun cdv A outer s H vs Q E hr h => ?_)
  · obtain ⟨l, as, ps, rfl, _⟩ := h
    rfl
  · obtain ⟨l, as, ps, rfl, L, bd, hlen, k⟩ := h
    have nd := sc_left_way.nd
    refine ⟨_, (pss_cons (ps_set (i := 1) nd rfl (Or.inl rfl) (pe_lst pa_nil))
      (pss_cons (ps_for PassesOwn.never rfl (pi_list (pv 0)) (pg_name (i := 2) nd rfl (Or.inl rfl))
        (pss_cons (ps_while PassesOwn.never (PW.pt (pw_and (pt_cmpR op_gt (pe_callB call_len_seq rfl T.len PySem.boot_len (pa_cons (pv 1) pa_nil)) pe_int (nomark _)) (pw_and1 (pt_cmpR op_le (pe_call G_turned (hr.mono (by decide)) rfl T.g_turned T.F_turned.kp T.b_turned .nil pass0 (pa_cons (pe_ix ix_list (pv 1) (pe_un un_neg pe_int) (fun _ _ => rfl)) (pa_cons (pe_ix ix_list (pv 1) (pe_un un_neg pe_int) (fun _ _ => rfl)) (pa_cons (pv 2) pa_nil)))) pe_int (nomark _)))))
          (pss_one (ps_expr (pe_bm0 F.plainAttrs_list F.slot_list_pop F.type_list_pop mt_pop (pv 1)))))
        (pss_one (ps_expr (pe_bm F.plainAttrs_list F.slot_list_append F.type_list_append mt_append (pv 1) (pa_cons (pv 2) pa_nil))))))
      (pss_one (ps_ret (pv 1))))), ?_⟩
    refine ⟨(by show 0 ≤ sizeLine; decide), fun m hm => ?_⟩
    have S0 : WaySt H m (upd H m (.lst [])) [] [] := ⟨Same.upd hm, upd_same, .nil, hm⟩
    have hxl : (as.map V.ref).length = ps.length := by rw [List.length_map, L.2.len]
    refine ⟨_, rfl, _, rfl, ⟨_, (L.same S0.sm).sq⟩, for_list (K := K) (a := l) (xs := as.map V.ref) (fun i σ' H' => ∃ st o, σ' = [some (.ref l), some (.ref m), o] ∧ WaySt H m H' st (wayGo [] (ps.take i))) ⟨[], none, rfl, S0⟩ (fun i σ' H' _ ⟨st, o, _, S⟩ => (L.same S.sm).sq) ?_ ?_⟩
    · rintro i x σ' H' hx ⟨st, o, rfl, S⟩
      obtain ⟨q, rfl, hi, hq⟩ := L.nth hx
      have htk : ps.take (i + 1) = ps.take i ++ [ps[i]] := by rw [List.take_add_one, List.getElem?_eq_getElem hi]; rfl
      have bp := bd _ (List.getElem_mem hi)
      refine ⟨fun n σ'' H'' => ∃ st ws, n = st.length ∧ σ'' = [some (.ref l), some (.ref m), some (.ref q)] ∧ WaySt H m H'' st ws ∧ popW ps[i] ws = popW ps[i] (wayGo [] (ps.take i)) ∧ ws.length ≤ 1000 ∧ ∀ r ∈ ws, Bp r,
        ⟨_, st, _, rfl, rfl, S, rfl, ?_, fun r hr => ?_⟩, ?_⟩
      · have := wayGo_le (ps.take i) []
        rw [List.length_take] at this
        simp only [List.length_nil] at this
        omega
      · rcases wayGo_sub _ _ r hr with z | z
        · exact nomatch z
        · exact bd r (List.mem_of_mem_take z)
      rintro n σ'' H'' ⟨st, ws, rfl, rfl, S, eP, hL, hB⟩
      have hsl : st.length = ws.length := S.pts.len
      have fin : popW ps[i] ws = ws → _ := fun e => by
        have S1 := S.push hq
        rw [show ps[i] :: ws = wayGo [] (ps.take (i + 1)) by rw [htk, wayGo_snoc, ← eP, e]] at S1
        exact (⟨q :: st, some (.ref q), rfl, S1⟩ : ∃ st' o, [some (V.ref l), some (.ref m), some (.ref q)] = [some (V.ref l), some (.ref m), o] ∧ WaySt H m (upd H'' m (.lst (st.reverse.map V.ref ++ [.ref q]))) st' (wayGo [] (ps.take (i + 1))))
      have hroom : (st.reverse.map V.ref).length < sizeLine := by
        rw [List.length_map, List.length_reverse]
        exact Nat.lt_of_le_of_lt (show st.length ≤ 1000 by omega) (by decide)
      have hlst : (((st.reverse.map V.ref).length : Nat) : Int) = (ws.length : Int) := by rw [List.length_map, List.length_reverse, hsl]
      have sk : SqL K H'' m (st.reverse.map V.ref) := .of S.lk
      refine ⟨_, rfl, _, _, rfl, Or.inl sk, _, _, rfl, rfl, _, rfl, ite2 (fun hy => ?_) (fun hy => ?_)⟩
      · have hy : (1 : Int) < (((st.reverse.map V.ref).length : Nat) : Int) := of_decide_eq_true hy
        match st, ws, S, sk, eP, hL, hB, fin, hroom, hlst, hy with
        | [], [], _, _, _, _, _, _, _, _, h2 => exact absurd h2 (by simp)
        | [_], _, _, _, _, _, _, _, _, _, h2 => exact absurd h2 (by simp)
        | [], _ :: _, _, _, _, _, _, _, _, h1, _ => simp at h1; omega
        | _ :: _ :: _, [], _, _, _, _, _, _, _, h1, _ => simp at h1; omega
        | _ :: _ :: _, [_], _, _, _, _, _, _, _, h1, _ => simp at h1; omega
        | c :: b :: st, pc :: pb :: ws, S, sk, eP, hL, hB, fin, hroom, hlst, hy =>
        have qc : PtAt H'' c pc := by cases S.pts with | cons x _ => exact x
        have qb : PtAt H'' b pb := by cases S.pts with | cons _ t => cases t with | cons x _ => exact x
        refine ⟨_, rfl, _, rfl, _, _, _, _, rfl, rfl, sk, revIx2 V.ref c b st, _, rfl, _, rfl, _, _, _, _, rfl, rfl, sk, revIx1 V.ref c (b :: st), _, rfl, b, c, q, _, _, _, rfl, qb, qc, hq.same S.sm, hB _ (List.mem_cons_of_mem _ List.mem_cons_self), hB _ List.mem_cons_self, bp, _, _, rfl, rfl, _, rfl, ite2 (fun hz => ?_) (fun hz => ?_)⟩
        · have hz : turn pb pc ps[i] ≤ 0 := of_decide_eq_true hz
          refine ⟨_, fun _ _ h => h, ?_⟩
          refine ⟨_, rfl, Or.inl ⟨rfl, _, sk⟩, m, _, .ref c, rfl, rfl, S.lk, revLast V.ref c (b :: st), ?_⟩
          refine ⟨(b :: st).length, by simp only [List.length_cons]; omega, b :: st, pb :: ws, rfl, rfl, S.pop, ?_, ?_, fun r hr => hB r (List.mem_cons_of_mem _ hr)⟩
          · rw [← eP]
            show _ = popW ps[i] (pc :: pb :: ws)
            rw [popW, if_pos hz]
          · simp only [List.length_cons] at hL ⊢
            omega
        · have hz : ¬ turn pb pc ps[i] ≤ 0 := fun z => hz (decide_eq_true z)
          exact ⟨_, rfl, Or.inl ⟨rfl, _, sk⟩, _, rfl, m, _, _, rfl, rfl, S.lk, hroom, fin (by rw [popW, if_neg hz])⟩
      · have hy : ¬ (1 : Int) < (((st.reverse.map V.ref).length : Nat) : Int) := fun z => hy (decide_eq_true z)
        have e : popW ps[i] ws = ws := by
          match ws, hlst with
          | [], _ => rfl
          | [_], _ => rfl
          | _ :: _ :: ws, h1 => exact absurd (by rw [h1]; simp only [List.length_cons]; omega) hy
        exact iteF ⟨_, rfl, Or.inl ⟨rfl, _, sk⟩, _, rfl, m, _, _, rfl, rfl, S.lk, hroom, fin e⟩
    · rintro σ' H' ⟨st, o, rfl, S⟩
      rw [hxl, List.take_length] at S
      exact ⟨_, rfl, k m st.reverse H' S.sm ⟨S.lk, paired_rev S.pts⟩⟩

theorem pts_mem {H : Hp} : ∀ {as : List Addr} {ps : List (Int × Int)}, PtsAt H as ps → ∀ {a : Addr}, a ∈ as → ∃ p ∈ ps, PtAt H a p
  | _, _, .nil, a, h => nomatch h
  | _, _, .cons (a := b) x t, a, h => by
    rcases List.mem_cons.mp h with rfl | z
    · exact ⟨_, List.mem_cons_self, x⟩
    · obtain ⟨p, hp, y⟩ := pts_mem t z
      exact ⟨p, List.mem_cons_of_mem _ hp, y⟩
theorem pts_mem' {H : Hp} : ∀ {as : List Addr} {ps : List (Int × Int)}, PtsAt H as ps → ∀ {p : Int × Int}, p ∈ ps → ∃ a ∈ as, PtAt H a p
  | _, _, .nil, p, h => nomatch h
  | _, _, .cons x t, p, h => by
    rcases List.mem_cons.mp h with rfl | z
    · exact ⟨_, List.mem_cons_self, x⟩
    · obtain ⟨a, ha, y⟩ := pts_mem' t z
      exact ⟨a, List.mem_cons_of_mem _ ha, y⟩
theorem pt_inj {H : Hp} {a : Addr} {p q : Int × Int} (h1 : PtAt H a p) (h2 : PtAt H a q) : p = q := by
  unfold PtAt at h1 h2
  rw [h1] at h2
  injection h2 with h2
  injection h2 with h2
  injection h2 with e1 h2
  injection h2 with e2 _
  exact Prod.ext (V.int.inj e1) (V.int.inj e2)
theorem wayGo_ne : ∀ (l w : List (Int × Int)), l ≠ [] ∨ w ≠ [] → HC.wayGo w l ≠ []
  | [], w, h => h.resolve_left fun z => z rfl
  | p :: l, w, _ => wayGo_ne l _ (.inr (by simp))
theorem way_pos {ps : List (Int × Int)} (h : ps ≠ []) : 1 ≤ (HC.way ps).length := by
  unfold HC.way
  rw [List.length_reverse]
  exact List.length_pos_iff.mpr (wayGo_ne ps [] (.inl h))
theorem way_le (ps : List (Int × Int)) : (HC.way ps).length ≤ ps.length := by
  unfold HC.way
  rw [List.length_reverse]
  have := wayGo_le ps []
  simpa using this
theorem cut_but1 {α : Type} {xs : List α} (h : 1 ≤ xs.length) : cutL xs none (some (-1)) = xs.dropLast := by
  rw [cutL_but (by decide) (by omega), List.dropLast_eq_take]
  congr 1
  omega
/-- points [4]: the ring round the points -/
def sp_hull : Sp := fun vs H Q _ => ∃ (l : Addr) (as : List Addr) (ps : List (Int × Int)), vs = [.ref l] ∧ LPts H l as ps ∧ (∀ p ∈ ps, Bp p) ∧ ps.length ≤ 64 ∧ ∀ l' bs cs H', Same H H' → LPts H' l' bs cs → HC.HullOf ps cs → cs.length ≤ 200 → Q (.ref l') H'
theorem sc_hull : FnScope ["points", "spots", "there", "back"] ["points"] (defScope s_hull) := ⟨rfl, rfl, rfl, by decide +kernel, rfl, by decide +kernel, by decide +kernel⟩
open HC in
theorem ok_hull {P : Program} {w : World} {K : PySem.W.Frag} {mg : Str → Option Value} {base : Heap} {a : Adr} (T : Txt K mg a) : FnOk P w K mg base CX0 3 a.f_hull a.d_hull ["points"] sp_hull := by
  have G_left_way : FnOk P w K mg base CX0 2 a.f_left_way a.d_left_way ["spots"] sp_way := ok_way T
  refine T.F_hull.ok sc_hull (fun vs H Q E h => ?_) (fun cdv A outer s H vs Q E hr h => ?_)
  · obtain ⟨l, as, ps, rfl, _⟩ := h
    rfl
  · obtain ⟨l, as, ps, rfl, L, bd, hlen, k⟩ := h
    have nd := sc_hull.nd
    have hu4 := Nat.lt_of_le_of_lt (Nat.add_le_add_left (by decide : 4 ≤ 64) _) hr.units
    refine ⟨_, (pss_cons (ps_set (i := 1) nd rfl (Or.inl rfl) (pe_callB (call_sortedS rfl) rfl T.sorted PyProof.Rows.boot_sorted (pa_cons (pe_callTy (call_setP rfl hu4) rfl T.set PySem.Pv.boot_set (pa_cons (pv 0) pa_nil)) pa_nil)))
      (pss_cons (ps_if (pt_cmpR op_lt (pe_callB call_len_seq rfl T.len PySem.boot_len (pa_cons (pv 1) pa_nil)) pe_int (nomark _))
        (pss_one (ps_ret (pv 1)))
        pss_nil)
      (pss_cons (ps_set (i := 2) nd rfl (Or.inl rfl) (pe_call G_left_way (hr.mono (by decide)) rfl T.g_left_way T.F_left_way.kp T.b_left_way .nil pass0 (pa_cons (pv 1) pa_nil)))
      (pss_cons (ps_set (i := 3) nd rfl (Or.inl rfl) (pe_call G_left_way (hr.mono (by decide)) rfl T.g_left_way T.F_left_way.kp T.b_left_way .nil pass0 (pa_cons (pe_listrev rfl rfl T.list rfl T.reversed (pv 1)) pa_nil)))
      (pss_one (ps_ret (pe_op op_cat (pe_slice sl_list (pv 2) po_none (po_some (pe_un un_neg pe_int))) (pe_slice sl_list (pv 3) po_none (po_some (pe_un un_neg pe_int)))))))))), ?_⟩
    refine ⟨_, rfl, l, as, ps, rfl, L, hlen, fun S bs hS hsub hbl hall hone => ?_⟩
    have sm1 : Same H (upd H S (.ext (SetIs w S bs))) := Same.upd hS
    refine ⟨S, bs, rfl, upd_same, by omega, fun b hb => ?_, fun D as' ps' hD hp hpts hs => ?_⟩
    · obtain ⟨p, _, x⟩ := pts_mem L.2 (hsub b hb)
      exact ⟨p, x.same sm1⟩
    have hm : ∀ q, q ∈ ps' ↔ q ∈ ps := fun q => by
      constructor
      · intro hq
        obtain ⟨b, hb, x⟩ := pts_mem' hpts hq
        obtain ⟨p, hp', y⟩ := pts_mem L.2 (hsub b (hp.mem_iff.mp hb))
        rw [pt_inj x (y.same sm1)]
        exact hp'
      · intro hq
        obtain ⟨b, hb, x⟩ := hall q hq
        obtain ⟨p, hp', y⟩ := pts_mem hpts (hp.mem_iff.mpr hb)
        rw [pt_inj (x.same sm1) y]
        exact hp'
    have hl' : ps'.length = bs.length := by rw [← hpts.len, hp.length_eq]
    have HU : HullOf ps (hullP ps') := hull_spots (hs.imp fun {p q} h => by
      rcases lex_tri p q with z | z | z
      · exact .inr z
      · exact .inl z
      · exact absurd z h) hm fun z => by rw [hl']; exact hone z
    have bd' : ∀ p ∈ ps', Bp p := fun p hp => bd p ((hm p).mp hp)
    have sm2 := sm1.trans (Same.upd (o := .lst (as'.map V.ref)) hD)
    have L2 : LPts (upd (upd H S (.ext (SetIs w S bs))) D (.lst (as'.map V.ref))) D as' ps' := ⟨upd_same, hpts.same (Same.upd hD)⟩
    have hn : ((as'.map V.ref).length : Int) = (ps'.length : Int) := by rw [List.length_map, L2.2.len]
    refine ⟨_, rfl, _, _, rfl, Or.inl L2.sq, _, _, rfl, rfl, _, rfl, ite2 (fun hy => ?_) (fun hy => ?_)⟩
    · have hy : ((as'.map V.ref).length : Int) < 2 := of_decide_eq_true hy
      have e : hullP ps' = ps' := by unfold hullP; rw [if_pos (by omega)]
      rw [e] at HU
      exact ⟨_, rfl, k D as' ps' _ sm2 L2 HU (by omega)⟩
    have hy : ¬ ((as'.map V.ref).length : Int) < 2 := fun z => hy (decide_eq_true z)
    have e : hullP ps' = (way ps').dropLast ++ (way ps'.reverse).dropLast := by unfold hullP; rw [if_neg (by omega)]
    rw [e] at HU
    have ne : ps' ≠ [] := fun z => by rw [z] at hn; simp only [List.length_nil] at hn; omega
    have w1 := way_pos ne
    have w2 := way_pos (ps := ps'.reverse) (by simpa using ne)
    have v1 := way_le ps'
    have v2 := way_le ps'.reverse
    rw [List.length_reverse] at v2
    refine ⟨_, rfl, D, as', ps', rfl, L2, bd', by omega, fun l1 b1 H3 sm3 A1 => ?_⟩
    have L3 := L2.same sm3
    refine ⟨_, rfl, _, _, rfl, L3.sq, fun r1 hr1 => ?_⟩
    have R := L3.rev hr1
    refine ⟨r1, as'.reverse, ps'.reverse, rfl, R, fun p hp => bd' p (List.mem_reverse.mp hp), by rw [List.length_reverse]; omega, fun l2 b2 H5 sm5 B1 => ?_⟩
    have A5 := (A1.same (Same.upd (o := .lst (as'.map V.ref).reverse) hr1)).same sm5
    have sm6 := ((sm2.trans sm3).trans (Same.upd (o := .lst (as'.map V.ref).reverse) hr1)).trans sm5
    refine ⟨_, rfl, _, rfl, _, rfl, _, _, rfl, A5.sq, fun t1 h1 => ?_⟩
    have C1 := A5.cut h1 none (some (-1))
    rw [cut_but1 w1] at C1
    have B6 := B1.same (Same.upd (o := .lst (cutV (b1.map V.ref) none (some (-1)))) h1)
    have sm7 := sm6.trans (Same.upd (o := .lst (cutV (b1.map V.ref) none (some (-1)))) h1)
    refine ⟨_, rfl, _, rfl, _, rfl, _, _, rfl, B6.sq, fun t2 h2 => ?_⟩
    have C2 := B6.cut h2 none (some (-1))
    rw [cut_but1 w2] at C2
    have C1' := C1.same (Same.upd (o := .lst (cutV (b2.map V.ref) none (some (-1)))) h2)
    have sm8 := sm7.trans (Same.upd (o := .lst (cutV (b2.map V.ref) none (some (-1)))) h2)
    refine ⟨t1, t2, _, _, rfl, rfl, C1'.1, C2.1, C1'.fits C2 (by rw [List.length_dropLast, List.length_dropLast]; omega), fun t3 h3 => ?_⟩
    exact k t3 _ _ _ (sm8.trans (Same.upd h3)) (C1'.cat C2 h3) HU (by rw [List.length_append, List.length_dropLast, List.length_dropLast]; omega)

theorem map_getD (ks : List Nat) (i : Nat) : (ks.map fun k : Nat => (k : Int)).getD i 0 = ((ks.getD i 0 : Nat) : Int) := by
  rw [List.getD_eq_getElem?_getD, List.getElem?_map, List.getD_eq_getElem?_getD]
  cases ks[i]? <;> rfl
theorem rope_int {ps : List (Int × Int)} {ks : List Nat} (h : HC.RopeN ps ks) (h3 : 1 ≤ ps.length) (up : ∀ i, i < ks.length → ks.getD i 0 < ps.length) : Rope ps (ks.map fun k : Nat => (k : Int)) := by
  refine ⟨by rw [List.length_map]; exact h.len, by rw [List.length_map]; exact h.len2, by rw [map_getD, h.first]; rfl, ?_, fun i hi => ?_, fun i hi => ?_, fun i hi j j1 j2 => ?_⟩
  · rw [List.length_map, map_getD, h.last]
    omega
  · rw [List.length_map] at hi
    rw [map_getD, map_getD]
    have := h.rise i hi
    omega
  · rw [List.length_map] at hi
    rw [map_getD, map_getD, map_getD, Int.toNat_natCast, Int.toNat_natCast, Int.toNat_natCast]
    exact h.bend i hi
  · rw [List.length_map] at hi
    rw [map_getD, map_getD] at *
    rw [Int.toNat_natCast, Int.toNat_natCast]
    have := up (i + 1) hi
    exact h.under i hi j (by omega)
theorem sc_rope : FnScope ["points", "corners"] ["points"] (defScope s_rope) := ⟨rfl, rfl, rfl, by decide +kernel, rfl, by decide +kernel, by decide +kernel⟩
theorem cmp_rope_0 : CompOk ["points", "corners"] (defScope s_rope) ["place", "corners", "points"] (lcScope (nthS (defBody s_rope) 2)) 0 "place" [none, some 1, some 0] :=
  ⟨rfl, by decide +kernel, by decide +kernel, by decide +kernel, by decide +kernel, rfl, by decide +kernel, by decide +kernel⟩
open HC in
theorem ok_rope {P : Program} {w : World} {K : PySem.W.Frag} {mg : Str → Option Value} {base : Heap} {a : Adr} (T : Txt K mg a) : FnOk P w K mg base (Fly P w) 4 a.f_rope a.d_rope ["points"] (sp_rope a.c_NoHill) := by
  have G_check_hill : FnOk P w K mg base (Fly P w) 1 a.f_check_hill a.d_check_hill ["points"] (sp_chill a.c_NoHill) := ok_chill T
  have G_hull : FnOk P w K mg base CX0 3 a.f_hull a.d_hull ["points"] sp_hull := ok_hull T
  refine T.F_rope.okX sc_rope (fun vs H Q E h => ?_) (fun cdv A outer s H vs Q E hr h => ?_)
  · obtain ⟨l, as, ps, rfl, _⟩ := h
    rfl
  · obtain ⟨l, as, ps, rfl, L0, bd, hlen, k1, k2⟩ := h
    have nd := sc_rope.nd
    have hu := hu_of hr
    refine ⟨_, (pss_cons (ps_expr (pe_call G_check_hill (hr.mono (by decide)) rfl T.g_check_hill T.F_check_hill.kp T.b_check_hill .nil pass_fly (pa_cons (pv 0) pa_nil)))
      (pss_cons (ps_set (i := 1) nd rfl (Or.inr rfl) (pe_call G_hull (hr.mono (by decide)) rfl T.g_hull T.F_hull.kp T.b_hull .nil pass0 (pa_cons (pv 0) pa_nil)))
      (pss_one (ps_ret (pe_lcT rfl cmp_rope_0 (pi_range1 rfl T.range (pa_cons (pe_callB call_len_seq rfl T.len PySem.boot_len (pa_cons (pv 0) pa_nil)) pa_nil)) (fun cl C s H fp => (pv 0)) (fun cl C s H fp => (pt_cmpR (op_inP hu) (pe_ix (ixL_K (K := K) rfl) (pv 2) (pv 0) (fun _ _ => rfl)) (pv 1) rfl))))))), ?_⟩
    refine ⟨_, rfl, l, as, ps, rfl, L0, by omega, fun hH => ?_, fun hb => k1 hb H (Same.refl H)⟩
    have h3 := hH.len
    refine ⟨_, rfl, l, as, ps, rfl, L0, bd, hlen, fun l' bs cs H1 sm1 C HU hc => ?_⟩
    have L := L0.same sm1
    have hn : ((as.map V.ref).length : Int) = (ps.length : Int) := by rw [List.length_map, L.2.len]
    refine ⟨_, rfl, _, _, rfl, Or.inl L.sq, _, rfl, by omega, by omega, ?_⟩
    rw [show (((as.map V.ref).length : Int)).toNat = ps.length by omega]
    refine lct_range (fun D i ys H2 => ys = ((List.range i).filter fun k => decide (gp ps k ∈ cs)).map (fun k : Nat => V.int (k : Int)) ∧ Same H1 H2 ∧ H2 D = some (.lst ys)) (fun D hD => ⟨rfl, Same.upd hD, upd_same⟩) (fun D i ys H2 _ ⟨_, _, h1⟩ => h1) ?_ ?_
    · rintro D i ys H2 hD hi ⟨rfl, sm, hDl⟩
      have LH := L.same sm
      rw [show (0 : Int) + (i : Int) = (i : Int) by omega]
      obtain ⟨a1, e1, q1⟩ := LH.at (i := i) hi
      have q1 : PtAt H2 a1 (gp ps i) := q1
      refine ⟨_, rfl, _, rfl, _, _, _, _, rfl, rfl, LH.sq, e1, _, rfl, a1, l', _, bs, cs, rfl, rfl, q1, C.same sm, _, rfl, ?_⟩
      unfold LcB
      refine ite2 (fun hy => ?_) (fun hy => ?_)
      · have hy : gp ps i ∈ cs := of_decide_eq_true hy
        refine ⟨_, rfl, LcK.mk hi (Nat.le_trans (show ps.length ≤ 64 by omega) (by decide)) ?_ hDl ⟨?_, ?_, upd_same⟩⟩
        · rw [List.length_map]
          exact Nat.le_trans (List.length_filter_le _ _) (by rw [List.length_range]; exact Nat.le_refl _)
        · rw [List.range_succ, List.filter_append, List.map_append, List.filter_cons_of_pos (by simpa using hy), List.filter_nil]
          rfl
        · intro b o e
          rw [upd_ne (ne_of_none e hD)]
          exact sm b o e
      · have hy : ¬ gp ps i ∈ cs := fun z => hy (decide_eq_true z)
        refine LcB.no (Pv := fun D i ys H2 => ys = ((List.range i).filter fun k => decide (gp ps k ∈ cs)).map (fun k : Nat => V.int (k : Int)) ∧ Same H1 H2 ∧ H2 D = some (.lst ys)) hi ⟨?_, sm, hDl⟩
        rw [List.range_succ, List.filter_append, List.filter_cons_of_neg (by simpa using hy), List.filter_nil, List.append_nil]
    · rintro D ys H2 hD ⟨rfl, sm, hDl⟩
      have R := rope_ok hH HU
      refine k2 hH D ((ropeF ps cs).map fun k : Nat => (k : Int)) H2 (sm1.trans sm) ?_ (rope_int R (by omega) fun i hi => ?_)
      · rw [hDl, List.map_map]
        rfl
      · have hm : (ropeF ps cs).getD i 0 ∈ ropeF ps cs := by
          rw [List.getD_eq_getElem?_getD, List.getElem?_eq_getElem hi]
          exact List.getElem_mem hi
        exact List.mem_range.mp (List.mem_filter.mp hm).1

def sp_law (K : PySem.W.Frag) : Sp := fun vs H Q _ => ∃ (p : Addr) (ns : List Int), vs = [.ref p] ∧ SqL K H p (ns.map V.int) ∧ ns.length ≤ 63 ∧ ∀ H', Q (.bl true) H'
section
variable {P : Program} {w : World} {K : PySem.W.Frag} {mg : Str → Option Value} {base : Heap} {a : Adr}
theorem sc_law : FnScope ["_law_script", "_law_points", "_law_handed", "_law_found", "_law_k", "_law_one", "_law_two", "_law_spot"] ["_law_script"] (defScope s_law) := ⟨rfl, rfl, rfl, by decide +kernel, rfl, by decide +kernel, by decide +kernel⟩
theorem ok_law (T : Txt K mg a) : FnOk P w K mg base CX0 5 a.f_law a.d_law ["_law_script"] (sp_law K) := by
  have G_rope := ok_rope (P := P) (w := w) (base := base) T
  have G__law_at : FnOk P w K mg base CX0 1 a.f__law_at a.d__law_at ["_law_script", "_law_k"] (sp_at K) := ok_at T
  have G__law_hill : FnOk P w K mg base CX0 1 a.f__law_hill a.d__law_hill ["_law_cells", "_law_first", "_law_most"] (sp_hill K) := ok_hill T
  have G__law_far_off : FnOk P w K mg base CX0 1 a.f__law_far_off a.d__law_far_off ["_law_points", "_law_cell"] sp_far := ok_far T
  have G__law_are_points : FnOk P w K mg base CX0 2 a.f__law_are_points a.d__law_are_points ["_law_found"] sp_are := ok_are T
  have G__law_whole : FnOk P w K mg base CX0 1 a.f__law_whole a.d__law_whole ["_law_found"] sp_whole := ok_whole T
  have G__law_bend : FnOk P w K mg base CX0 1 a.f__law_bend a.d__law_bend ["_law_one", "_law_two", "_law_three"] sp_bend := ok_bend T
  refine T.F_law.ok sc_law (fun vs H Q E h => ?_) (fun cdv A outer s H vs Q E hr h => ?_)
  · obtain ⟨p, ns, rfl, _⟩ := h
    rfl
  · obtain ⟨p0, ns, rfl, hS0, hlen, k⟩ := h
    have nd := sc_law.nd
    have hu := hu_of hr
    refine ⟨_, (pss_cons (ps_set (i := 0) nd rfl (Or.inl rfl) (pe_slice sl_list (pv 0) po_none (po_some pe_int)))
      (pss_cons (ps_set (i := 1) nd rfl (Or.inl rfl) (pe_call G__law_hill (hr.mono (by decide)) rfl T.g__law_hill T.F__law_hill.kp T.b__law_hill .nil pass0 (pa_cons (pe_slice sl_list (pv 0) (po_some pe_int) po_none) (pa_cons (pe_op op_sub (pe_op op_mod (pe_call G__law_at (hr.mono (by decide)) rfl T.g__law_at T.F__law_at.kp T.b__law_at .nil pass0 (pa_cons (pv 0) (pa_cons pe_int pa_nil))) pe_int) pe_int) (pa_cons (pe_op op_add pe_int (pe_op op_mod (pe_call G__law_at (hr.mono (by decide)) rfl T.g__law_at T.F__law_at.kp T.b__law_at .nil pass0 (pa_cons (pv 0) (pa_cons pe_int pa_nil))) pe_int)) pa_nil)))))
      (pss_cons (ps_set (i := 1) nd rfl (Or.inl rfl) (pe_call G__law_far_off (hr.mono (by decide)) rfl T.g__law_far_off T.F__law_far_off.kp T.b__law_far_off .nil pass0 (pa_cons (pv 1) (pa_cons (pe_op op_fdiv (pe_call G__law_at (hr.mono (by decide)) rfl T.g__law_at T.F__law_at.kp T.b__law_at .nil pass0 (pa_cons (pv 0) (pa_cons pe_int pa_nil))) pe_int) pa_nil))))
      (pss_cons (ps_set (i := 2) nd rfl (Or.inl rfl) (pe_callTy call_list_of rfl T.list PySem.Pv.boot_list (pa_cons (pv 1) pa_nil)))
      (pss_cons (ps_set (i := 3) nd rfl (Or.inl rfl) (pe_call G_rope (hr.mono (by decide)) rfl T.g_rope T.F_rope.kp T.b_rope .nil pass_flyN (pa_cons (pv 2) pa_nil)))
      (pss_cons (ps_if (PW.pt (pw_or (pt_not (pt_val (pe_call G__law_are_points (hr.mono (by decide)) rfl T.g__law_are_points T.F__law_are_points.kp T.b__law_are_points .nil pass0 (pa_cons (pv 2) pa_nil)))) (pw_or1 (pt_cmpR (op_neL hu) (pv 2) (pv 1) (nomark _)))))
        (pss_one (ps_ret pe_bl))
        pss_nil)
      (pss_cons (ps_if (PW.pt (pw_or (pt_not (pt_val (pe_callB call_isinst rfl T.isinstance PyProof.Rows.boot_isinstance (pa_cons (pv 3) (pa_cons (pe_bltn (v := .ty "list") rfl T.list (by decide +kernel) rfl) pa_nil))))) (pw_or1 (pt_cmpR op_lt (pe_callB call_len_seq rfl T.len PySem.boot_len (pa_cons (pv 3) pa_nil)) pe_int (nomark _)))))
        (pss_one (ps_ret pe_bl))
        pss_nil)
      (pss_cons (ps_if (PW.pt (pw_or (pt_cmpR op_ne (pe_ix ix_list (pv 3) pe_int (fun _ _ => rfl)) pe_int (nomark _)) (pw_or1 (pt_cmpR op_ne (pe_ix ix_list (pv 3) (pe_un un_neg pe_int) (fun _ _ => rfl)) (pe_op op_sub (pe_callB call_len_seq rfl T.len PySem.boot_len (pa_cons (pv 1) pa_nil)) pe_int) (nomark _)))))
        (pss_one (ps_ret pe_bl))
        pss_nil)
      (pss_cons (ps_for PassesOwn.never rfl (pi_range1 rfl T.range (pa_cons (pe_callB call_len_seq rfl T.len PySem.boot_len (pa_cons (pv 3) pa_nil)) pa_nil)) (pg_name (i := 4) nd rfl (Or.inl rfl))
        (pss_one (ps_if (PW.pt (pw_or (pt_not (pt_val (pe_call G__law_whole (hr.mono (by decide)) rfl T.g__law_whole T.F__law_whole.kp T.b__law_whole .nil pass0 (pa_cons (pe_ix ix_list (pv 3) (pv 4) (fun _ _ => rfl)) pa_nil)))) (pw_or1 (PW.pt (pw_and (pt_cmpR op_gt (pv 4) pe_int (nomark _)) (pw_and1 (pt_cmpR op_le (pe_ix ix_list (pv 3) (pv 4) (fun _ _ => rfl)) (pe_ix ix_list (pv 3) (pe_op op_sub (pv 4) pe_int) (fun _ _ => rfl)) (nomark _))))))))
          (pss_one (ps_ret pe_bl))
          pss_nil)))
      (pss_cons (ps_for PassesOwn.never rfl (pi_range2 rfl T.range (pa_cons pe_int (pa_cons (pe_callB call_len_seq rfl T.len PySem.boot_len (pa_cons (pv 3) pa_nil)) pa_nil))) (pg_name (i := 4) nd rfl (Or.inl rfl))
        (pss_cons (ps_set (i := 5) nd rfl (Or.inl rfl) (pe_ix ix_list (pv 1) (pe_ix ix_list (pv 3) (pe_op op_sub (pv 4) pe_int) (fun _ _ => rfl)) (fun _ _ => rfl)))
        (pss_cons (ps_set (i := 6) nd rfl (Or.inl rfl) (pe_ix ix_list (pv 1) (pe_ix ix_list (pv 3) (pv 4) (fun _ _ => rfl)) (fun _ _ => rfl)))
        (pss_cons (ps_if (pt_cmpR op_lt (pe_op op_add (pv 4) pe_int) (pe_callB call_len_seq rfl T.len PySem.boot_len (pa_cons (pv 3) pa_nil)) (nomark _))
          (pss_one (ps_if (pt_cmpR op_ge (pe_call G__law_bend (hr.mono (by decide)) rfl T.g__law_bend T.F__law_bend.kp T.b__law_bend .nil pass0 (pa_cons (pv 5) (pa_cons (pv 6) (pa_cons (pe_ix ix_list (pv 1) (pe_ix ix_list (pv 3) (pe_op op_add (pv 4) pe_int) (fun _ _ => rfl)) (fun _ _ => rfl)) pa_nil)))) pe_int (nomark _))
            (pss_one (ps_ret pe_bl))
            pss_nil))
          pss_nil)
        (pss_one (ps_for PassesOwn.never rfl (pi_list (pe_slice sl_list (pv 1) (po_some (pe_ix ix_list (pv 3) (pe_op op_sub (pv 4) pe_int) (fun _ _ => rfl))) (po_some (pe_ix ix_list (pv 3) (pv 4) (fun _ _ => rfl))))) (pg_name (i := 7) nd rfl (Or.inl rfl))
          (pss_one (ps_if (pt_cmpR op_gt (pe_call G__law_bend (hr.mono (by decide)) rfl T.g__law_bend T.F__law_bend.kp T.b__law_bend .nil pass0 (pa_cons (pv 5) (pa_cons (pv 6) (pa_cons (pv 7) pa_nil)))) pe_int (nomark _))
            (pss_one (ps_ret pe_bl))
            pss_nil))))))))
      (pss_one (ps_ret pe_bl)))))))))))), ?_⟩
    refine ⟨_, rfl, _, rfl, _, _, rfl, hS0, fun p hp0 => ?_⟩
    rw [cut_front (by omega)]
    have hS : SqL K (upd H p (.lst (ns.map V.int))) p (ns.map V.int) := .here
    generalize upd H p (.lst (ns.map V.int)) = H1 at hS ⊢
    -- the hill
    refine ⟨_, rfl, _, rfl, _, _, rfl, hS, fun c hc => ?_⟩
    have hcl : (cutV (ns.map V.int) (some 1) none).length ≤ 62 := by
      rw [cut_map, List.length_map]
      by_cases z : 1 ≤ ns.length
      · rw [cutL_from (by omega) (by omega), List.length_drop]
        show ns.length - 1 ≤ 62
        omega
      · have : ns = [] := List.eq_nil_of_length_eq_zero (by omega)
        subst this
        exact Nat.zero_le _
    obtain ⟨ms, ems, hms⟩ := cut_ints (ns := ns) (some 1) none
    rw [ems, List.length_map] at hcl
    rw [ems]
    have m1 := Int.emod_nonneg (ns.getD (6 : Int).toNat 0) (show (30 : Int) ≠ 0 by decide)
    have m2 := Int.emod_lt_of_pos (ns.getD (6 : Int).toNat 0) (show (0 : Int) < 30 by decide)
    refine ⟨_, rfl, p, ns, 0, rfl, hS.up hc, by decide, _, _, rfl, rfl, (by show (0 : Int) < 21; decide), _, _, rfl, rfl, _, rfl, p, ns, 6, rfl, hS.up hc, by decide, _, _, rfl, rfl, (by show (0 : Int) < 30; decide), _, _, rfl, rfl, c, ms, _, _, rfl, .here, by omega, (by show (1 : Int) ≤ 3 + _; omega), (by show 3 + _ ≤ (10 : Int) ^ 31; omega), ?_⟩
    intro l0 as0 ps0 H2 sm2 L0 HL0 BX0 f0 hl0
    have hS2 := sm2.seq (hS.up (o := .lst (ms.map V.int)) hc)
    have len0 : 3 ≤ ps0.length ∧ ps0.length ≤ 64 := by
      refine ⟨HL0.len, ?_⟩
      rw [hl0]
      split <;> omega
    have z1 := Int.emod_nonneg (ns.getD (0 : Int).toNat 0) (show (21 : Int) ≠ 0 by decide)
    have z2 := Int.emod_lt_of_pos (ns.getD (0 : Int).toNat 0) (show (0 : Int) < 21 by decide)
    have bx0 : ∀ q ∈ ps0, -1000 ≤ q.1 ∧ q.1 ≤ 1000 ∧ 0 ≤ q.2 ∧ q.2 ≤ 1000 := fun q hq => (by have := BX0 q hq; omega)
    -- far off
    refine ⟨_, rfl, _, rfl, p, ns, 0, rfl, hS2, by decide, _, _, rfl, rfl, ⟨by decide, by decide⟩, l0, as0, ps0, _, rfl, L0, by omega, fun q hq => (by have := bx0 q hq; omega), ?_⟩
    intro l as fv H3 sm3 f1 f2 L
    have HL := HL0.scale f1
    have bd : ∀ q ∈ ps0.map (fun p => (p.1 * fv, p.2 * fv)), Bp q := by
      intro q hq
      obtain ⟨r, hr1, rfl⟩ := List.mem_map.mp hq
      have bx := bx0 r hr1
      have zz : ∀ x : Int, -1000 ≤ x → x ≤ 1000 → Bd (x * fv) := fun x h1 h2 => by
        have u1 : x * fv ≤ 1000 * fv := Int.mul_le_mul_of_nonneg_right h2 (by omega)
        have u2 : (-1000) * fv ≤ x * fv := Int.mul_le_mul_of_nonneg_right h1 (by omega)
        constructor <;> omega
      exact ⟨zz _ (by omega) (by omega), zz _ (by omega) (by omega)⟩
    have hlp : (ps0.map (fun p => (p.1 * fv, p.2 * fv))).length = ps0.length := by rw [List.length_map]
    have hS3 := sm3.seq hS2
    generalize ps0.map (fun p => (p.1 * fv, p.2 * fv)) = ps at L HL bd hlp
    have hn : ((as.map V.ref).length : Int) = (ps.length : Int) := by rw [List.length_map, L.2.len]
    -- handed
    refine ⟨_, rfl, _, _, rfl, Or.inl L.sq, fun m hm => ?_⟩
    have L := L.same (Same.upd (o := .lst (as.map V.ref)) hm)
    have M : LPts (upd H3 m (.lst (as.map V.ref))) m as ps := ⟨upd_same, L.2⟩
    generalize upd H3 m (.lst (as.map V.ref)) = H4 at L M ⊢
    refine ⟨_, rfl, m, as, ps, rfl, M, bd, by omega, fun h => absurd HL h, fun _ r ks H5 sm5 hr5 R => ?_⟩
    have L := L.same sm5
    have M := M.same sm5
    have sr : SqL K H5 r (ks.map V.int) := .of hr5
    have hk : ((ks.map V.int).length : Int) = (ks.length : Int) := by rw [List.length_map]
    have hk3 := R.len
    have hk4 := R.len2
    have kat : ∀ i : Nat, i < ks.length → atI (ks.map V.int) (i : Int) = some (.int (ks.getD i 0)) := fun i hi => ints_at (by omega) (by omega)
    refine ⟨_, rfl, m, as, ps, rfl, M, _, rfl, iteF ⟨_, rfl, _, rfl, m, l, as, as, ps, ps, rfl, rfl, M, L, _, rfl, iteNS rfl ?_⟩⟩
    refine ⟨_, rfl, _, _, _, _, rfl, .lst hr5, isT_list_list, _, rfl, iteF ⟨_, rfl, _, _, rfl, Or.inl sr, _, _, rfl, rfl, _, rfl, ite2 (fun hy => absurd (of_decide_eq_true hy) (by omega)) (fun _ => ?_)⟩⟩
    have klast : atI (ks.map V.int) (-1) = some (.int (ks.getD (ks.length - 1) 0)) := by
      have := kat (ks.length - 1) (by omega)
      unfold atI ixN at this ⊢
      rw [List.length_map] at this ⊢
      rw [if_pos (by omega), if_pos (by omega)] at this
      rw [if_neg (by omega), if_pos (by omega)]
      rw [show (-1 + (ks.length : Int)).toNat = (((ks.length - 1 : Nat) : Int)).toNat by omega]
      exact this
    refine ⟨_, rfl, _, _, _, _, rfl, rfl, sr, kat 0 (by omega), rfl, _, rfl, iteNS (congrArg V.int R.first) ⟨_, rfl, _, rfl, _, _, _, _, rfl, rfl, sr, klast, _, rfl, _, _, rfl, Or.inl L.sq, _, _, rfl, rfl, rfl, _, rfl, iteNS (congrArg V.int (by rw [R.last, hn])) ?_⟩⟩
    -- rising
    refine ⟨_, rfl, _, _, rfl, Or.inl sr, _, rfl, by omega, by omega, ?_⟩
    rw [show (((ks.map V.int).length : Int)).toNat = ks.length by omega]
    refine for_range0 (fun i σ' H' => H' = H5 ∧ ∃ o4, σ' = [some (.ref p), some (.ref l), some (.ref m), some (.ref r), o4, none, none, none]) ⟨rfl, none, rfl⟩ ?_ ?_
    · rintro i σ' H' hi ⟨rfl, o4, rfl⟩
      refine ⟨_, rfl, _, rfl, _, _, _, _, rfl, rfl, sr, kat i hi, _, rfl, _, rfl, iteF ⟨_, rfl, _, _, rfl, rfl, _, rfl, ite2 (fun hy => ?_) (fun hy => iteF ⟨rfl, _, rfl⟩)⟩⟩
      have hy : (0 : Int) < (i : Int) := of_decide_eq_true hy
      have hk1 := kat (i - 1) (by omega)
      rw [show ((i - 1 : Nat) : Int) = (i : Int) - 1 by omega] at hk1
      have rs := R.rise (i - 1) (by omega)
      rw [show i - 1 + 1 = i by omega] at rs
      exact ⟨_, rfl, _, rfl, _, _, _, _, rfl, rfl, sr, kat i hi, _, rfl, _, rfl, _, _, rfl, rfl, _, _, _, _, rfl, rfl, sr, hk1, _, _, rfl, rfl, _, rfl, ite2 (fun hz => absurd (of_decide_eq_true hz) (by omega)) (fun _ => ⟨rfl, _, rfl⟩)⟩
    rintro σ' H' ⟨rfl, o4, rfl⟩
    -- the turns
    refine ⟨_, rfl, _, _, rfl, Or.inl sr, _, _, rfl, ⟨by decide, by decide, by omega, by omega⟩, ?_⟩
    rw [show (((ks.map V.int).length : Int) - 1).toNat = ks.length - 1 by omega]
    refine for_range (fun i σ' H5 => ∃ o4 o5 o6 o7, σ' = [some (.ref p), some (.ref l), some (.ref m), some (.ref r), o4, o5, o6, o7] ∧ LPts H5 l as ps ∧ H5 r = some (.lst (ks.map V.int))) ⟨o4, none, none, none, rfl, L, hr5⟩ ?_ ?_
    · rintro i σ' H5 hi ⟨o4, o5, o6, o7, rfl, L, hr5⟩
      have sr : SqL K H5 r (ks.map V.int) := .of hr5
      rw [show (1 : Int) + (i : Int) = ((1 + i : Nat) : Int) by omega]
      have k0 := kat i (by omega)
      rw [show (i : Int) = ((1 + i : Nat) : Int) - 1 by omega] at k0
      have k1 := kat (1 + i) (by omega)
      have r0 := R.range (i := i) (by omega)
      have r1 := R.range (i := 1 + i) (by omega)
      have r01 := R.rise i (by omega)
      have un := R.under i (by omega)
      rw [Nat.add_comm i 1] at r01 un
      obtain ⟨a0, e0, q0⟩ := L.atZ (i := ks.getD i 0) r0.1 r0.2
      obtain ⟨a1, e1, q1⟩ := L.atZ (i := ks.getD (1 + i) 0) r1.1 r1.2
      have b0 := getD_all bd (i := (ks.getD i 0).toNat) (by omega)
      have b1 := getD_all bd (i := (ks.getD (1 + i) 0).toNat) (by omega)
      refine ⟨_, rfl, _, rfl, _, rfl, _, _, rfl, rfl, _, _, _, _, rfl, rfl, sr, k0, _, _, _, _, rfl, rfl, L.sq, e0, ?_⟩
      refine ⟨_, rfl, _, rfl, _, rfl, _, _, _, _, rfl, rfl, sr, k1, _, _, _, _, rfl, rfl, L.sq, e1, ?_⟩
      refine ⟨_, rfl, _, _, rfl, rfl, _, rfl, _, _, rfl, Or.inl sr, _, _, rfl, rfl, _, rfl, ?_⟩
      apply ite2
      · intro hy
        have hy : ((1 + i : Nat) : Int) + 1 < ((ks.map V.int).length : Int) := of_decide_eq_true hy
        have k2 := kat (1 + i + 1) (by omega)
        rw [show ((1 + i + 1 : Nat) : Int) = ((1 + i : Nat) : Int) + 1 by omega] at k2
        have r2 := R.range (i := 1 + i + 1) (by omega)
        obtain ⟨a2, e2, q2⟩ := L.atZ (i := ks.getD (1 + i + 1) 0) r2.1 r2.2
        have b2 := getD_all bd (i := (ks.getD (1 + i + 1) 0).toNat) (by omega)
        have bn := R.bend i (by omega)
        rw [show i + 1 = 1 + i by omega, show i + 2 = 1 + i + 1 by omega] at bn
        unfold HC.gp at bn
        refine ⟨_, rfl, _, rfl, _, rfl, _, rfl, _, rfl, _, _, rfl, rfl, _, _, _, _, rfl, rfl, sr, k2, _, _, _, _, rfl, rfl, L.sq, e2, a0, a1, a2, _, _, _, rfl, q0, q1, q2, b0, b1, b2, _, _, rfl, rfl, _, rfl, ite2 (fun hz => absurd (of_decide_eq_true hz) (by omega)) (fun _ => ?_)⟩
        refine ⟨_, rfl, _, rfl, _, rfl, _, _, rfl, rfl, _, _, _, _, rfl, rfl, sr, k0, _, rfl, _, rfl, _, rfl, _, _, _, _, rfl, rfl, sr, k1, _, rfl, _, _, rfl, L.sq, fun t ht => ?_⟩
        rw [cut_mid r0.1 (Int.le_of_lt r01) (by rw [L.2.len]; omega)]
        have ht2 : SqL K (upd H5 t (.lst (((as.drop (ks.getD i 0).toNat).take ((ks.getD (1 + i) 0).toNat - (ks.getD i 0).toNat)).map V.ref))) t (((as.drop (ks.getD i 0).toNat).take ((ks.getD (1 + i) 0).toNat - (ks.getD i 0).toNat)).map V.ref) := .here
        have sm6 : Same H5 _ := Same.upd (o := .lst (((as.drop (ks.getD i 0).toNat).take ((ks.getD (1 + i) 0).toNat - (ks.getD i 0).toNat)).map V.ref)) ht
        have L := L.same sm6
        have hr5 := sm6 _ _ hr5
        have q0 := q0.same sm6
        have q1 := q1.same sm6
        generalize upd H5 t (.lst (((as.drop (ks.getD i 0).toNat).take ((ks.getD (1 + i) 0).toNat - (ks.getD i 0).toNat)).map V.ref)) = H6 at ht2 L hr5 q0 q1 ⊢
        refine ⟨_, rfl, ⟨_, ht2⟩, for_list (K := K) (a := t) (xs := ((as.drop (ks.getD i 0).toNat).take ((ks.getD (1 + i) 0).toNat - (ks.getD i 0).toNat)).map V.ref) (fun j σ' H' => H' = H6 ∧ ∃ o7, σ' = [some (.ref p), some (.ref l), some (.ref m), some (.ref r), some (.int ((1 + i : Nat) : Int)), some (.ref a0), some (.ref a1), o7]) ⟨rfl, _, rfl⟩ (fun j σ' H' _ ⟨e, _⟩ => by rw [e]; exact ht2) ?_ ?_⟩
        · rintro j x σ' H' hx ⟨rfl, o7, rfl⟩
          rw [List.getElem?_map, List.getElem?_take] at hx
          obtain ⟨b, hb, rfl⟩ := Option.map_eq_some_iff.mp hx
          by_cases hj : j < (ks.getD (1 + i) 0).toNat - (ks.getD i 0).toNat
          · rw [if_pos hj, List.getElem?_drop] at hb
            obtain ⟨b', hb', qb⟩ := paired_get L.2 (List.getElem?_eq_getElem (show (ks.getD i 0).toNat + j < ps.length by omega))
            rw [hb] at hb'
            cases hb'
            have und := un ((ks.getD i 0).toNat + j) (by omega) (by omega)
            unfold HC.gp at und
            rw [List.getD_eq_getElem?_getD (l := ps) (i := (ks.getD i 0).toNat + j), List.getElem?_eq_getElem (show (ks.getD i 0).toNat + j < ps.length by omega)] at und
            exact ⟨_, rfl, _, rfl, _, rfl, a0, a1, b, _, _, _, rfl, q0, q1, qb, b0, b1, bd _ (List.getElem_mem _), _, _, rfl, rfl, _, rfl, ite2 (fun hz => absurd (of_decide_eq_true hz) (Int.not_lt.mpr und)) (fun _ => ⟨rfl, _, rfl⟩)⟩
          · rw [if_neg hj] at hb
            exact nomatch hb
        · rintro σ' H' ⟨rfl, o7, rfl⟩
          exact ⟨_, _, _, _, rfl, L, hr5⟩
      · intro hy
        refine ⟨_, rfl, _, rfl, _, rfl, _, _, rfl, rfl, _, _, _, _, rfl, rfl, sr, k0, _, rfl, _, rfl, _, rfl, _, _, _, _, rfl, rfl, sr, k1, _, rfl, _, _, rfl, L.sq, fun t ht => ?_⟩
        rw [cut_mid r0.1 (Int.le_of_lt r01) (by rw [L.2.len]; omega)]
        have ht2 : SqL K (upd H5 t (.lst (((as.drop (ks.getD i 0).toNat).take ((ks.getD (1 + i) 0).toNat - (ks.getD i 0).toNat)).map V.ref))) t (((as.drop (ks.getD i 0).toNat).take ((ks.getD (1 + i) 0).toNat - (ks.getD i 0).toNat)).map V.ref) := .here
        have sm6 : Same H5 _ := Same.upd (o := .lst (((as.drop (ks.getD i 0).toNat).take ((ks.getD (1 + i) 0).toNat - (ks.getD i 0).toNat)).map V.ref)) ht
        have L := L.same sm6
        have hr5 := sm6 _ _ hr5
        have q0 := q0.same sm6
        have q1 := q1.same sm6
        generalize upd H5 t (.lst (((as.drop (ks.getD i 0).toNat).take ((ks.getD (1 + i) 0).toNat - (ks.getD i 0).toNat)).map V.ref)) = H6 at ht2 L hr5 q0 q1 ⊢
        refine ⟨_, rfl, ⟨_, ht2⟩, for_list (K := K) (a := t) (xs := ((as.drop (ks.getD i 0).toNat).take ((ks.getD (1 + i) 0).toNat - (ks.getD i 0).toNat)).map V.ref) (fun j σ' H' => H' = H6 ∧ ∃ o7, σ' = [some (.ref p), some (.ref l), some (.ref m), some (.ref r), some (.int ((1 + i : Nat) : Int)), some (.ref a0), some (.ref a1), o7]) ⟨rfl, _, rfl⟩ (fun j σ' H' _ ⟨e, _⟩ => by rw [e]; exact ht2) ?_ ?_⟩
        · rintro j x σ' H' hx ⟨rfl, o7, rfl⟩
          rw [List.getElem?_map, List.getElem?_take] at hx
          obtain ⟨b, hb, rfl⟩ := Option.map_eq_some_iff.mp hx
          by_cases hj : j < (ks.getD (1 + i) 0).toNat - (ks.getD i 0).toNat
          · rw [if_pos hj, List.getElem?_drop] at hb
            obtain ⟨b', hb', qb⟩ := paired_get L.2 (List.getElem?_eq_getElem (show (ks.getD i 0).toNat + j < ps.length by omega))
            rw [hb] at hb'
            cases hb'
            have und := un ((ks.getD i 0).toNat + j) (by omega) (by omega)
            unfold HC.gp at und
            rw [List.getD_eq_getElem?_getD (l := ps) (i := (ks.getD i 0).toNat + j), List.getElem?_eq_getElem (show (ks.getD i 0).toNat + j < ps.length by omega)] at und
            exact ⟨_, rfl, _, rfl, _, rfl, a0, a1, b, _, _, _, rfl, q0, q1, qb, b0, b1, bd _ (List.getElem_mem _), _, _, rfl, rfl, _, rfl, ite2 (fun hz => absurd (of_decide_eq_true hz) (Int.not_lt.mpr und)) (fun _ => ⟨rfl, _, rfl⟩)⟩
          · rw [if_neg hj] at hb
            exact nomatch hb
        · rintro σ' H' ⟨rfl, o7, rfl⟩
          exact ⟨_, _, _, _, rfl, L, hr5⟩
    · rintro σ' H' ⟨o4, o5, o6, o7, rfl, L, hr5⟩
      exact k _

end
theorem all_mk {l : PySem.W.OpenLaw} {w : World} {K : PySem.W.Frag} {h : Heap} {mg : Str → Option Value} {fa : Addr} (X : K.In h) (G : h.Ns mainGlobals mg) (hfa : mg "law" = some (.ref fa))
    {f0 : Addr} {od0 an0 : Option Addr} {sl0 : Array (Option Value)} {oc0 kV0 dc0 pm0 cd0 ct0 : Value}
    {f1 : Addr} {od1 an1 : Option Addr} {sl1 : Array (Option Value)} {oc1 kV1 dc1 pm1 cd1 ct1 : Value}
    {f2 : Addr} {od2 an2 : Option Addr} {sl2 : Array (Option Value)} {oc2 kV2 dc2 pm2 cd2 ct2 : Value}
    {f3 : Addr} {od3 an3 : Option Addr} {sl3 : Array (Option Value)} {oc3 kV3 dc3 pm3 cd3 ct3 : Value}
    {f4 : Addr} {od4 an4 : Option Addr} {sl4 : Array (Option Value)} {oc4 kV4 dc4 pm4 cd4 ct4 : Value}
    {f5 : Addr} {od5 an5 : Option Addr} {sl5 : Array (Option Value)} {oc5 kV5 dc5 pm5 cd5 ct5 : Value}
    {f6 : Addr} {od6 an6 : Option Addr} {sl6 : Array (Option Value)} {oc6 kV6 dc6 pm6 cd6 ct6 : Value}
    {f7 : Addr} {od7 an7 : Option Addr} {sl7 : Array (Option Value)} {oc7 kV7 dc7 pm7 cd7 ct7 : Value}
    {f8 : Addr} {od8 an8 : Option Addr} {sl8 : Array (Option Value)} {oc8 kV8 dc8 pm8 cd8 ct8 : Value}
    {f9 : Addr} {od9 an9 : Option Addr} {sl9 : Array (Option Value)} {oc9 kV9 dc9 pm9 cd9 ct9 : Value}
    {f10 : Addr} {od10 an10 : Option Addr} {sl10 : Array (Option Value)} {oc10 kV10 dc10 pm10 cd10 ct10 : Value}
    {f11 : Addr} {od11 an11 : Option Addr} {sl11 : Array (Option Value)} {oc11 kV11 dc11 pm11 cd11 ct11 : Value}
    (a0 : PySem.W.nsIn K mainGlobals "turned" = some (some (.ref f0))) (l0 : K.lookup f0 = some ⟨oc0, od0, .func (PySem.W.fnOf "turned" "turned" (defArgs s_turned) (defBody s_turned) (defScope s_turned) .none kV0 dc0 pm0 an0 cd0 ct0), sl0⟩) (c0 : PySem.W.codeIn K cd0 "turned" = true) (k0 : PySem.W.keepIn K (.ref f0) = true)
    (a1 : PySem.W.nsIn K mainGlobals "hull" = some (some (.ref f1))) (l1 : K.lookup f1 = some ⟨oc1, od1, .func (PySem.W.fnOf "hull" "hull" (defArgs s_hull) (defBody s_hull) (defScope s_hull) .none kV1 dc1 pm1 an1 cd1 ct1), sl1⟩) (c1 : PySem.W.codeIn K cd1 "hull" = true) (k1 : PySem.W.keepIn K (.ref f1) = true)
    (a2 : PySem.W.nsIn K mainGlobals "left_way" = some (some (.ref f2))) (l2 : K.lookup f2 = some ⟨oc2, od2, .func (PySem.W.fnOf "left_way" "left_way" (defArgs s_left_way) (defBody s_left_way) (defScope s_left_way) .none kV2 dc2 pm2 an2 cd2 ct2), sl2⟩) (c2 : PySem.W.codeIn K cd2 "left_way" = true) (k2 : PySem.W.keepIn K (.ref f2) = true)
    (a3 : PySem.W.nsIn K mainGlobals "check_hill" = some (some (.ref f3))) (l3 : K.lookup f3 = some ⟨oc3, od3, .func (PySem.W.fnOf "check_hill" "check_hill" (defArgs s_check_hill) (defBody s_check_hill) (defScope s_check_hill) .none kV3 dc3 pm3 an3 cd3 ct3), sl3⟩) (c3 : PySem.W.codeIn K cd3 "check_hill" = true) (k3 : PySem.W.keepIn K (.ref f3) = true)
    (a4 : PySem.W.nsIn K mainGlobals "rope" = some (some (.ref f4))) (l4 : K.lookup f4 = some ⟨oc4, od4, .func (PySem.W.fnOf "rope" "rope" (defArgs s_rope) (defBody s_rope) (defScope s_rope) .none kV4 dc4 pm4 an4 cd4 ct4), sl4⟩) (c4 : PySem.W.codeIn K cd4 "rope" = true) (k4 : PySem.W.keepIn K (.ref f4) = true)
    (a5 : PySem.W.nsIn K mainGlobals "_law_whole" = some (some (.ref f5))) (l5 : K.lookup f5 = some ⟨oc5, od5, .func (PySem.W.fnOf "_law_whole" "_law_whole" (defArgs s__law_whole) (defBody s__law_whole) (defScope s__law_whole) .none kV5 dc5 pm5 an5 cd5 ct5), sl5⟩) (c5 : PySem.W.codeIn K cd5 "_law_whole" = true) (k5 : PySem.W.keepIn K (.ref f5) = true)
    (a6 : PySem.W.nsIn K mainGlobals "_law_at" = some (some (.ref f6))) (l6 : K.lookup f6 = some ⟨oc6, od6, .func (PySem.W.fnOf "_law_at" "_law_at" (defArgs s__law_at) (defBody s__law_at) (defScope s__law_at) .none kV6 dc6 pm6 an6 cd6 ct6), sl6⟩) (c6 : PySem.W.codeIn K cd6 "_law_at" = true) (k6 : PySem.W.keepIn K (.ref f6) = true)
    (a7 : PySem.W.nsIn K mainGlobals "_law_are_points" = some (some (.ref f7))) (l7 : K.lookup f7 = some ⟨oc7, od7, .func (PySem.W.fnOf "_law_are_points" "_law_are_points" (defArgs s__law_are_points) (defBody s__law_are_points) (defScope s__law_are_points) .none kV7 dc7 pm7 an7 cd7 ct7), sl7⟩) (c7 : PySem.W.codeIn K cd7 "_law_are_points" = true) (k7 : PySem.W.keepIn K (.ref f7) = true)
    (a8 : PySem.W.nsIn K mainGlobals "_law_bend" = some (some (.ref f8))) (l8 : K.lookup f8 = some ⟨oc8, od8, .func (PySem.W.fnOf "_law_bend" "_law_bend" (defArgs s__law_bend) (defBody s__law_bend) (defScope s__law_bend) .none kV8 dc8 pm8 an8 cd8 ct8), sl8⟩) (c8 : PySem.W.codeIn K cd8 "_law_bend" = true) (k8 : PySem.W.keepIn K (.ref f8) = true)
    (a9 : PySem.W.nsIn K mainGlobals "_law_hill" = some (some (.ref f9))) (l9 : K.lookup f9 = some ⟨oc9, od9, .func (PySem.W.fnOf "_law_hill" "_law_hill" (defArgs s__law_hill) (defBody s__law_hill) (defScope s__law_hill) .none kV9 dc9 pm9 an9 cd9 ct9), sl9⟩) (c9 : PySem.W.codeIn K cd9 "_law_hill" = true) (k9 : PySem.W.keepIn K (.ref f9) = true)
    (a10 : PySem.W.nsIn K mainGlobals "_law_far_off" = some (some (.ref f10))) (l10 : K.lookup f10 = some ⟨oc10, od10, .func (PySem.W.fnOf "_law_far_off" "_law_far_off" (defArgs s__law_far_off) (defBody s__law_far_off) (defScope s__law_far_off) .none kV10 dc10 pm10 an10 cd10 ct10), sl10⟩) (c10 : PySem.W.codeIn K cd10 "_law_far_off" = true) (k10 : PySem.W.keepIn K (.ref f10) = true)
    (a11 : PySem.W.nsIn K mainGlobals "law" = some (some (.ref f11))) (l11 : K.lookup f11 = some ⟨oc11, od11, .func (PySem.W.fnOf "law" "law" (defArgs s_law) (defBody s_law) (defScope s_law) .none kV11 dc11 pm11 an11 cd11 ct11), sl11⟩) (c11 : PySem.W.codeIn K cd11 "law" = true) (k11 : PySem.W.keepIn K (.ref f11) = true)
    {CHillError : Addr} {cdHillError : ClassData} (nHillError : PySem.W.nsIn K mainGlobals "HillError" = some (some (.ref CHillError)))
    (eHillError : PySem.W.excIn K CHillError [.type "ValueError", .type "Exception", .type "BaseException", .type "object"] "ValueError.__new__" = true) (pHillError : PySem.W.findIn K (.ref CHillError) "__getattribute__" = some (some (.builtin "BaseException.__getattribute__"))) (qHillError : PySem.W.findIn K (.ref CHillError) "__getattr__" = some none)
    (rHillError : PySem.W.findIn K (.ref CHillError) "__class__" = some (some (.builtin "object.__class__"))) (moHillError : PySem.W.mroIn K CHillError (.type "object") = some true) (mbHillError : PySem.W.mroIn K CHillError (.type "BaseException") = some true) (clHillError : PySem.W.clsIn K CHillError = some cdHillError)
    (tyHillError : PySem.W.typeIn K (.ref CHillError) = some (.type "type")) (sbHillError : PySem.W.subIn K (.ref CHillError) (.type "BaseException") = some true) (svHillError : PySem.W.subIn K (.ref CHillError) (.type "ValueError") = some true)
    {CNoHill : Addr} {cdNoHill : ClassData} (nNoHill : PySem.W.nsIn K mainGlobals "NoHill" = some (some (.ref CNoHill)))
    (eNoHill : PySem.W.excIn K CNoHill [.type "ValueError", .type "Exception", .type "BaseException", .type "object"] "ValueError.__new__" = true) (pNoHill : PySem.W.findIn K (.ref CNoHill) "__getattribute__" = some (some (.builtin "BaseException.__getattribute__"))) (qNoHill : PySem.W.findIn K (.ref CNoHill) "__getattr__" = some none)
    (rNoHill : PySem.W.findIn K (.ref CNoHill) "__class__" = some (some (.builtin "object.__class__"))) (moNoHill : PySem.W.mroIn K CNoHill (.type "object") = some true) (mbNoHill : PySem.W.mroIn K CNoHill (.type "BaseException") = some true) (clNoHill : PySem.W.clsIn K CNoHill = some cdNoHill)
    (tyNoHill : PySem.W.typeIn K (.ref CNoHill) = some (.type "type")) (sbNoHill : PySem.W.subIn K (.ref CNoHill) (.type "BaseException") = some true) (svNoHill : PySem.W.subIn K (.ref CNoHill) (.type "ValueError") = some true)
    (sHillErrorHillError : PySem.W.subIn K (.ref CHillError) (.ref CHillError) = some true)
    (sHillErrorNoHill : PySem.W.subIn K (.ref CHillError) (.ref CNoHill) = some false)
    (sNoHillHillError : PySem.W.subIn K (.ref CNoHill) (.ref CHillError) = some true)
    (sNoHillNoHill : PySem.W.subIn K (.ref CNoHill) (.ref CNoHill) = some true)
    (z_ValueError : PySem.W.nsIn K mainGlobals "ValueError" = some none) (z_sorted : PySem.W.nsIn K mainGlobals "sorted" = some none) (z_range : PySem.W.nsIn K mainGlobals "range" = some none) (z_list : PySem.W.nsIn K mainGlobals "list" = some none) (z_set : PySem.W.nsIn K mainGlobals "set" = some none) (z_len : PySem.W.nsIn K mainGlobals "len" = some none) (z_isinstance : PySem.W.nsIn K mainGlobals "isinstance" = some none) (z_int : PySem.W.nsIn K mainGlobals "int" = some none) (z_reversed : PySem.W.nsIn K mainGlobals "reversed" = some none) (z_bool : PySem.W.nsIn K mainGlobals "bool" = some none) (z_tuple : PySem.W.nsIn K mainGlobals "tuple" = some none) :
    ∃ fd : FuncData, (∀ (s : Shared) (v : Value), BindsTo s fd ⟨[v], []⟩ [("_law_script", v)]) ∧ ∀ base : Heap, K.In base → base.Ns mainGlobals mg → FnOk l.prog w K mg base CX0 5 fa fd ["_law_script"] (sp_law K) := by
  have e := hfa.symm.trans (PySem.W.mg_of X G a11)
  cases e
  have F0 := fun_mk (st := s_turned) l0 c0 k0
  have F1 := fun_mk (st := s_hull) l1 c1 k1
  have F2 := fun_mk (st := s_left_way) l2 c2 k2
  have F3 := fun_mk (st := s_check_hill) l3 c3 k3
  have F4 := fun_mk (st := s_rope) l4 c4 k4
  have F5 := fun_mk (st := s__law_whole) l5 c5 k5
  have F6 := fun_mk (st := s__law_at) l6 c6 k6
  have F7 := fun_mk (st := s__law_are_points) l7 c7 k7
  have F8 := fun_mk (st := s__law_bend) l8 c8 k8
  have F9 := fun_mk (st := s__law_hill) l9 c9 k9
  have F10 := fun_mk (st := s__law_far_off) l10 c10 k10
  have F11 := fun_mk (st := s_law) l11 c11 k11
  have T : Txt K mg ⟨f0, _, f1, _, f2, _, f3, _, f4, _, f5, _, f6, _, f7, _, f8, _, f9, _, f10, _, fa, _, CHillError, CNoHill⟩ := ⟨PySem.W.mg_of X G a0, F0, (F0.binds (ps := ["one", "two", "three"]) fun _ _ _ _ _ _ us hl => match us, hl with | [_, _, _], _ => rfl),
    PySem.W.mg_of X G a1, F1, (F1.binds (ps := ["points"]) fun _ _ _ _ _ _ us hl => match us, hl with | [_], _ => rfl),
    PySem.W.mg_of X G a2, F2, (F2.binds (ps := ["spots"]) fun _ _ _ _ _ _ us hl => match us, hl with | [_], _ => rfl),
    PySem.W.mg_of X G a3, F3, (F3.binds (ps := ["points"]) fun _ _ _ _ _ _ us hl => match us, hl with | [_], _ => rfl),
    PySem.W.mg_of X G a4, F4, (F4.binds (ps := ["points"]) fun _ _ _ _ _ _ us hl => match us, hl with | [_], _ => rfl),
    PySem.W.mg_of X G a5, F5, (F5.binds (ps := ["_law_found"]) fun _ _ _ _ _ _ us hl => match us, hl with | [_], _ => rfl),
    PySem.W.mg_of X G a6, F6, (F6.binds (ps := ["_law_script", "_law_k"]) fun _ _ _ _ _ _ us hl => match us, hl with | [_, _], _ => rfl),
    PySem.W.mg_of X G a7, F7, (F7.binds (ps := ["_law_found"]) fun _ _ _ _ _ _ us hl => match us, hl with | [_], _ => rfl),
    PySem.W.mg_of X G a8, F8, (F8.binds (ps := ["_law_one", "_law_two", "_law_three"]) fun _ _ _ _ _ _ us hl => match us, hl with | [_, _, _], _ => rfl),
    PySem.W.mg_of X G a9, F9, (F9.binds (ps := ["_law_cells", "_law_first", "_law_most"]) fun _ _ _ _ _ _ us hl => match us, hl with | [_, _, _], _ => rfl),
    PySem.W.mg_of X G a10, F10, (F10.binds (ps := ["_law_points", "_law_cell"]) fun _ _ _ _ _ _ us hl => match us, hl with | [_, _], _ => rfl),
    PySem.W.mg_of X G a11, F11, (F11.binds (ps := ["_law_script"]) fun _ _ _ _ _ _ us hl => match us, hl with | [_], _ => rfl),
    PySem.W.mg_none_of X G z_ValueError,
    PySem.W.mg_none_of X G z_sorted,
    PySem.W.mg_none_of X G z_range,
    PySem.W.mg_none_of X G z_list,
    PySem.W.mg_none_of X G z_set,
    PySem.W.mg_none_of X G z_len,
    PySem.W.mg_none_of X G z_isinstance,
    PySem.W.mg_none_of X G z_int,
    PySem.W.mg_none_of X G z_reversed,
    PySem.W.mg_none_of X G z_bool,
    PySem.W.mg_none_of X G z_tuple,
    PySem.W.mg_of X G nHillError, ⟨eHillError, ⟨pHillError, qHillError, rHillError, moHillError, mbHillError, by rw [clHillError]; rfl⟩, tyHillError, sbHillError, svHillError⟩,
    PySem.W.mg_of X G nNoHill, ⟨eNoHill, ⟨pNoHill, qNoHill, rNoHill, moNoHill, mbNoHill, by rw [clNoHill]; rfl⟩, tyNoHill, sbNoHill, svNoHill⟩,
    sHillErrorHillError,
    sHillErrorNoHill,
    sNoHillHillError,
    sNoHillNoHill⟩
  exact ⟨PySem.W.fnOf "law" "law" (defArgs s_law) (defBody s_law) (defScope s_law) .none kV11 dc11 pm11 an11 cd11 ct11, fun s v => .of_eq rfl, fun base _ _ => ok_law T⟩
theorem walk {l : PySem.W.OpenLaw} {q : Program} {loose : List Str} {XP : (Str → Option Value) → Heap → Prop} {YP : World → Heap → Prop} {d : DefRec} {K : Params → PySem.W.Frag} (hn : l.most = some 63) (hdf : d.params.defaults = [])
    (hY : ∀ (w : World) (h : Heap), YP w h → (K w.params).In h)
    (F : ∀ (w : World) (mg : Str → Option Value) (fa : Addr) (h : Heap), (K w.params).In h → h.Ns mainGlobals mg → mg d.name = some (.ref fa) →
      ∃ fd : FuncData, (∀ (s : Shared) (u : Value), BindsTo s fd ⟨[u], []⟩ [("_law_script", u)]) ∧ ∀ base : Heap, (K w.params).In base → base.Ns mainGlobals mg → FnOk l.prog w (K w.params) mg base CX0 5 fa fd ["_law_script"] (sp_law (K w.params))) :
    PySem.W.WalkO q loose XP YP l.row.toRowW d [] (fun f vs => PySem.call f vs) :=
  L2.walk_of (n := 63) (k := 5) (x := "_law_script") (CX := fun _ => CX0) (sp := fun w => sp_law (K w.params)) hn (by decide) hdf ⟨rfl, by decide, by decide⟩ hY F (fun _ _ a ns hl _ hS => ⟨a, ns, rfl, hS, hl, fun _ => rfl⟩) fun _ _ _ _ _ z => z
end K10s
open PySem PySem.W PyProof.Rows
set_option maxRecDepth 100000 in
set_option maxHeartbeats 0 in
theorem PySem.Challenge.cw_hillcut_k10_whole_rope_holds : PySem.Challenge.rw_hillcut_k10_whole_rope.Holds := by
  w_on; o_law; k_head; (case hw => w_witness2)
  k_fill
  refine K10s.walk (l := PySem.Challenge.rw_hillcut_k10_whole_rope) rfl rfl (fun w h Y => PySem.W.kIn_of Y) ?F
  case F =>
    intro w mg fa h KX G hmg
    refine' K10s.all_mk KX G hmg ?a0 ?l0 ?c0 ?k0 ?a1 ?l1 ?c1 ?k1 ?a2 ?l2 ?c2 ?k2 ?a3 ?l3 ?c3 ?k3 ?a4 ?l4 ?c4 ?k4 ?a5 ?l5 ?c5 ?k5 ?a6 ?l6 ?c6 ?k6 ?a7 ?l7 ?c7 ?k7 ?a8 ?l8 ?c8 ?k8 ?a9 ?l9 ?c9 ?k9 ?a10 ?l10 ?c10 ?k10 ?a11 ?l11 ?c11 ?k11 ?nHillError ?eHillError ?pHillError ?qHillError ?rHillError ?moHillError ?mbHillError ?clHillError ?tyHillError ?sbHillError ?svHillError ?nNoHill ?eNoHill ?pNoHill ?qNoHill ?rNoHill ?moNoHill ?mbNoHill ?clNoHill ?tyNoHill ?sbNoHill ?svNoHill ?sHillErrorHillError ?sHillErrorNoHill ?sNoHillHillError ?sNoHillNoHill ?z_ValueError ?z_sorted ?z_range ?z_list ?z_set ?z_len ?z_isinstance ?z_int ?z_reversed ?z_bool ?z_tuple
    (case a0 => k_is)
    (case l0 => k_is)
    (case c0 => k_is)
    (case k0 => k_is)
    (case a1 => k_is)
    (case l1 => k_is)
    (case c1 => k_is)
    (case k1 => k_is)
    (case a2 => k_is)
    (case l2 => k_is)
    (case c2 => k_is)
    (case k2 => k_is)
    (case a3 => k_is)
    (case l3 => k_is)
    (case c3 => k_is)
    (case k3 => k_is)
    (case a4 => k_is)
    (case l4 => k_is)
    (case c4 => k_is)
    (case k4 => k_is)
    (case a5 => k_is)
    (case l5 => k_is)
    (case c5 => k_is)
    (case k5 => k_is)
    (case a6 => k_is)
    (case l6 => k_is)
    (case c6 => k_is)
    (case k6 => k_is)
    (case a7 => k_is)
    (case l7 => k_is)
    (case c7 => k_is)
    (case k7 => k_is)
    (case a8 => k_is)
    (case l8 => k_is)
    (case c8 => k_is)
    (case k8 => k_is)
    (case a9 => k_is)
    (case l9 => k_is)
    (case c9 => k_is)
    (case k9 => k_is)
    (case a10 => k_is)
    (case l10 => k_is)
    (case c10 => k_is)
    (case k10 => k_is)
    (case a11 => k_is)
    (case l11 => k_is)
    (case c11 => k_is)
    (case k11 => k_is)
    (case nHillError => k_is)
    (case eHillError => k_exc)
    (case pHillError => k_is)
    (case qHillError => k_is)
    (case rHillError => k_is)
    (case moHillError => k_is)
    (case mbHillError => k_is)
    (case clHillError => k_is)
    (case tyHillError => k_is)
    (case sbHillError => k_is)
    (case svHillError => k_is)
    (case nNoHill => k_is)
    (case eNoHill => k_exc)
    (case pNoHill => k_is)
    (case qNoHill => k_is)
    (case rNoHill => k_is)
    (case moNoHill => k_is)
    (case mbNoHill => k_is)
    (case clNoHill => k_is)
    (case tyNoHill => k_is)
    (case sbNoHill => k_is)
    (case svNoHill => k_is)
    (case sHillErrorHillError => k_is)
    (case sHillErrorNoHill => k_is)
    (case sNoHillHillError => k_is)
    (case sNoHillNoHill => k_is)
    (case z_ValueError => k_is)
    (case z_sorted => k_is)
    (case z_range => k_is)
    (case z_list => k_is)
    (case z_set => k_is)
    (case z_len => k_is)
    (case z_isinstance => k_is)
    (case z_int => k_is)
    (case z_reversed => k_is)
    (case z_bool => k_is)
    (case z_tuple => k_is)
