import PyProof.Rows.All
import Wide.All
import OpenK.AllK
import Wide.FinOn
import Lean
import PyProof.EqAt
import PyProof.EqKinds
import PyProof.TupleCall
import PySem.Challenge.RW_columnbook_k05_whole_read_or_refused
set_option Elab.async false
set_option linter.all false
set_option maxRecDepth 100000
namespace L2
open PySem PySem.Spec PyProof.Rows

/-- a key: an int or a str -/
abbrev Key := Sum Int Str
def keyIs : Key → Value → Bool
  | .inl k, v => Value.isInt k v
  | .inr x, v => Value.isStrOf x v
def keyH (w : World) : Key → Int
  | .inl k => hashInt k
  | .inr x => hashStr w x
theorem keyIs_shape : ∀ {k : Key} {v : Value}, keyIs k v = true → (∃ i t, k = Sum.inl i ∧ v = Value.int i t) ∨ (∃ x t, k = Sum.inr x ∧ v = Value.str x t)
  | .inl i, v, h => by
    obtain ⟨t, e⟩ := Value.isInt_shape (k := i) (v := v) h
    exact .inl ⟨i, t, rfl, e⟩
  | .inr x, v, h => by
    obtain ⟨t, e⟩ := Value.isStrOf_shape (x := x) (v := v) h
    exact .inr ⟨x, t, rfl, e⟩
theorem keyIs_int (i : Int) (t : Tok) : keyIs (.inl i) (.int i t) = true := by simp [keyIs, Value.isInt]
theorem keyIs_str (x : Str) (t : Tok) : keyIs (.inr x) (.str x t) = true := by simp [keyIs, Value.isStrOf]
theorem key_ll (a b : Int) : decide ((Sum.inl a : Key) = Sum.inl b) = (a == b) := by
  by_cases e : a = b
  · subst e; simp
  · have h : ¬ (Sum.inl a : Key) = Sum.inl b := fun q => e (Sum.inl.inj q)
    rw [decide_eq_false h]
    exact (beq_eq_false_iff_ne.mpr e).symm
theorem key_rr (a b : Str) : decide ((Sum.inr a : Key) = Sum.inr b) = decide (a = b) := by
  by_cases e : a = b
  · subst e; simp
  · have h : ¬ (Sum.inr a : Key) = Sum.inr b := fun q => e (Sum.inr.inj q)
    rw [decide_eq_false h, decide_eq_false e]
theorem key_lr (a : Int) (b : Str) : decide ((Sum.inl a : Key) = Sum.inr b) = false := decide_eq_false (fun q => nomatch q)
theorem key_rl (a : Str) (b : Int) : decide ((Sum.inr a : Key) = Sum.inl b) = false := decide_eq_false (fun q => nomatch q)

def mixKind (prog : Program) (w : World) : PySem.KeyKind prog w Key where
  is := keyIs
  hash := keyH w
  inj := fun v a b ha hb => by
    rcases keyIs_shape ha with ⟨i, t, rfl, rfl⟩ | ⟨x, t, rfl, rfl⟩
    · rcases keyIs_shape hb with ⟨j, u, rfl, e⟩ | ⟨y, u, rfl, e⟩
      · injection e with e1 _; rw [e1]
      · exact nomatch e
    · rcases keyIs_shape hb with ⟨j, u, rfl, e⟩ | ⟨y, u, rfl, e⟩
      · exact nomatch e
      · injection e with e1 _; rw [e1]
  byValue := fun k v h => by
    rcases keyIs_shape h with ⟨i, t, rfl, rfl⟩ | ⟨x, t, rfl, rfl⟩ <;> rfl
  pyHash := fun hv h => by
    rcases keyIs_shape hv with ⟨i, t, rfl, rfl⟩ | ⟨x, t, rfl, rfl⟩
    · exact wpAny_pyHash_int h
    · exact wpAny_pyHash_str h
  eqBool := fun hu hv h => by
    rcases keyIs_shape hu with ⟨i, t, rfl, rfl⟩ | ⟨x, t, rfl, rfl⟩
    · rcases keyIs_shape hv with ⟨j, u, rfl, rfl⟩ | ⟨y, u, rfl, rfl⟩
      · rw [key_ll] at h; exact wpAny_eqBool_int h
      · rw [key_lr] at h; exact SeqAt.EqAt.int_str i t y u _ _ _ _ h
    · rcases keyIs_shape hv with ⟨j, u, rfl, rfl⟩ | ⟨y, u, rfl, rfl⟩
      · rw [key_rl] at h; exact SeqAt.EqAt.str_int x t j u _ _ _ _ h
      · rw [key_rr] at h; exact wpAny_eqBool_str h
  «strs» := fun k x t v h => by
    rcases keyIs_shape h with ⟨i, u, rfl, e⟩ | ⟨y, u, rfl, e⟩
    · exact nomatch e
    · injection e with e1 _
      subst e1
      cases v <;> rfl

theorem mixKind_is (prog : Program) (w : World) (k : Key) (v : Value) : (mixKind prog w).is k v = keyIs k v := rfl
theorem mixKind_int (prog : Program) (w : World) (i : Int) (t : Tok) : (mixKind prog w).is (.inl i) (.int i t) = true := keyIs_int i t
theorem mixKind_str (prog : Program) (w : World) (x : Str) (t : Tok) : (mixKind prog w).is (.inr x) (.str x t) = true := keyIs_str x t
end L2

namespace L2
open PySem PySem.Spec PyProof.Rows

/-- a value, without the heap -/
inductive V where
  | non | bl (b : Bool) | int (i : Int) | str (x : Str) | byt (b : Array UInt8) | flt (b : UInt64) | ref (a : Addr) | ty (n : String)
  deriving DecidableEq

def RelV : V → Value → Prop
  | .non, u => u = Value.none
  | .bl b, u => u = Value.bool b
  | .int i, u => ∃ t, u = Value.int i t
  | .str x, u => ∃ t, u = Value.str x t
  | .byt b, u => ∃ t, u = Value.bytes b t
  | .flt b, u => ∃ t, u = Value.float b t
  | .ref a, u => u = Value.ref a
  | .ty n, u => u = Value.type n

abbrev Vals : List V → List Value → Prop := Paired RelV
theorem Vals.length {xs : List V} {us : List Value} (r : Vals xs us) : xs.length = us.length := Paired.length r
theorem Vals.get : ∀ {xs : List V} {us : List Value} {i : Nat} {x : V}, Vals xs us → xs[i]? = some x → ∃ u, us[i]? = some u ∧ RelV x u
  | _, _, _, _, .nil, e => by simp at e
  | _, _, 0, _, .cons r _, e => by simp at e; subst e; exact ⟨_, rfl, r⟩
  | _, _, i + 1, x, .cons _ t, e => by
    obtain ⟨u, h1, h2⟩ := Vals.get (i := i) (x := x) t (by simpa using e)
    exact ⟨u, by simpa using h1, h2⟩
theorem Vals.set {x : V} {u : Value} (r : RelV x u) : ∀ {xs : List V} {us : List Value} (i : Nat), Vals xs us → Vals (xs.set i x) (us.set i u)
  | _, _, _, .nil => .nil
  | _, _, 0, .cons _ t => .cons r t
  | _, _, i + 1, .cons q t => .cons q (Vals.set r i t)
theorem Vals.append : ∀ {xs ys : List V} {us ws : List Value}, Vals xs us → Vals ys ws → Vals (xs ++ ys) (us ++ ws)
  | _, _, _, _, .nil, s => s
  | _, _, _, _, .cons r t, s => .cons r (Vals.append t s)
theorem Vals.take : ∀ {xs : List V} {us : List Value} (n : Nat), Vals xs us → Vals (xs.take n) (us.take n)
  | _, _, 0, _ => .nil
  | _, _, _ + 1, .nil => .nil
  | _, _, n + 1, .cons r t => .cons r (Vals.take n t)
theorem Vals.drop : ∀ {xs : List V} {us : List Value} (n : Nat), Vals xs us → Vals (xs.drop n) (us.drop n)
  | _, _, 0, r => r
  | _, _, _ + 1, .nil => .nil
  | _, _, n + 1, .cons _ t => Vals.drop n t
theorem Vals.none_of : ∀ {xs : List V} {us : List Value} {i : Nat}, Vals xs us → xs[i]? = none → us[i]? = none := fun {xs us i} r e => by
  have h1 := r.length
  have h2 : xs.length ≤ i := List.getElem?_eq_none_iff.mp e
  exact List.getElem?_eq_none_iff.mpr (by omega)

def RelO : Option V → Option Value → Prop
  | some v, some u => RelV v u
  | none, none => True
  | _, _ => False
def KV {κ : Type} : List (κ × V) → List (κ × Value) → Prop := Paired fun (p : κ × V) (q : κ × Value) => p.1 = q.1 ∧ RelV p.2 q.2

/-- a key of a dict (00_mix): an int or a text -/
def kV : Key → V
  | .inl i => .int i
  | .inr x => .str x

/-- what stands at a tracked address -/
inductive HO where
  /-- a list -/
  | lst (xs : List V)
  /-- a tuple (never changes) -/
  | tup (xs : List V)
  /-- a dict whose keys are ints and texts; one whose keys are tuples of ints and texts (the empty one is both) -/
  | dK (kvs : List (Key × V)) | dT (kvs : List (List Key × V))
  /-- a set of ints: its members, its size -/
  | set (S : Int → Bool) (n : Nat)
  /-- an instance of the class at C, its dict at dx, its attributes -/
  | ins (C dx : Addr) (fs : List (Str × V))
  /-- the dict of the instance at x -/
  | own (x : Addr)
  /-- the dict of an exception -/
  | xd (fs : List (Str × V))
  /-- a bound method, f of x -/
  | met (f x : Addr)
  /-- a range object lo, lo + 1, .. below hi -/
  | rng (lo hi : Int)
  /-- a thing that is known to the object (the script; a dict while a loop walks it): read, never written while it is so -/
  | frz (o : Obj) (u : HO)
  /-- a code object's table -/
  | tbl (ps : Array Value)
  /-- any other thing, by what is true of its one object (a def of one's own: SetO a S n := HO.ext fun h => ..) -/
  | ext (φ : Heap → Prop)

abbrev Hp := Addr → Option HO
def upd (H : Hp) (a : Addr) (o : HO) : Hp := fun b => if b = a then some o else H b
theorem upd_same {H : Hp} {a : Addr} {o : HO} : upd H a o a = some o := by unfold upd; rw [if_pos rfl]
theorem upd_ne {H : Hp} {a b : Addr} {o : HO} (h : b ≠ a) : upd H a o b = H b := by unfold upd; rw [if_neg h]
theorem upd_upd {H : Hp} {a : Addr} {o u : HO} : upd (upd H a o) a u = upd H a u := by
  funext b; unfold upd; split <;> rfl
/-- two objects of different content stand apart -/
theorem ne_of {H : Hp} {a b : Addr} {o u : HO} (h : H a = some o) (h' : H b = some u) (d : o ≠ u) : a ≠ b := by
  intro e; subst e; rw [h] at h'; exact d (Option.some.inj h')
theorem ne_of_none {H : Hp} {a b : Addr} {o : HO} (h : H a = some o) (h' : H b = none) : a ≠ b := by
  intro e; subst e; rw [h] at h'; cases h'

section
variable (P : Program) (w : World)
def ObjOk (H : Hp) (h : Heap) (a : Addr) : HO → Prop
  | .lst xs => xs.length ≤ sizeLine ∧ ∃ (its : List Value) (n : Nat), Vals xs its ∧ h.get? a = some { cls := .type "list", data := .seq its.toArray n }
  | .tup xs => xs.length ≤ sizeLine ∧ ∃ its : List Value, Vals xs its ∧ IsTup h a its.toArray
  | .dK kvs => kvs.length ≤ sizeLine ∧ (a == sysModules) = false ∧ ∃ vs, KV kvs vs ∧ h.DictOf (mixKind P w) a vs
  | .dT kvs => kvs.length ≤ sizeLine ∧ (a == sysModules) = false ∧ ∃ xs : List (List Key × Addr × Value),
      Paired (fun (p : List Key × V) (q : List Key × Addr × Value) => p.1 = q.1 ∧ H q.2.1 = some (.tup (p.1.map kV)) ∧ RelV p.2 q.2.2) kvs xs ∧
      ∃ o es ep, h.get? a = some o ∧ o.ExactDict ∧ o.data = .dict es ep ∧ es.toList = xs.map (entryOfKey (tupleKind (mixKind P w))) ∧ (xs.map (·.1)).Nodup
  | .set S n => h.SetOf (intKind P w) a S n
  | .ins C dx fs => H dx = some (.own a) ∧ fs.length ≤ 1000 ∧ dx ≠ a ∧ h.get? a = some (PySem.W.instObj C dx) ∧
      ∃ mA, h.Ns1 dx mA ∧ (∀ f, RelO (fs.lookup f) (mA f)) ∧ PySem.Within mA (fs.map (·.1))
  | .own _ => ∃ o, h.get? a = some o
  | .xd fs => ∃ mA, h.Ns1 a mA ∧ ∀ f, RelO (fs.lookup f) (mA f)
  | .rng lo hi => ∃ t u v, h.get? a = some { cls := .type "range", data := .fields #[.int lo t, .int hi u, .int 1 v] }
  | .frz o u => h.get? a = some o ∧ ObjOk H h a u
  | .tbl ps => h.get? a = some { cls := .none, data := .fields ps }
  | .met f x => h.get? a = some (PySem.W.methodObj (.ref f) (.ref x))
  | .ext φ => φ h ∧ (∃ o, h.get? a = some o) ∧ ∀ h1 h2 : Heap, φ h1 → (∀ o, h1.get? a = some o → h2.get? a = some o) → φ h2
/-- the abstract heap is held -/
def HOk (H : Hp) (h : Heap) : Prop := ∀ a o, H a = some o → ObjOk P w H h a o
end

section
variable {P : Program} {w : World} {H H' : Hp} {h h' : Heap} {a : Addr} {o : HO}
theorem ObjOk.lt (x : ObjOk P w H h a o) : a < h.objs.size := by
  cases o with
  | lst xs => obtain ⟨_, _, _, _, e⟩ := x; exact Heap.lt_size e
  | tup xs => obtain ⟨_, _, _, p⟩ := x; exact p.lt
  | dK kvs => obtain ⟨_, _, _, _, o, _, _, e, _⟩ := x; exact Heap.lt_size e
  | dT kvs => obtain ⟨_, _, _, _, o, _, _, e, _⟩ := x; exact Heap.lt_size e
  | set S n => obtain ⟨o, _, _, _, e, _⟩ := x; exact Heap.lt_size e
  | ins C dx fs => obtain ⟨_, _, _, e, _⟩ := x; exact Heap.lt_size e
  | own y => obtain ⟨_, e⟩ := x; exact Heap.lt_size e
  | xd fs => obtain ⟨_, ⟨_, _, _, e, _⟩, _⟩ := x; exact Heap.lt_size e
  | rng lo hi => obtain ⟨_, _, _, e⟩ := x; exact Heap.lt_size e
  | frz ob u => obtain ⟨e, _⟩ := x; exact Heap.lt_size e
  | tbl ps => exact Heap.lt_size (show h.get? a = some _ from x)
  | met f y => exact Heap.lt_size (show h.get? a = some _ from x)
  | ext φ => obtain ⟨_, ⟨_, e⟩, _⟩ := x; exact Heap.lt_size e
theorem Paired.mapP {α β : Type} {F G : α → β → Prop} : ∀ {l₁ : List α} {l₂ : List β}, Paired F l₁ l₂ → (∀ a b, F a b → G a b) → Paired G l₁ l₂
  | _, _, .nil, _ => .nil
  | _, _, .cons r t, f => .cons (f _ _ r) (Paired.mapP t f)
theorem Paired.imp' {α β : Type} {F G : α → β → Prop} (f : ∀ a b, F a b → G a b) {l₁ : List α} {l₂ : List β} (r : Paired F l₁ l₂) : Paired G l₁ l₂ := Paired.mapP r f
/-- what an object's description leans on: its own object, its own dict, the tuples -/
theorem ObjOk.stay (x : ObjOk P w H h a o) (k : ∀ b u, (b = a ∨ H b = some (.own a)) → h.get? b = some u → h'.get? b = some u)
    (ho : ∀ b, H b = some (.own a) → H' b = some (.own a)) (ht : ∀ b xs, H b = some (.tup xs) → H' b = some (.tup xs)) : ObjOk P w H' h' a o := by
  induction o with
  | lst xs => obtain ⟨z, its, n, r, e⟩ := x; exact ⟨z, its, n, r, k _ _ (.inl rfl) e⟩
  | tup xs => obtain ⟨z, its, r, ob, e, c⟩ := x; exact ⟨z, its, r, ob, k _ _ (.inl rfl) e, c⟩
  | dK kvs => obtain ⟨z, y, vs, r, ob, es, ep, e, c⟩ := x; exact ⟨z, y, vs, r, ob, es, ep, k _ _ (.inl rfl) e, c⟩
  | dT kvs =>
    obtain ⟨z, y, xs, r, ob, es, ep, e, c⟩ := x
    exact ⟨z, y, xs, Paired.mapP r fun p q z => ⟨z.1, ht _ _ z.2.1, z.2.2⟩, ob, es, ep, k _ _ (.inl rfl) e, c⟩
  | set S n => obtain ⟨ob, es, ep, t, e, c⟩ := x; exact ⟨ob, es, ep, t, k _ _ (.inl rfl) e, c⟩
  | ins C dx fs =>
    obtain ⟨d, z, ne, e, mA, ⟨od, es, ep, e2, c⟩, r⟩ := x
    exact ⟨ho _ d, z, ne, k _ _ (.inl rfl) e, mA, ⟨od, es, ep, k _ _ (.inr d) e2, c⟩, r⟩
  | own y => obtain ⟨ob, e⟩ := x; exact ⟨ob, k _ _ (.inl rfl) e⟩
  | xd fs => obtain ⟨mA, ⟨od, es, ep, e, c⟩, r⟩ := x; exact ⟨mA, ⟨od, es, ep, k _ _ (.inl rfl) e, c⟩, r⟩
  | rng lo hi => obtain ⟨t, u, v, e⟩ := x; exact ⟨t, u, v, k _ _ (.inl rfl) e⟩
  | frz ob u ih => obtain ⟨e, q⟩ := x; exact ⟨k _ _ (.inl rfl) e, ih q⟩
  | tbl ps =>
    have e : h.get? a = some { cls := .none, data := .fields ps } := x
    show h'.get? a = some { cls := .none, data := .fields ps }
    exact k a _ (.inl rfl) e
  | met f y =>
    have e : h.get? a = some (PySem.W.methodObj (.ref f) (.ref y)) := x
    show h'.get? a = some (PySem.W.methodObj (.ref f) (.ref y))
    exact k a _ (.inl rfl) e
  | ext φ => obtain ⟨p, ⟨o, e⟩, st⟩ := x; exact ⟨st _ _ p fun o q => k _ _ (.inl rfl) q, ⟨o, k _ _ (.inl rfl) e⟩, st⟩
theorem HOk.lt (x : HOk P w H h) (e : H a = some o) : a < h.objs.size := (x a o e).lt
theorem HOk.fresh (x : HOk P w H h) (e : h.objs.size ≤ a) : H a = none := by
  cases q : H a with
  | none => rfl
  | some u => exact absurd (Nat.lt_of_lt_of_le (x.lt q) e) (Nat.lt_irrefl _)
/-- every object of the heap is kept -/
theorem HOk.kept (x : HOk P w H h) (k : ∀ b u, h.get? b = some u → h'.get? b = some u) : HOk P w H h' := fun a o e =>
  (x a o e).stay (fun b u _ q => k b u q) (fun _ q => q) fun _ _ q => q
/-- a new object is laid and tracked -/
theorem HOk.laid (x : HOk P w H h) (k : ∀ b u, h.get? b = some u → h'.get? b = some u) (hp : h.objs.size ≤ a) (new : ObjOk P w (upd H a o) h' a o) : HOk P w (upd H a o) h' := fun b u e => by
  have hn := x.fresh hp
  by_cases hb : b = a
  · subst hb; rw [upd_same] at e; cases e; exact new
  · rw [upd_ne hb] at e
    exact (x b u e).stay (fun c v _ q => k c v q) (fun c q => by rw [upd_ne (ne_of_none q hn)]; exact q) fun c xs q => by rw [upd_ne (ne_of_none q hn)]; exact q
end

/-- what may be read as u: it is u, or a known u -/
def Rd (H : Hp) (a : Addr) (u : HO) : Prop := H a = some u ∨ ∃ o, H a = some (.frz o u)
theorem Rd.of {H : Hp} {a : Addr} {u : HO} (h : H a = some u) : Rd H a u := .inl h
theorem Rd.ok {P : Program} {w : World} {H : Hp} {h : Heap} {a : Addr} {u : HO} (r : Rd H a u) (x : HOk P w H h) : ObjOk P w H h a u := by
  rcases r with r | ⟨o, r⟩
  · exact x a u r
  · obtain ⟨_, q⟩ := x a _ r
    exact q
/-- what may be written -/
def Mut : Option HO → Prop
  | some (.lst _) => True
  | some (.dK _) => True
  | some (.dT _) => True
  | some (.set _ _) => True
  | some (.ins _ _ _) => True
  | some (.ext _) => True
  | _ => False
section
variable {P : Program} {w : World} {H : Hp} {h h' : Heap} {x e : Addr} {o' : HO}
/-- the object at e is changed: x itself, or the dict of the instance x -/
theorem HOk.write (ok : HOk P w H h) (mu : Mut (H x)) (he : e = x ∨ H e = some (.own x)) (k : ∀ b u, b ≠ e → h.get? b = some u → h'.get? b = some u) (heo : ∃ u, h'.get? e = some u)
    (new : ObjOk P w (upd H x o') h' x o') : HOk P w (upd H x o') h' := fun b u q => by
  have nown : ∀ c y, H c = some (.own y) → c ≠ x := fun c y r z => by subst z; rw [r] at mu; exact mu
  have ntup : ∀ c xs, H c = some (.tup xs) → c ≠ x := fun c xs r z => by subst z; rw [r] at mu; exact mu
  by_cases hb : b = x
  · subst hb; rw [upd_same] at q; cases q; exact new
  · rw [upd_ne hb] at q
    by_cases hbe : b = e
    · have q' : H b = some (.own x) := by
        rcases he with z | z
        · exact absurd (hbe.trans z) hb
        · rw [hbe]; exact z
      rw [q] at q'; cases q'
      obtain ⟨v, hv⟩ := heo
      exact ⟨v, by rw [hbe]; exact hv⟩
    · refine (ok b u q).stay (fun c v hc r => k c v ?_ r) (fun c r => by rw [upd_ne (nown c b r)]; exact r) fun c xs r => by rw [upd_ne (ntup c xs r)]; exact r
      rcases hc with rfl | hc
      · exact hbe
      · rintro rfl
        rcases he with z | z
        · exact nown c b hc z
        · rw [hc] at z; cases z; exact hb rfl
end

/-! ### kept unless tracked; of the frames at fs (the callers') the slots may change (an exception that passes writes there); of the records at ex (iterators) nothing is said -/
structure Un (fs ex : List Addr) (H H' : Hp) (h h' : Heap) : Prop where
  keep : ∀ b o, h.get? b = some o → H b = none → b ∉ fs → b ∉ ex → h'.get? b = some o
  slot : ∀ b o, h.get? b = some o → H b = none → b ∈ fs → b ∉ ex → ∃ sl, h'.get? b = some { o with slots := sl }
  free : ∀ b o, h.get? b = some o → H b = none → b ∉ ex → H' b = none
  there : ∀ b o, h.get? b = some o → b ∉ ex → ∃ o', h'.get? b = some o'
  tups : ∀ b xs, H b = some (.tup xs) → H' b = some (.tup xs)
  frzs : ∀ b o u, H b = some (.frz o u) → H' b = some (.frz o u)
  tbls : ∀ b ps, H b = some (.tbl ps) → ∃ more, H' b = some (.tbl (ps ++ more))
section
variable {fs fs' ex ex' : List Addr} {H H1 H2 : Hp} {h h1 h2 h' : Heap} {a x e : Addr} {o : HO}
theorem Un.any (u : Un fs ex H H1 h h1) {b : Addr} {ob : Obj} (q : h.get? b = some ob) (n : H b = none) (hx : b ∉ ex) : ∃ sl, h1.get? b = some { ob with slots := sl } := by
  by_cases hb : b ∈ fs
  · exact u.slot b ob q n hb hx
  · exact ⟨ob.slots, u.keep b ob q n hb hx⟩
theorem Un.trans (a : Un fs ex H H1 h h1) (b : Un fs ex H1 H2 h1 h2) : Un fs ex H H2 h h2 where
  keep := fun c ob q n hc hx => b.keep c ob (a.keep c ob q n hc hx) (a.free c ob q n hx) hc hx
  slot := fun c ob q n hc hx => by
    obtain ⟨sl, e1⟩ := a.slot c ob q n hc hx
    obtain ⟨sl', e2⟩ := b.slot c _ e1 (a.free c ob q n hx) hc hx
    exact ⟨sl', e2⟩
  free := fun c ob q n hx => by
    obtain ⟨o', e1⟩ := a.there c ob q hx
    exact b.free c o' e1 (a.free c ob q n hx) hx
  there := fun c ob q hx => by
    obtain ⟨o', e1⟩ := a.there c ob q hx
    exact b.there c o' e1 hx
  tups := fun c xs q => b.tups c xs (a.tups c xs q)
  frzs := fun c ob xs q => b.frzs c ob xs (a.frzs c ob xs q)
  tbls := fun c ps q => by
    obtain ⟨m1, e1⟩ := a.tbls c ps q
    obtain ⟨m2, e2⟩ := b.tbls c _ e1
    exact ⟨m1 ++ m2, by rw [e2, Array.append_assoc]⟩
theorem Un.kept (k : ∀ b u, h.get? b = some u → h'.get? b = some u) : Un fs ex H H h h' :=
  ⟨fun b ob q _ _ _ => k b ob q, fun b ob q _ _ _ => ⟨ob.slots, k b ob q⟩, fun _ _ _ n _ => n, fun b ob q _ => ⟨ob, k b ob q⟩, fun _ _ q => q, fun _ _ _ q => q, fun _ ps q => ⟨#[], by rw [q]; simp⟩⟩
theorem Un.refl : Un fs ex H H h h := Un.kept fun _ _ q => q
theorem Un.laid (k : ∀ b u, h.get? b = some u → h'.get? b = some u) (hp : h.objs.size ≤ a) (hn : H a = none) : Un fs ex H (upd H a o) h h' where
  keep := fun b u q _ _ _ => k b u q
  slot := fun b u q _ _ _ => ⟨u.slots, k b u q⟩
  free := fun b u q n _ => by rw [upd_ne (Nat.ne_of_lt (Nat.lt_of_lt_of_le (Heap.lt_size q) hp))]; exact n
  there := fun b u q _ => ⟨u, k b u q⟩
  tups := fun b xs q => by rw [upd_ne (ne_of_none q hn)]; exact q
  frzs := fun b u xs q => by rw [upd_ne (ne_of_none q hn)]; exact q
  tbls := fun b ps q => ⟨#[], by rw [upd_ne (ne_of_none q hn), q]; simp⟩
theorem Un.write (mu : Mut (H x)) (he : e = x ∨ H e = some (.own x)) (k : ∀ b u, b ≠ e → h.get? b = some u → h'.get? b = some u) (heo : ∃ u, h'.get? e = some u) : Un fs ex H (upd H x o) h h' := by
  have hx : ∀ b, H b = none → b ≠ x := fun b n z => by subst z; rw [n] at mu; exact mu
  have hb : ∀ b, H b = none → b ≠ e := fun b n z => by
    subst z
    rcases he with r | r
    · exact hx b n r
    · rw [n] at r; cases r
  have hm : ∀ b u, H b = some u → ¬ Mut (some u) → b ≠ x := fun b u q nm z => by subst z; rw [q] at mu; exact nm mu
  refine ⟨fun b u q n _ _ => k b u (hb b n) q, fun b u q n _ _ => ⟨u.slots, k b u (hb b n) q⟩, fun b u q n _ => by rw [upd_ne (hx b n)]; exact n, fun b u q _ => ?_,
    fun b xs q => by rw [upd_ne (hm b _ q fun z => z)]; exact q, fun b u xs q => by rw [upd_ne (hm b _ q fun z => z)]; exact q, fun b ps q => ⟨#[], by rw [upd_ne (hm b _ q fun z => z), q]; simp⟩⟩
  by_cases hbe : b = e
  · subst hbe; exact heo
  · exact ⟨u, k b u hbe q⟩
theorem Un.mono (u : Un fs ex H H1 h h1) (hs : ∀ b ∈ fs, b ∈ fs') (hx : ∀ b ∈ ex, b ∈ ex') : Un fs' ex' H H1 h h1 :=
  ⟨fun b ob q n hb he => u.keep b ob q n (fun z => hb (hs b z)) fun z => he (hx b z), fun _ _ q n _ he => u.any q n fun z => he (hx _ z), fun b ob q n he => u.free b ob q n fun z => he (hx b z), fun b ob q he => u.there b ob q fun z => he (hx b z), u.tups, u.frzs, u.tbls⟩
end

/-! ### the heap without what is tracked -/
def trk (h : Heap) (H : Hp) : List Addr := (List.range h.objs.size).filter fun a => (H a).isSome
def hidT (h : Heap) (H : Hp) : Heap := PySem.W.hideAll h (trk h H)
theorem hidT_size (h : Heap) (H : Hp) : (hidT h H).objs.size = h.objs.size := PySem.W.hideAll_size _ _
theorem hidT_get {h : Heap} {H : Hp} {b : Addr} {o : Obj} (e : h.get? b = some o) (n : H b = none) : (hidT h H).get? b = some o :=
  PySem.W.hideAll_get _ e fun hm => by
    have q : (H b).isSome = true := (List.mem_filter.mp hm).2
    rw [n] at q; simp at q
theorem of_hidT {h : Heap} {H : Hp} {b : Addr} {o : Obj} (e : (hidT h H).get? b = some o) : h.get? b = some o ∧ H b = none := by
  have e' : h.get? b = some o := PySem.W.of_hideAll (trk h H) e
  refine ⟨e', ?_⟩
  cases q : H b with
  | none => rfl
  | some x =>
    have hm : b ∈ trk h H := List.mem_filter.mpr ⟨List.mem_range.mpr (Heap.lt_size e'), by simp [q]⟩
    have z : (hidT h H).get? b = none := PySem.W.hideAll_none (trk h H) hm
    rw [z] at e; cases e

/-! ### OpenK's ledger, filled with every new object but one -/
def allNews (g h : Heap) (L : Addr) : List (Addr × Obj) := (List.range h.objs.size).filterMap fun a => if a = L ∨ (g.get? a).isSome = true then none else (h.get? a).map fun o => (a, o)
theorem mem_allNews {g h : Heap} {L a : Addr} {o : Obj} (h1 : a ≠ L) (h2 : g.get? a = none) (h3 : h.get? a = some o) : (a, o) ∈ allNews g h L :=
  List.mem_filterMap.mpr ⟨a, List.mem_range.mpr (Heap.lt_size h3), by simp [h1, h2, h3]⟩
theorem of_mem_allNews {g h : Heap} {L : Addr} {p : Addr × Obj} (hp : p ∈ allNews g h L) : p.1 ≠ L ∧ g.get? p.1 = none ∧ h.get? p.1 = some p.2 := by
  obtain ⟨b, _, e⟩ := List.mem_filterMap.mp hp
  split at e
  · cases e
  · rename_i hn
    cases q : h.get? b with
    | none => rw [q] at e; simp at e
    | some u =>
      rw [q] at e
      simp only [Option.map_some, Option.some.injEq] at e
      subst e
      refine ⟨fun z => hn (.inl z), ?_, q⟩
      show g.get? b = none
      cases r : g.get? b with
      | none => rfl
      | some v => exact (hn (.inr (by simp [r]))).elim
def rest (g h : Heap) (L d : Addr) : List (Addr × Obj) := (allNews g h L).filter fun p => decide (p.1 ≠ d)
theorem rest_ne {g h : Heap} {L d : Addr} : ∀ p ∈ rest g h L d, p.1 ≠ d := fun p hp => of_decide_eq_true (List.mem_filter.mp hp).2
theorem mem_rest {g h : Heap} {L d a : Addr} {o : Obj} (h1 : a ≠ L) (h2 : g.get? a = none) (h3 : h.get? a = some o) (h4 : a ≠ d) : (a, o) ∈ rest g h L d :=
  List.mem_filter.mpr ⟨mem_allNews h1 h2 h3, decide_eq_true h4⟩
theorem news_all {g h : Heap} {L : Addr} : News g L h (allNews g h L) := fun p hp => let ⟨a, b, c⟩ := of_mem_allNews hp; ⟨c, a, b⟩
theorem news_at {g h : Heap} {L d : Addr} {o : Obj} (h1 : d ≠ L) (h2 : g.get? d = none) (h3 : h.get? d = some o) : News g L h ((d, o) :: rest g h L d) := fun p hp => by
  rcases List.mem_cons.mp hp with rfl | hp
  · exact ⟨h3, h1, h2⟩
  · exact news_all p (List.mem_filter.mp hp).1
/-- behind a rule that changed d alone: all else but the frame is kept -/
theorem kept_of_news {g h h' : Heap} {L d : Addr} {m : Str → Option Value} (k : ∀ b o, g.get? b = some o → h.get? b = some o) (F : Fr g L h' m) (N : News g L h' (rest g h L d)) :
    ∀ b o, b ≠ L → b ≠ d → h.get? b = some o → h'.get? b = some o := fun b o h1 h2 e => by
  cases q : g.get? b with
  | some u =>
    have := k b u q
    rw [e] at this; cases this
    exact F.keep b _ q
  | none => exact (N (b, o) (mem_rest h1 q e h2)).1
end L2

namespace L2
open PySem PySem.Spec PyProof.Rows

/-- the module's facts, over the base: the heap at the law's entry without what is tracked there -/
structure Mod (K : PySem.W.Frag) (mg : Str → Option Value) (base : Heap) : Prop where
  kin : K.In base
  glob : base.Ns mainGlobals mg
  blt : ∃ mb, base.Ns builtinsNs mb ∧ ∀ x : Str, x ≠ "__name__" → mb x = bootBuiltins x
  nolimit : base.NoLimit

/-- the context: a def's body (or a comprehension's block) running. base: fixed through the whole law; s₀, H₀: the entry; outer: the frames whose slots others may change (a def's callers); stack: all frames that run;
   ex: iterators that were made ahead of the entry and are walked here (a comprehension's); fn: the names whose cells were made at the entry (a def: all; a comprehension's block: its own); calm: not within an except suite; pn: pins that every state bears; xe: what is wanted of an exception that leaves the code -/
structure Cx where
  prog : Program
  w : World
  K : PySem.W.Frag
  mg : Str → Option Value
  base : Heap
  A : Around
  N : List Str
  s₀ : Shared
  H₀ : Hp
  env : Env
  outer : List Env
  stack : List Env
  ex : List Addr
  fn : Str → Bool
  calm : Bool
  pn : List (Addr × Obj)
  xe : Value → Shared → Prop
/-- the callers' frames -/
def frs (l : List Env) : List Addr := l.filterMap (·.frame)
abbrev Cx.fs (X : Cx) : List Addr := frs X.outer

def Vis (sc : Scope) (x : Str) : Prop := sc.names.lookup x = some .local ∨ sc.names.lookup x = some .cell ∨ sc.names.lookup x = some .free
def Loc (sc : Scope) (x : Str) : Prop := sc.names.lookup x = some .local ∨ sc.names.lookup x = some .cell
def Look (env : Env) (h : Heap) (m : Str → Option Value) (x : Str) (u : Value) : Prop :=
  (env.kindOf x = some .local ∧ m x = some u) ∨ ((env.kindOf x = some .cell ∨ env.kindOf x = some .free) ∧ ∃ c, env.cells.lookup x = some c ∧ h.IsCell c (some u))

structure Cx.Ok (X : Cx) : Prop where
  mod : Mod X.K X.mg X.base
  kind : X.env.scope.kind = .function
  glob : X.env.globals = mainGlobals
  blt : X.env.builtins = builtinsNs
  above : X.s₀.heap.objs.size ≤ X.env.locals
  inj : ∀ x y c, X.env.cells.lookup x = some c → X.env.cells.lookup y = some c → x = y
  has : ∀ x, (X.env.kindOf x = some .cell ∨ X.env.kindOf x = some .free) → ∃ c, X.env.cells.lookup x = some c
  cab : ∀ x c, X.fn x = true → X.env.cells.lookup x = some c → X.s₀.heap.objs.size ≤ c
  hd : X.calm = true → X.A.handled = none
  frames : X.A.frames = some X.stack
  stk : X.stack = X.outer ∨ (X.stack = X.env :: X.outer ∧ X.env.frame = some X.env.locals)
  exf : ∀ b ∈ X.ex, b ≠ X.env.locals ∧ ∀ x c, X.env.cells.lookup x = some c → c ≠ b
  bs : ∀ b o, X.base.get? b = some o → X.s₀.heap.get? b = some o ∧ X.H₀ b = none
  bsz : X.base.objs.size ≤ X.s₀.heap.objs.size
  noex : ∀ b o, X.base.get? b = some o → b ∉ X.ex
  exfs : ∀ b ∈ X.ex, b ∉ X.fs
  funs : X.s₀.heap.FunFrames X.base X.outer
  frf : ∀ b ∈ X.fs, X.H₀ b = none

structure Inv (X : Cx) (pins : List (Addr × Obj)) (σ : List (Option V)) (H : Hp) (s : Shared) : Prop where
  ok : X.Ok
  os : s.os = X.s₀.os
  bare : AllBare s.gens
  base : Un X.fs X.ex X.H₀ H X.s₀.heap s.heap
  loc : ∃ m, s.heap.Ns X.env.locals m ∧ ∀ (i : Nat) (x : Str) (v : V), X.N[i]? = some x → σ[i]? = some (some v) → Vis X.env.scope x → ∃ u, RelV v u ∧ Look X.env s.heap m x u
  cell : ∀ x c, X.env.cells.lookup x = some c → ∃ v, s.heap.IsCell c v
  free : H X.env.locals = none
  freeC : ∀ x c, X.env.cells.lookup x = some c → H c = none
  pin : ∀ p ∈ X.pn ++ pins, s.heap.get? p.1 = some p.2 ∧ H p.1 = none ∧ p.1 ≠ X.env.locals ∧ p.1 ∉ X.fs ∧ ∀ v, p.2.data ≠ .cell v
  hok : HOk X.prog X.w H s.heap
  len : σ.length = X.N.length

section
variable {X : Cx} {pins : List (Addr × Obj)} {σ : List (Option V)} {H H' : Hp} {s : Shared} {h' : Heap}

theorem Cx.Ok.nofr (ok : X.Ok) {b : Addr} {o : Obj} (e : X.base.get? b = some o) : b ∉ X.fs := fun hb => by
  have := (ok.funs.mem hb).1
  rw [e] at this; cases this
theorem Inv.bs (I : Inv X pins σ H s) : ∀ b o, X.base.get? b = some o → s.heap.get? b = some o ∧ H b = none := fun b o e =>
  ⟨I.base.keep b o (I.ok.bs b o e).1 (I.ok.bs b o e).2 (I.ok.nofr e) (I.ok.noex b o e), I.base.free b o (I.ok.bs b o e).1 (I.ok.bs b o e).2 (I.ok.noex b o e)⟩
theorem Inv.bk (I : Inv X pins σ H s) : ∀ b o, X.base.get? b = some o → s.heap.get? b = some o := fun b o e => (I.bs b o e).1
theorem Inv.mod (I : Inv X pins σ H s) : Mod X.K X.mg X.base := I.ok.mod
theorem Inv.kIn (I : Inv X pins σ H s) : X.K.In s.heap := I.ok.mod.kin.keeps I.bk
theorem Inv.nolimit (I : Inv X pins σ H s) : s.heap.NoLimit := I.ok.mod.nolimit.keeps I.bk
/-- the frame over the base: for OpenK's rules (K.In X.base is I.mod.kin) -/
theorem Inv.fr (I : Inv X pins σ H s) : ∃ m, Fr X.base X.env.locals s.heap m :=
  let ⟨m, hn, _⟩ := I.loc
  ⟨m, hn, I.bk, Nat.le_trans I.ok.bsz I.ok.above⟩
theorem Inv.lt (I : Inv X pins σ H s) : X.env.locals < s.heap.objs.size := let ⟨_, hn, _⟩ := I.loc; hn.lt
theorem Inv.sz (I : Inv X pins σ H s) : X.s₀.heap.objs.size ≤ s.heap.objs.size := Nat.le_trans I.ok.above (Nat.le_of_lt I.lt)
theorem Inv.nofs (I : Inv X pins σ H s) {a : Addr} (h : s.heap.objs.size ≤ a) : a ∉ X.fs := fun hb => by
  obtain ⟨_, o, ho, _⟩ := I.ok.funs.mem hb
  exact absurd (Nat.lt_of_lt_of_le (Heap.lt_size ho) (Nat.le_trans I.sz h)) (Nat.lt_irrefl _)
theorem Inv.cne (I : Inv X pins σ H s) : ∀ x c, X.env.cells.lookup x = some c → c ≠ X.env.locals := fun x c e z => by
  obtain ⟨v, o, ho, hd⟩ := I.cell x c e
  obtain ⟨m, ⟨o', es, ep, ho', hd', _⟩, _⟩ := I.loc
  rw [z, ho'] at ho; cases ho; rw [hd'] at hd; cases hd
theorem Inv.funs (I : Inv X pins σ H s) : s.heap.FunFrames X.base X.outer := by
  have all : ∀ (l : List Env), (∀ b ∈ frs l, b ∈ X.fs) → X.s₀.heap.FunFrames X.base l → s.heap.FunFrames X.base l := by
    intro l
    induction l with
    | nil => intro _ _; trivial
    | cons env r ih =>
      intro hs hl
      obtain ⟨hk, ⟨L, o, hf, hn, ho, hd⟩, hr⟩ := hl
      have hL : L ∈ X.fs := hs L (by unfold frs; rw [List.filterMap_cons, hf]; exact List.mem_cons_self)
      obtain ⟨sl, e⟩ := I.base.slot L o ho (I.ok.frf L hL) hL fun z => I.ok.exfs L z hL
      exact ⟨hk, ⟨L, _, hf, hn, e, hd⟩, ih (fun b hb => hs b (by unfold frs; rw [List.filterMap_cons, hf]; exact List.mem_cons_of_mem _ hb)) hr⟩
  exact all X.outer (fun _ hb => hb) I.ok.funs

/-- the frames that run, for a call -/
theorem Inv.stack (I : Inv X pins σ H s) : s.heap.FunFrames X.base X.stack := by
  rcases I.ok.stk with e | ⟨e, hf⟩
  · rw [e]; exact I.funs
  · rw [e]
    obtain ⟨m, hn, _⟩ := I.loc
    refine .cons (by rw [I.ok.kind]; decide) hf hn ?_ I.funs
    exact Heap.get?_none_of_le (Nat.le_trans I.ok.bsz I.ok.above)
theorem Inv.stkSub (I : Inv X pins σ H s) : ∀ b ∈ frs X.stack, b ∈ X.env.locals :: X.fs := fun b hb => by
  rcases I.ok.stk with e | ⟨e, hf⟩
  · rw [e] at hb; exact List.mem_cons_of_mem _ hb
  · rw [e] at hb
    unfold frs at hb
    rw [List.filterMap_cons, hf] at hb
    exact hb
theorem Inv.stkFree (I : Inv X pins σ H s) : ∀ b ∈ frs X.stack, H b = none := fun b hb => by
  rcases List.mem_cons.mp (I.stkSub b hb) with e | hb
  · rw [e]; exact I.free
  · obtain ⟨_, o, ho, _⟩ := I.ok.funs.mem hb
    exact I.base.free b o ho (I.ok.frf b hb) fun z => I.ok.exfs b z hb

/-- THE STEP: the untracked objects but the frame and the records at ch are kept (the callers' frames up to slots), the frame's map is kept, the new abstract heap is held -/
theorem Inv.step {g' : Array GenState} {t' : Nat} {d' : Drawn} {ch : List Addr} (I : Inv X pins σ H s)
    (hch : ∀ b ∈ ch, (b ∈ X.ex ∨ X.s₀.heap.objs.size ≤ b) ∧ b ≠ X.env.locals ∧ (∀ x c, X.env.cells.lookup x = some c → c ≠ b) ∧ ∀ p ∈ X.pn ++ pins, p.1 ≠ b)
    (keep : ∀ b o, b ≠ X.env.locals → b ∉ X.fs → b ∉ ch → s.heap.get? b = some o → H b = none → h'.get? b = some o)
    (slot : ∀ b o, b ≠ X.env.locals → b ∈ X.fs → b ∉ ch → s.heap.get? b = some o → H b = none → ∃ sl, h'.get? b = some { o with slots := sl }) (free : ∀ b o, b ∉ ch → s.heap.get? b = some o → H b = none → H' b = none)
    (there : ∀ b o, b ∉ ch → s.heap.get? b = some o → ∃ o', h'.get? b = some o')
    (tups : ∀ b xs, H b = some (.tup xs) → H' b = some (.tup xs)) (frzs : ∀ b o u, H b = some (.frz o u) → H' b = some (.frz o u)) (tbls : ∀ b ps, H b = some (.tbl ps) → ∃ more, H' b = some (.tbl (ps ++ more)))
    (ns : ∀ m, s.heap.Ns X.env.locals m → h'.Ns X.env.locals m) (hok : HOk X.prog X.w H' h') (hg : AllBare g') :
    Inv X pins σ H' { s with heap := h', gens := g', drawn := d', toks := t' } := by
  have neL : ∀ b o, X.s₀.heap.get? b = some o → b ≠ X.env.locals := fun b o e => Nat.ne_of_lt (Nat.lt_of_lt_of_le (Heap.lt_size e) I.ok.above)
  have neC : ∀ b o, X.s₀.heap.get? b = some o → b ∉ X.ex → b ∉ ch := fun b o e hx hb => by
    rcases (hch b hb).1 with z | z
    · exact hx z
    · exact absurd (Nat.lt_of_lt_of_le (Heap.lt_size e) z) (Nat.lt_irrefl _)
  have cellK : ∀ x c, X.env.cells.lookup x = some c → ∀ v, s.heap.IsCell c v → h'.IsCell c v := fun x c e v ⟨o, ho, hd⟩ => by
    have nch : c ∉ ch := fun z => (hch c z).2.2.1 x c e rfl
    by_cases hc : c ∈ X.fs
    · obtain ⟨sl, q⟩ := slot c o (I.cne x c e) hc nch ho (I.freeC x c e)
      exact ⟨_, q, hd⟩
    · exact ⟨o, keep c o (I.cne x c e) hc nch ho (I.freeC x c e), hd⟩
  refine ⟨I.ok, I.os, hg, ⟨fun b o e n hb hx => ?_, fun b o e n hb hx => ?_, fun b o e n hx => ?_, fun b o e hx => ?_, fun b xs e => tups b xs (I.base.tups b xs e), fun b o xs e => frzs b o xs (I.base.frzs b o xs e), fun b ps e => ?_⟩, ?_, fun x c e => ?_, ?_, fun x c e => ?_, fun p hp => ?_, hok, I.len⟩
  · exact keep b o (neL b o e) hb (neC b o e hx) (I.base.keep b o e n hb hx) (I.base.free b o e n hx)
  · obtain ⟨sl, e1⟩ := I.base.slot b o e n hb hx
    obtain ⟨sl', e2⟩ := slot b _ (neL b o e) hb (neC b o e hx) e1 (I.base.free b o e n hx)
    exact ⟨sl', e2⟩
  · obtain ⟨o', e1⟩ := I.base.there b o e hx
    exact free b o' (neC b o e hx) e1 (I.base.free b o e n hx)
  · obtain ⟨o', e1⟩ := I.base.there b o e hx
    exact there b o' (neC b o e hx) e1
  · obtain ⟨m1, e1⟩ := I.base.tbls b ps e
    obtain ⟨m2, e2⟩ := tbls b _ e1
    exact ⟨m1 ++ m2, by rw [e2, Array.append_assoc]⟩
  · obtain ⟨m, hn, hl⟩ := I.loc
    refine ⟨m, ns m hn, fun i x v e1 e2 e3 => ?_⟩
    obtain ⟨u, r, l⟩ := hl i x v e1 e2 e3
    refine ⟨u, r, ?_⟩
    rcases l with l | ⟨k, c, e, z⟩
    · exact .inl l
    · exact .inr ⟨k, c, e, cellK x c e _ z⟩
  · obtain ⟨v, z⟩ := I.cell x c e
    exact ⟨v, cellK x c e v z⟩
  · obtain ⟨m, ⟨o, _, _, ho, _⟩, _⟩ := I.loc
    exact free _ o (fun z => (hch _ z).2.1 rfl) ho I.free
  · obtain ⟨v, o, ho, hd⟩ := I.cell x c e
    exact free c o (fun z => (hch c z).2.2.1 x c e rfl) ho (I.freeC x c e)
  · obtain ⟨e, n, ne, nf, d⟩ := I.pin p hp
    have nch : p.1 ∉ ch := fun z => (hch p.1 z).2.2.2 p hp rfl
    exact ⟨keep p.1 p.2 ne nf nch e n, free p.1 p.2 nch e n, ne, nf, d⟩
/-- .. where the frame's own object is kept too -/
theorem Inv.un {t' : Nat} (I : Inv X pins σ H s) (u : Un X.fs [] H H' s.heap h') (hok : HOk X.prog X.w H' h') : Inv X pins σ H' { s with heap := h', toks := t' } := by
  obtain ⟨m, ⟨o, es, ep, ho, r⟩, _⟩ := id I.loc
  obtain ⟨sl, hL⟩ := u.any ho I.free (by simp)
  exact I.step (g' := s.gens) (d' := s.drawn) (ch := []) (fun _ z => nomatch z) (fun b o _ hb _ e n => u.keep b o e n hb (by simp)) (fun b o _ hb _ e n => u.slot b o e n hb (by simp)) (fun b o _ e n => u.free b o e n (by simp)) (fun b o _ e => u.there b o e (by simp)) u.tups u.frzs u.tbls (fun m' hm => by
    obtain ⟨o', es', ep', ho', r'⟩ := hm
    rw [ho] at ho'; cases ho'
    exact ⟨_, es', ep', hL, r'⟩) hok I.bare
/-- behind a call (or a comprehension's block): the slots of this frame may have changed too, the records at ch may have turned -/
theorem Inv.call {g' : Array GenState} {t' : Nat} {d' : Drawn} {ch : List Addr} (I : Inv X pins σ H s) (u : Un (frs X.stack) ch H H' s.heap h') (hok : HOk X.prog X.w H' h') (hg : AllBare g')
    (hch : ∀ b ∈ ch, (b ∈ X.ex ∨ X.s₀.heap.objs.size ≤ b) ∧ b ≠ X.env.locals ∧ (∀ x c, X.env.cells.lookup x = some c → c ≠ b) ∧ ∀ p ∈ X.pn ++ pins, p.1 ≠ b) :
    Inv X pins σ H' { s with heap := h', gens := g', drawn := d', toks := t' } := by
  obtain ⟨m, ⟨o, es, ep, ho, r⟩, _⟩ := id I.loc
  obtain ⟨sl, hL⟩ := u.any ho I.free fun z => (hch _ z).2.1 rfl
  exact I.step (ch := ch) hch (fun b o hL hb hc e n => u.keep b o e n (fun z => (List.mem_cons.mp (I.stkSub b z)).elim hL hb) hc) (fun b o _ _ hc e n => u.any e n hc) (fun b o hc e n => u.free b o e n hc) (fun b o hc e => u.there b o e hc) u.tups u.frzs u.tbls (fun m' hm => by
    obtain ⟨o', es', ep', ho', r'⟩ := hm
    rw [ho] at ho'; cases ho'
    exact ⟨_, es', ep', hL, r'⟩) hok hg
/-- an untracked record of ours (an iterator) has turned -/
theorem Inv.turned {t' : Nat} {it : Addr} (I : Inv X pins σ H s) (k : ∀ b o, b ≠ it → s.heap.get? b = some o → h'.get? b = some o) (hn : H it = none) (hL : it ≠ X.env.locals)
    (h1 : it ∈ X.ex ∨ X.s₀.heap.objs.size ≤ it) (h2 : ∀ x c, X.env.cells.lookup x = some c → c ≠ it) (h3 : ∀ p ∈ X.pn ++ pins, p.1 ≠ it) : Inv X pins σ H { s with heap := h', toks := t' } := by
  have nit : ∀ b u, H b = some u → b ≠ it := fun b u e z => by rw [z, hn] at e; cases e
  refine I.step (g' := s.gens) (d' := s.drawn) (ch := [it]) (fun b hb => ?_) (fun b o _ _ hc e _ => k b o (fun z => hc (by simp [z])) e) (fun b o _ _ hc e _ => ⟨o.slots, k b o (fun z => hc (by simp [z])) e⟩) (fun _ _ _ _ n => n)
    (fun b o hc e => ⟨o, k b o (fun z => hc (by simp [z])) e⟩) (fun _ _ e => e) (fun _ _ _ e => e) (fun b ps e => ⟨#[], by rw [e]; simp⟩) (fun m hm => ?_) (fun b u e => ?_) I.bare
  · have e : b = it := by simpa using hb
    subst e
    exact ⟨h1, hL, h2, h3⟩
  · obtain ⟨o, es, ep, ho, r⟩ := hm
    exact ⟨o, es, ep, k _ o (Ne.symm hL) ho, r⟩
  · refine (I.hok b u e).stay (fun c v hc q => k c v ?_ q) (fun _ q => q) fun _ _ q => q
    rcases hc with z | z
    · rw [z]; exact nit b u e
    · exact nit c _ z
theorem Inv.tok (I : Inv X pins σ H s) (t : Nat) : Inv X pins σ H { s with toks := t } := I.un (h' := s.heap) (t' := t) Un.refl I.hok
/-- all objects kept -/
theorem Inv.kept {t' : Nat} (I : Inv X pins σ H s) (k : ∀ b u, s.heap.get? b = some u → h'.get? b = some u) : Inv X pins σ H { s with heap := h', toks := t' } := I.un (Un.kept k) (I.hok.kept k)
/-- a new object laid and tracked -/
theorem Inv.laid {a : Addr} {o : HO} {t' : Nat} (I : Inv X pins σ H s) (k : ∀ b u, s.heap.get? b = some u → h'.get? b = some u) (hp : s.heap.objs.size ≤ a) (new : ObjOk X.prog X.w (upd H a o) h' a o) :
    Inv X pins σ (upd H a o) { s with heap := h', toks := t' } := I.un (Un.laid k hp (I.hok.fresh hp)) (I.hok.laid k hp new)
/-- an object written -/
theorem Inv.write {x e : Addr} {o : HO} {t' : Nat} (I : Inv X pins σ H s) (mu : Mut (H x)) (he : e = x ∨ H e = some (.own x)) (k : ∀ b u, b ≠ e → s.heap.get? b = some u → h'.get? b = some u) (heo : ∃ u, h'.get? e = some u)
    (new : ObjOk X.prog X.w (upd H x o) h' x o) : Inv X pins σ (upd H x o) { s with heap := h', toks := t' } := I.un (Un.write mu he k heo) (I.hok.write mu he k heo new)
/-- forgetting slots, pins -/
theorem Inv.weak {σ' : List (Option V)} (I : Inv X pins σ H s) (hl : σ'.length = σ.length) (w : ∀ (i : Nat) v, σ'[i]? = some (some v) → σ[i]? = some (some v)) : Inv X pins σ' H s :=
  ⟨I.ok, I.os, I.bare, I.base, let ⟨m, hn, hl'⟩ := I.loc; ⟨m, hn, fun i x v e1 e2 e3 => hl' i x v e1 (w i v e2) e3⟩, I.cell, I.free, I.freeC, I.pin, I.hok, hl.trans I.len⟩
theorem Inv.pins_of {pins' : List (Addr × Obj)} (I : Inv X pins σ H s) (h : ∀ p ∈ pins', s.heap.get? p.1 = some p.2 ∧ H p.1 = none ∧ p.1 ≠ X.env.locals ∧ p.1 ∉ X.fs ∧ ∀ v, p.2.data ≠ .cell v) : Inv X pins' σ H s :=
  ⟨I.ok, I.os, I.bare, I.base, I.loc, I.cell, I.free, I.freeC, fun p hp => (List.mem_append.mp hp).elim (fun z => I.pin p (List.mem_append_left _ z)) (h p), I.hok, I.len⟩

theorem nodup_ix {N : List Str} (hN : N.Nodup) {i j : Nat} {x : Str} (a : N[i]? = some x) (b : N[j]? = some x) : i = j := by
  obtain ⟨h1, e1⟩ := List.getElem?_eq_some_iff.mp a
  obtain ⟨h2, e2⟩ := List.getElem?_eq_some_iff.mp b
  exact (List.getElem_inj hN).mp (e1.trans e2.symm)

/-- a name is stored; what changed -/
theorem store_ok2 {M : Model} {A : Around} {E : Value → Shared → Prop} {i : Nat} {x : Str} {v : V} {u : Value} {Q : Unit → Shared → Prop} (I : Inv X pins σ H s) (hN : X.N.Nodup) (hi : X.N[i]? = some x) (hx : Loc X.env.scope x) (r : RelV v u)
    (h : ∀ s', Inv X pins (σ.set i (some v)) H s' → (∃ a, Heap.SameBut a s.heap s'.heap ∧ (a = X.env.locals ∨ X.env.cells.lookup x = some a)) → Q () s') (hf : X.fn x = true ∨ X.env.scope.names.lookup x = some .local := by first | exact .inl rfl | exact .inr rfl | assumption) : wpAny M A (storeName X.env x u) Q E s := by
  obtain ⟨m, hn, hl⟩ := id I.loc
  have hcls : (X.env.scope.kind == .class || (X.env.scope.kind == .module && X.env.locals != X.env.globals)) = false := by rw [I.ok.kind]; rfl
  have hiσ : i < σ.length := by rw [I.len]; exact (List.getElem?_eq_some_iff.mp hi).1
  have cne := I.cne
  have tracked : ∀ {a : Addr} {h' : Heap}, (∃ o, s.heap.get? a = some o ∧ H a = none) → Heap.SameBut a s.heap h' → HOk X.prog X.w H h' := fun {a h'} ha hs b ob e => by
    obtain ⟨_, _, hfree⟩ := ha
    refine (I.hok b ob e).stay (fun c w' hc q => (hs.2 c ?_).trans q) (fun _ q => q) fun _ _ q => q
    rintro rfl
    rcases hc with rfl | hc
    · rw [hfree] at e; cases e
    · rw [hfree] at hc; cases hc
  rcases hx with hk | hk
  · refine wpAny_storeName_local hk hn (fun h' hn' hs => ?_) hcls
    obtain ⟨oL, _, _, hoL, _⟩ := id hn
    refine h _ ⟨I.ok, I.os, I.bare, ⟨fun b o e n hb hx => ?_, fun b o e n hb hx => ?_, I.base.free, fun b o e hx => ?_, I.base.tups, I.base.frzs, I.base.tbls⟩, ⟨_, hn', fun j y v' e1 e2 e3 => ?_⟩, fun y c e => ?_, I.free, I.freeC, fun p hp => ?_, tracked ⟨oL, hoL, I.free⟩ hs, by simpa using I.len⟩ ⟨_, hs, .inl rfl⟩
    · exact (hs.2 b (Nat.ne_of_lt (Nat.lt_of_lt_of_le (Heap.lt_size e) I.ok.above))).trans (I.base.keep b o e n hb hx)
    · obtain ⟨sl, e1⟩ := I.base.slot b o e n hb hx
      exact ⟨sl, (hs.2 b (Nat.ne_of_lt (Nat.lt_of_lt_of_le (Heap.lt_size e) I.ok.above))).trans e1⟩
    · obtain ⟨o', e1⟩ := I.base.there b o e hx
      exact ⟨o', (hs.2 b (Nat.ne_of_lt (Nat.lt_of_lt_of_le (Heap.lt_size e) I.ok.above))).trans e1⟩
    · by_cases hj : j = i
      · subst hj
        rw [hi] at e1; cases e1
        rw [List.getElem?_set_self hiσ] at e2
        cases e2
        exact ⟨u, r, .inl ⟨hk, by simp⟩⟩
      · rw [List.getElem?_set_ne (Ne.symm hj)] at e2
        obtain ⟨u', r', q⟩ := hl j y v' e1 e2 e3
        refine ⟨u', r', ?_⟩
        rcases q with ⟨k, e⟩ | ⟨k, c, e, z⟩
        · refine .inl ⟨k, ?_⟩
          have : y ≠ x := fun e => hj (nodup_ix hN e1 (e ▸ hi))
          simp [this, e]
        · exact .inr ⟨k, c, e, z.sameBut hs (cne y c e)⟩
    · obtain ⟨w', z⟩ := I.cell y c e
      exact ⟨w', z.sameBut hs (cne y c e)⟩
    · obtain ⟨e, n, ne, nf, d⟩ := I.pin p hp
      exact ⟨(hs.2 p.1 ne).trans e, n, ne, nf, d⟩
  · have hfn : X.fn x = true := by
      rcases hf with z | z
      · exact z
      · rw [z] at hk; cases hk
    obtain ⟨c, hc⟩ := I.ok.has x (.inl hk)
    obtain ⟨w', z⟩ := I.cell x c hc
    refine wpAny_storeName_cell I.ok.kind hk hc z (fun h' hc' hs => ?_)
    obtain ⟨oc, hoc, hocd⟩ := id z
    refine h { s with heap := h' } ⟨I.ok, I.os, I.bare, ⟨fun b o e n hb hx => ?_, fun b o e n hb hx => ?_, I.base.free, fun b o e hx => ?_, I.base.tups, I.base.frzs, I.base.tbls⟩, ⟨m, hn.sameBut hs (Ne.symm (cne x c hc)), fun j y v' e1 e2 e3 => ?_⟩, fun y c' e => ?_, I.free, I.freeC, fun p hp => ?_, tracked ⟨oc, hoc, I.freeC x c hc⟩ hs, by simpa using I.len⟩ ⟨c, hs, .inr hc⟩
    · exact (hs.2 b (Nat.ne_of_lt (Nat.lt_of_lt_of_le (Heap.lt_size e) (I.ok.cab x c hfn hc)))).trans (I.base.keep b o e n hb hx)
    · obtain ⟨sl, e1⟩ := I.base.slot b o e n hb hx
      exact ⟨sl, (hs.2 b (Nat.ne_of_lt (Nat.lt_of_lt_of_le (Heap.lt_size e) (I.ok.cab x c hfn hc)))).trans e1⟩
    · obtain ⟨o', e1⟩ := I.base.there b o e hx
      exact ⟨o', (hs.2 b (Nat.ne_of_lt (Nat.lt_of_lt_of_le (Heap.lt_size e) (I.ok.cab x c hfn hc)))).trans e1⟩
    · by_cases hj : j = i
      · subst hj
        rw [hi] at e1; cases e1
        rw [List.getElem?_set_self hiσ] at e2
        cases e2
        exact ⟨u, r, .inr ⟨.inl hk, c, hc, hc'⟩⟩
      · rw [List.getElem?_set_ne (Ne.symm hj)] at e2
        obtain ⟨u', r', q⟩ := hl j y v' e1 e2 e3
        refine ⟨u', r', ?_⟩
        rcases q with q | ⟨k, c', e, z'⟩
        · exact .inl q
        · refine .inr ⟨k, c', e, z'.sameBut hs ?_⟩
          rintro rfl
          exact hj (nodup_ix hN e1 (I.ok.inj _ _ _ e hc ▸ hi))
    · by_cases hcc : c' = c
      · subst hcc; exact ⟨_, hc'⟩
      · obtain ⟨w2, z2⟩ := I.cell y c' e
        exact ⟨w2, z2.sameBut hs hcc⟩
    · obtain ⟨e, n, ne, nf, d⟩ := I.pin p hp
      refine ⟨(hs.2 p.1 ?_).trans e, n, ne, nf, d⟩
      intro q
      rw [q, hoc] at e
      have q' : oc = p.2 := Option.some.inj e
      exact d w' (by rw [← q']; exact hocd)
theorem store_ok {M : Model} {A : Around} {E : Value → Shared → Prop} {i : Nat} {x : Str} {v : V} {u : Value} {Q : Unit → Shared → Prop} (I : Inv X pins σ H s) (hN : X.N.Nodup) (hi : X.N[i]? = some x) (hx : Loc X.env.scope x) (r : RelV v u)
    (h : ∀ s', Inv X pins (σ.set i (some v)) H s' → Q () s') (hf : X.fn x = true ∨ X.env.scope.names.lookup x = some .local := by first | exact .inl rfl | exact .inr rfl | assumption) : wpAny M A (storeName X.env x u) Q E s :=
  store_ok2 I hN hi hx r (fun s' I' _ => h s' I') hf
/-- behind a call or a block, the state as it is -/
theorem Inv.call' {s' : Shared} {ch : List Addr} (I : Inv X pins σ H s) (ho : s'.os = s.os) (u : Un (frs X.stack) ch H H' s.heap s'.heap) (hok : HOk X.prog X.w H' s'.heap) (hg : AllBare s'.gens)
    (hch : ∀ b ∈ ch, (b ∈ X.ex ∨ X.s₀.heap.objs.size ≤ b) ∧ b ≠ X.env.locals ∧ (∀ x c, X.env.cells.lookup x = some c → c ≠ b) ∧ ∀ p ∈ X.pn ++ pins, p.1 ≠ b) : Inv X pins σ H' s' := by
  obtain ⟨h', g', d', t', o'⟩ := s'
  have e : o' = s.os := ho
  subst e
  exact I.call (g' := g') (t' := t') (d' := d') u hok hg hch
end

/-! ### the judgements -/
/-- an exception: its class, its own dict's address (where it has one), the abstract heap behind it -/
abbrev XK := Value → Option Addr → Hp → Prop
abbrev St := List (Option V)
abbrev VK := V → Hp → Prop
/-- an expression's reading; a test's; an argument list's -/
abbrev TE := St → Hp → VK → Prop
abbrev TT := St → Hp → (Bool → Hp → Prop) → Prop
abbrev TA := St → Hp → (List V → Hp → Prop) → Prop
/-- what is wanted behind a statement -/
structure Ends where
  nx : St → Hp → Prop
  rt : VK
  bk : St → Hp → Prop := fun _ _ => False
  ct : St → Hp → Prop := fun _ _ => False
abbrev TS := Ends → St → Hp → Prop

def EP (X : Cx) (pins : List (Addr × Obj)) (σ : St) (Q : VK) (u : Value) (s' : Shared) : Prop := ∃ v H', Inv X pins σ H' s' ∧ RelV v u ∧ Q v H'
def TP (X : Cx) (pins : List (Addr × Obj)) (σ : St) (Q : Bool → Hp → Prop) (b : Bool) (s' : Shared) : Prop := ∃ H', Inv X pins σ H' s' ∧ Q b H'
def AP (X : Cx) (pins : List (Addr × Obj)) (σ : St) (Q : List V → Hp → Prop) (us : List Value) (s' : Shared) : Prop := ∃ vs H', Inv X pins σ H' s' ∧ Vals vs us ∧ Q vs H'
def SP (X : Cx) (pins : List (Addr × Obj)) (D : Ends) (f : Flow) (s' : Shared) : Prop :=
  match f with
  | .next => ∃ σ' H', Inv X pins σ' H' s' ∧ D.nx σ' H'
  | .brk => ∃ σ' H', Inv X pins σ' H' s' ∧ D.bk σ' H'
  | .cont => ∃ σ' H', Inv X pins σ' H' s' ∧ D.ct σ' H'
  | .ret u => ∃ v σ' H', Inv X pins σ' H' s' ∧ RelV v u ∧ D.rt v H'

def PE (X : Cx) (e : Expr) (t : TE) : Prop :=
  ∀ (pins : List (Addr × Obj)) (s : Shared) (σ : St) (H : Hp) (Q : VK), Inv X pins σ H s → t σ H Q → wpAny (model X.prog X.w) X.A (eval e X.env) (EP X pins σ Q) X.xe s
def PT (X : Cx) (e : Expr) (t : TT) : Prop :=
  ∀ (pins : List (Addr × Obj)) (s : Shared) (σ : St) (H : Hp) (Q : Bool → Hp → Prop), Inv X pins σ H s → t σ H Q → wpAny (model X.prog X.w) X.A (isTrue e X.env (eval e X.env)) (TP X pins σ Q) X.xe s
/-- a test whatever its 'whole' is (and, or) -/
def PW (X : Cx) (e : Expr) (t : TT) : Prop :=
  ∀ (whole : Sem Value) (pins : List (Addr × Obj)) (s : Shared) (σ : St) (H : Hp) (Q : Bool → Hp → Prop), Inv X pins σ H s → t σ H Q → wpAny (model X.prog X.w) X.A (isTrue e X.env whole) (TP X pins σ Q) X.xe s
theorem PW.pt {X : Cx} {e : Expr} {t : TT} (h : PW X e t) : PT X e t := h _
/-- an argument list (no star), from the left -/
def PA (X : Cx) (es : List Expr) (t : TA) : Prop :=
  ∀ (pos : Pos) (pins : List (Addr × Obj)) (s : Shared) (σ : St) (H : Hp) (Q : List V → Hp → Prop), Inv X pins σ H s → t σ H Q → wpAny (model X.prog X.w) X.A (spliced (backTo pos (starEach es X.env))) (AP X pins σ Q) X.xe s
def PS (X : Cx) (st : Stmt) (t : TS) : Prop :=
  ∀ (pins : List (Addr × Obj)) (s : Shared) (σ : St) (H : Hp) (D : Ends), Inv X pins σ H s → t D σ H → wpAny (model X.prog X.w) X.A (exec st X.env) (SP X pins D) X.xe s
def PSs (X : Cx) (st : List Stmt) (t : TS) : Prop :=
  ∀ (pins : List (Addr × Obj)) (s : Shared) (σ : St) (H : Hp) (D : Ends), Inv X pins σ H s → t D σ H → wpAny (model X.prog X.w) X.A (execs st X.env) (SP X pins D) X.xe s
/-- weaken the end -/
theorem thn {α : Type} {t : Sem α} {Q Q' : α → Shared → Prop} {M : Model} {A : Around} {E : Value → Shared → Prop} {s : Shared} (h : wpAny M A t Q E s) (hQ : ∀ a s, Q a s → Q' a s) : wpAny M A t Q' E s := wpAny_mono h hQ fun _ _ x => x
end L2

namespace L2
open PySem PySem.Spec PyProof.Rows
section
variable {X : Cx}

/-- two expressions in a row -/
theorem bin {a b : Expr} {ta tb : TE} (ha : PE X a ta) (hb : PE X b tb) {pins : List (Addr × Obj)} {s : Shared} {σ : St} {H : Hp} {R : V → V → Hp → Prop} (I : Inv X pins σ H s) (h : ta σ H fun x H1 => tb σ H1 fun y H2 => R x y H2)
    {α : Type} {Q : α → Shared → Prop} {f : Value → Value → Sem α}
    (hf : ∀ v u s2 x y H2, Inv X pins σ H2 s2 → RelV x v → RelV y u → R x y H2 → wpAny (model X.prog X.w) X.A (f v u) Q X.xe s2) :
    wpAny (model X.prog X.w) X.A (eval a X.env) (fun v s₁ => wpAny (model X.prog X.w) X.A (eval b X.env) (fun u s₂ => wpAny (model X.prog X.w) X.A (f v u) Q X.xe s₂) X.xe s₁) X.xe s := by
  refine thn (ha pins s σ H _ I h) fun v s1 ⟨x, H1, I1, r1, q1⟩ => ?_
  refine thn (hb pins s1 σ H1 _ I1 q1) fun u s2 ⟨y, H2, I2, r2, q2⟩ => ?_
  exact hf v u s2 x y H2 I2 r1 r2 q2

/-! ### names and constants -/
def tVar (i : Nat) : TE := fun σ H Q => ∃ v, σ[i]? = some (some v) ∧ Q v H
def tC (v : V) : TE := fun _ H Q => Q v H
theorem pe_var {i : Nat} {x : Str} {pos : Pos} (hN : X.N[i]? = some x) (hv : Vis X.env.scope x) (hd : (x == ("__debug__" : Str)) = false := by decide) (hcd : (x == ("__classdict__" : Str)) = false := by decide) : PE X (.Name x pos) (tVar i) := by
  intro pins s σ H Q I h
  obtain ⟨v, e, h⟩ := h
  obtain ⟨m, hn, hl⟩ := I.loc
  obtain ⟨u, r, l⟩ := hl i x v hN e hv
  have fin : EP X pins σ Q u s := ⟨v, H, I, r, h⟩
  rcases l with ⟨hk, hm⟩ | ⟨hk, c, hc, hcell⟩
  · exact wpAny_Name (wpAny_loadName_local I.ok.kind hk hn hm fin) hd
  · rcases hk with hk | hk
    · exact wpAny_Name (wpAny_loadName_cell I.ok.kind hk hc hcell fin) hd
    · exact wpAny_Name (wpAny_loadName_free I.ok.kind hk hc hcell fin hcd) hd
theorem pe_int {i j pos} : PE X (.Constant (.int i) j pos) (tC (.int i)) := fun _ _ _ H _ I h => wpAny_Constant_int ⟨.int i, H, I.tok _, ⟨_, rfl⟩, h⟩
theorem pe_bl {b j pos} : PE X (.Constant (.bool b) j pos) (tC (.bl b)) := fun _ _ _ H _ I h => Constant_bool ⟨.bl b, H, I, rfl, h⟩
theorem pe_non {j pos} : PE X (.Constant .none j pos) (tC .non) := fun _ _ _ H _ I h => Constant_none ⟨.non, H, I, rfl, h⟩
theorem pe_str {x j pos} : PE X (.Constant (.str x) j pos) (tC (.str x)) := fun _ _ _ H _ I h => Calls.Constant_str ⟨.str x, H, I.tok _, ⟨_, rfl⟩, h⟩

/-- a global name of the def -/
def Gl (X : Cx) (x : Str) : Prop := X.env.kindOf x = some .globalImplicit
theorem ld_glob {E : Value → Shared → Prop} {pins : List (Addr × Obj)} {s : Shared} {σ : St} {H : Hp} {x : Str} {u : Value} {pos : Pos} {Q : Value → Shared → Prop} (I : Inv X pins σ H s) (hg : Gl X x) (hm : X.mg x = some u) (h : Q u s)
    (hd : (x == ("__debug__" : Str)) = false := by decide) : wpAny (model X.prog X.w) X.A (eval (.Name x pos) X.env) Q E s :=
  Calls.Name_function_global I.ok.kind hg (Calls.loadGlobal_global (by rw [I.ok.glob]; exact I.mod.glob.keeps I.bk) hm h) hd
theorem ld_blt {E : Value → Shared → Prop} {pins : List (Addr × Obj)} {s : Shared} {σ : St} {H : Hp} {x : Str} {u : Value} {pos : Pos} {Q : Value → Shared → Prop} (I : Inv X pins σ H s) (hg : Gl X x) (hm : X.mg x = none) (hv : bootBuiltins x = some u) (h : Q u s)
    (hn : x ≠ "__name__" := by decide) (hd : (x == ("__debug__" : Str)) = false := by decide) : wpAny (model X.prog X.w) X.A (eval (.Name x pos) X.env) Q E s := by
  obtain ⟨mb, h1, h2⟩ := I.mod.blt
  exact Calls.Name_function_global I.ok.kind hg (Calls.loadGlobal_builtin (by rw [I.ok.glob]; exact I.mod.glob.keeps I.bk) hm (by rw [I.ok.blt]; exact h1.keeps I.bk) ((h2 x hn).trans hv) h) hd
/-- a module's constant, a class, a function, as a value -/
theorem pe_glob {x : Str} {v : V} {u : Value} {pos : Pos} (hg : Gl X x) (hm : X.mg x = some u) (r : RelV v u) (hd : (x == ("__debug__" : Str)) = false := by decide) : PE X (.Name x pos) (tC v) :=
  fun _ _ _ H _ I h => ld_glob I hg hm ⟨v, H, I, r, h⟩ hd
theorem pe_bltn {x : Str} {v : V} {u : Value} {pos : Pos} (hg : Gl X x) (hm : X.mg x = none) (hv : bootBuiltins x = some u) (r : RelV v u) (hn : x ≠ "__name__" := by decide) (hd : (x == ("__debug__" : Str)) = false := by decide) : PE X (.Name x pos) (tC v) :=
  fun _ _ _ H _ I h => ld_blt I hg hm hv ⟨v, H, I, r, h⟩ hn hd

/-! ### arithmetic -/
/-- two ints -/
def t2I (ta tb : TE) (k : Int → Int → Hp → Prop) : St → Hp → Prop := fun σ H => ta σ H fun x H1 => tb σ H1 fun y H2 => ∃ i j, x = .int i ∧ y = .int j ∧ k i j H2
def tAdd (ta tb : TE) : TE := fun σ H Q => t2I ta tb (fun i j H2 => Q (.int (i + j)) H2) σ H
def tSub (ta tb : TE) : TE := fun σ H Q => t2I ta tb (fun i j H2 => Q (.int (i - j)) H2) σ H
/-- the left factor below 2^64 -/
def tMul (ta tb : TE) : TE := fun σ H Q => t2I ta tb (fun i j H2 => (-(2 ^ 64) < i ∧ i < 2 ^ 64) ∧ Q (.int (i * j)) H2) σ H
variable {a b : Expr} {ta tb : TE} {pos : Pos}
theorem pe_add (ha : PE X a ta) (hb : PE X b tb) : PE X (.BinOp a .Add b pos) (tAdd ta tb) := by
  intro pins s σ H Q I h
  refine wpAny_BinOp (bin ha hb I h fun v u s2 x y H2 I2 rx ry q => ?_)
  obtain ⟨i, j, rfl, rfl, q⟩ := q
  obtain ⟨t, rfl⟩ := rx
  obtain ⟨t', rfl⟩ := ry
  exact add_int ⟨.int _, H2, I2.tok _, ⟨_, rfl⟩, q⟩
theorem pe_sub (ha : PE X a ta) (hb : PE X b tb) : PE X (.BinOp a .Sub b pos) (tSub ta tb) := by
  intro pins s σ H Q I h
  refine wpAny_BinOp (bin ha hb I h fun v u s2 x y H2 I2 rx ry q => ?_)
  obtain ⟨i, j, rfl, rfl, q⟩ := q
  obtain ⟨t, rfl⟩ := rx
  obtain ⟨t', rfl⟩ := ry
  exact sub_int ⟨.int _, H2, I2.tok _, ⟨_, rfl⟩, q⟩
theorem pe_mul (ha : PE X a ta) (hb : PE X b tb) : PE X (.BinOp a .Mult b pos) (tMul ta tb) := by
  intro pins s σ H Q I h
  refine wpAny_BinOp (bin ha hb I h fun v u s2 x y H2 I2 rx ry q => ?_)
  obtain ⟨i, j, rfl, rfl, ⟨q1, q2⟩, q⟩ := q
  obtain ⟨t, rfl⟩ := rx
  obtain ⟨t', rfl⟩ := ry
  exact mul_int ⟨.int _, H2, I2.tok _, ⟨_, rfl⟩, q⟩ (.of_left (intBits_le_64 q1 q2))

/-! ### comparisons -/
def PC (X : Cx) (op : CmpOp) (a b : Expr) (t : TE) : Prop :=
  ∀ (pins : List (Addr × Obj)) (s : Shared) (σ : St) (H : Hp) (Q : VK), Inv X pins σ H s → t σ H Q →
    wpAny (model X.prog X.w) X.A (eval a X.env) (fun v s₁ => wpAny (model X.prog X.w) X.A (eval b X.env) (fun u s₂ => wpAny (model X.prog X.w) X.A (compareOp op v u) (EP X pins σ Q) X.xe s₂) X.xe s₁) X.xe s
theorem nobehind (b : Expr) {op : CmpOp} (h : op ≠ .In) (h2 : op ≠ .NotIn) : behindInMarks op b = false := by
  have e1 : (op == CmpOp.In) = false := by cases op <;> first | rfl | exact absurd rfl h
  have e2 : (op == CmpOp.NotIn) = false := by cases op <;> first | rfl | exact absurd rfl h2
  cases b <;> simp [behindInMarks, e1, e2]
def tCmp (p : Int → Int → Bool) (ta tb : TE) : TE := fun σ H Q => t2I ta tb (fun i j H2 => Q (.bl (p i j)) H2) σ H
abbrev tLt : TE → TE → TE := tCmp fun i j => decide (i < j)
abbrev tLe : TE → TE → TE := tCmp fun i j => decide (i ≤ j)
abbrev tGt : TE → TE → TE := tCmp fun i j => decide (j < i)
abbrev tGe : TE → TE → TE := tCmp fun i j => decide (j ≤ i)
abbrev tEqI : TE → TE → TE := tCmp fun i j => decide (i = j)
abbrev tNeI : TE → TE → TE := tCmp fun i j => !decide (i = j)
/-- a comparison of two ints, by its rule -/
theorem pc_int {op : CmpOp} {p : Int → Int → Bool} (ha : PE X a ta) (hb : PE X b tb)
    (rule : ∀ (i j : Int) (t u : Tok) (Q : Value → Shared → Prop) (s : Shared), Q (.bool (p i j)) s → wpAny (model X.prog X.w) X.A (compareOp op (.int i t) (.int j u)) Q X.xe s) : PC X op a b (tCmp p ta tb) := by
  intro pins s σ H Q I h
  refine bin ha hb I h fun v u s2 x y H2 I2 rx ry q => ?_
  obtain ⟨i, j, rfl, rfl, q⟩ := q
  obtain ⟨t, rfl⟩ := rx
  obtain ⟨t', rfl⟩ := ry
  exact rule i j t t' _ s2 ⟨.bl _, H2, I2, rfl, q⟩
theorem pc_lt (ha : PE X a ta) (hb : PE X b tb) : PC X .Lt a b (tLt ta tb) := pc_int ha hb fun _ _ _ _ _ _ h => lt_int h
theorem pc_le (ha : PE X a ta) (hb : PE X b tb) : PC X .LtE a b (tLe ta tb) := pc_int ha hb fun _ _ _ _ _ _ h => le_int h
theorem pc_gt (ha : PE X a ta) (hb : PE X b tb) : PC X .Gt a b (tGt ta tb) := pc_int ha hb fun _ _ _ _ _ _ h => gt_int h
theorem pc_ge (ha : PE X a ta) (hb : PE X b tb) : PC X .GtE a b (tGe ta tb) := pc_int ha hb fun _ _ _ _ _ _ h => ge_int h
theorem pc_eqI (ha : PE X a ta) (hb : PE X b tb) : PC X .Eq a b (tEqI ta tb) := pc_int ha hb fun _ _ _ _ _ _ h => eq_int (by rw [Bool.beq_eq_decide_eq]; exact h)
theorem pc_neI (ha : PE X a ta) (hb : PE X b tb) : PC X .NotEq a b (tNeI ta tb) := pc_int ha hb fun _ _ _ _ _ _ h => ne_int (by rw [bne, Bool.beq_eq_decide_eq]; exact h)
/-- is None -/
def tIsN (ta : TE) : TE := fun σ H Q => ta σ H fun x H1 => Q (.bl (decide (x = .non))) H1
def tNotN (ta : TE) : TE := fun σ H Q => ta σ H fun x H1 => Q (.bl (!decide (x = .non))) H1
theorem RelV.none_iff {x : V} {v : Value} (r : RelV x v) : (v == Value.none) = decide (x = .non) := by
  cases x with
  | non => cases r; rfl
  | bl _ => cases r; rfl
  | int _ => obtain ⟨t, rfl⟩ := r; rfl
  | str _ => obtain ⟨t, rfl⟩ := r; rfl
  | byt _ => obtain ⟨t, rfl⟩ := r; rfl
  | flt _ => obtain ⟨t, rfl⟩ := r; rfl
  | ref _ => cases r; rfl
  | ty _ => cases r; rfl
theorem pc_isN {j pos'} (ha : PE X a ta) : PC X .Is a (.Constant .none j pos') (tIsN ta) := by
  intro pins s σ H Q I h
  refine thn (ha pins s σ H _ I h) fun v s1 ⟨x, H1, I1, r1, q1⟩ => ?_
  exact Constant_none (is_none_gen ⟨.bl _, H1, I1, by rw [r1.none_iff]; rfl, q1⟩)
theorem pc_notN {j pos'} (ha : PE X a ta) : PC X .IsNot a (.Constant .none j pos') (tNotN ta) := by
  intro pins s σ H Q I h
  refine thn (ha pins s σ H _ I h) fun v s1 ⟨x, H1, I1, r1, q1⟩ => ?_
  exact Constant_none (isnot_none_gen ⟨.bl _, H1, I1, by rw [r1.none_iff]; rfl, q1⟩)
/-- a comparison as a value, as a test -/
def tB (t : TE) : TT := fun σ H Q => t σ H fun x H1 => ∃ c, x = .bl c ∧ Q c H1
theorem pe_cmp {op : CmpOp} {t : TE} (h : PC X op a b t) (h1 : behindInMarks op b = false := by first | exact nobehind _ (by decide) (by decide) | rfl) : PE X (.Compare a [op] [b] pos) t := fun pins s σ H Q I hw => wpAny_Compare1 (h pins s σ H Q I hw) h1
theorem pt_cmp {op : CmpOp} {t : TE} (h : PC X op a b t) (h1 : behindInMarks op b = false := by first | exact nobehind _ (by decide) (by decide) | rfl) : PT X (.Compare a [op] [b] pos) (tB t) := by
  intro pins s σ H Q I hw
  refine wpAny_isTrue_Compare1 (thn (h pins s σ H _ I hw) fun v s1 h1 => thn h1 fun u s2 h2 => thn h2 fun c s3 ⟨x, H1, I1, r1, q1⟩ => ?_) h1
  obtain ⟨d, rfl, q⟩ := q1
  cases r1
  exact wpAny_truthy_bool ⟨H1, I1, q⟩
/-- an expression whose value is a bool, as a test -/
theorem pt_val {e : Expr} {t : TE} (h : PE X e t) (he : ∀ whole, isTrue e X.env whole = (do let v ← whole; standAt e.pos; holding [v] (truthy v)) := by intro _; rfl) : PT X e (tB t) := by
  intro pins s σ H Q I hw
  refine isTrue_plain (thn (h pins s σ H _ I hw) fun v s1 ⟨x, H1, I1, r1, q1⟩ => ?_) (he _)
  obtain ⟨d, rfl, q⟩ := q1
  cases r1
  exact wpAny_truthy_bool ⟨H1, I1, q⟩

/-! ### and, or, not -/
variable {tA tB' : TT} {rest : List Expr}
def tAnd (t u : TT) : TT := fun σ H Q => t σ H fun c H1 => if c = true then u σ H1 Q else Q false H1
def tOr (t u : TT) : TT := fun σ H Q => t σ H fun c H1 => if c = true then Q true H1 else u σ H1 Q
def tNot (t : TT) : TT := fun σ H Q => t σ H fun c H1 => Q (!c) H1
theorem pw_and1 (ha : PT X a tA) : PW X (.BoolOp .And [a] pos) tA := by
  intro wh pins s σ H Q I h
  refine isTrue_and (thn (ha pins s σ H Q I h) fun c s1 e => ?_)
  cases c with
  | true => exact isTrue_and_nil e
  | false => exact e
theorem pw_or1 (ha : PT X a tA) : PW X (.BoolOp .Or [a] pos) tA := by
  intro wh pins s σ H Q I h
  refine isTrue_or (thn (ha pins s σ H Q I h) fun c s1 e => ?_)
  cases c with
  | false => exact isTrue_or_nil e
  | true => exact e
theorem pw_and (ha : PT X a tA) (hb : PW X (.BoolOp .And (b :: rest) pos) tB') : PW X (.BoolOp .And (a :: b :: rest) pos) (tAnd tA tB') := by
  intro wh pins s σ H Q I h
  refine isTrue_and (thn (ha pins s σ H _ I h) fun c s1 ⟨H1, I1, q1⟩ => ?_)
  cases c with
  | true => exact hb wh pins s1 σ H1 Q I1 q1
  | false => exact ⟨H1, I1, q1⟩
theorem pw_or (ha : PT X a tA) (hb : PW X (.BoolOp .Or (b :: rest) pos) tB') : PW X (.BoolOp .Or (a :: b :: rest) pos) (tOr tA tB') := by
  intro wh pins s σ H Q I h
  refine isTrue_or (thn (ha pins s σ H _ I h) fun c s1 ⟨H1, I1, q1⟩ => ?_)
  cases c with
  | true => exact ⟨H1, I1, q1⟩
  | false => exact hb wh pins s1 σ H1 Q I1 q1
theorem pt_not (ha : PT X a tA) : PT X (.UnaryOp .Not a pos) (tNot tA) := by
  intro pins s σ H Q I h
  exact isTrue_not (ha pins s σ H (fun c H1 => Q (!c) H1) I h)
/-- .. as values (bools) -/
def tAndV (ta tb : TE) : TE := fun σ H Q => ta σ H fun x H1 => ∃ c, x = .bl c ∧ if c = true then tb σ H1 Q else Q (.bl false) H1
def tOrV (ta tb : TE) : TE := fun σ H Q => ta σ H fun x H1 => ∃ c, x = .bl c ∧ if c = true then Q (.bl true) H1 else tb σ H1 Q
def tNotV (ta : TE) : TE := fun σ H Q => ta σ H fun x H1 => ∃ c, x = .bl c ∧ Q (.bl (!c)) H1
theorem pe_one {op} {t : TE} (h : PE X a t) : PE X (.BoolOp op [a] pos) t := fun pins s σ H Q I hw => BoolOp_one (h pins s σ H Q I hw)
theorem pe_and (ha : PE X a ta) (hb : PE X (.BoolOp .And (b :: rest) pos) tb) : PE X (.BoolOp .And (a :: b :: rest) pos) (tAndV ta tb) := by
  intro pins s σ H Q I h
  refine BoolOp_and (thn (ha pins s σ H _ I h) fun v s1 ⟨x, H1, I1, r1, q1⟩ => ?_)
  obtain ⟨c, rfl, q1⟩ := q1
  cases r1
  refine wpAny_truthy_bool ?_
  cases c with
  | true => exact hb pins s1 σ H1 Q I1 q1
  | false => exact ⟨.bl false, H1, I1, rfl, q1⟩
theorem pe_or (ha : PE X a ta) (hb : PE X (.BoolOp .Or (b :: rest) pos) tb) : PE X (.BoolOp .Or (a :: b :: rest) pos) (tOrV ta tb) := by
  intro pins s σ H Q I h
  refine BoolOp_or (thn (ha pins s σ H _ I h) fun v s1 ⟨x, H1, I1, r1, q1⟩ => ?_)
  obtain ⟨c, rfl, q1⟩ := q1
  cases r1
  refine wpAny_truthy_bool ?_
  cases c with
  | false => exact hb pins s1 σ H1 Q I1 q1
  | true => exact ⟨.bl true, H1, I1, rfl, q1⟩
theorem pe_not (ha : PE X a ta) : PE X (.UnaryOp .Not a pos) (tNotV ta) := by
  intro pins s σ H Q I h
  refine UnaryOp_ (thn (ha pins s σ H _ I h) fun v s1 ⟨x, H1, I1, r1, q1⟩ => ?_)
  obtain ⟨c, rfl, q1⟩ := q1
  cases r1
  exact not_of (wpAny_truthy_bool ⟨.bl (!c), H1, I1, rfl, q1⟩)
/-- a if t else b -/
def tIf (t : TT) (ta tb : TE) : TE := fun σ H Q => t σ H fun c H1 => if c = true then ta σ H1 Q else tb σ H1 Q
theorem pe_ifExp {c : Expr} (hc : PT X c tA) (ha : PE X a ta) (hb : PE X b tb) : PE X (.IfExp c a b pos) (tIf tA ta tb) := by
  intro pins s σ H Q I h
  refine wpAny_IfExp (thn (hc pins s σ H _ I h) fun d s1 ⟨H1, I1, q1⟩ => ?_)
  cases d with
  | true => exact ha pins s1 σ H1 Q I1 q1
  | false => exact hb pins s1 σ H1 Q I1 q1
end
end L2

namespace L2
open PySem PySem.Spec PyProof.Rows

/-! ### a list, a tuple that is read: tracked, frozen, or an object of the module -/
def SqL (K : PySem.W.Frag) (H : Hp) (a : Addr) (xs : List V) : Prop :=
  Rd H a (.lst xs) ∨
    ∃ (o : Obj) (its : Array Value) (n : Nat), K.lookup a = some o ∧ o.cls = .type "list" ∧ o.dict = none ∧ o.data = .seq its n ∧ its.size ≤ sizeLine ∧ Vals xs its.toList
def SqT (K : PySem.W.Frag) (H : Hp) (a : Addr) (xs : List V) : Prop :=
  Rd H a (.tup xs) ∨
    ∃ (o : Obj) (its : Array Value) (n : Nat), K.lookup a = some o ∧ o.cls = .type "tuple" ∧ o.data = .seq its n ∧ its.size ≤ sizeLine ∧ Vals xs its.toList
def absV : Value → Option V
  | .none => some .non
  | .bool b => some (.bl b)
  | .int i _ => some (.int i)
  | .str x _ => some (.str x)
  | .bytes b _ => some (.byt b)
  | .float b _ => some (.flt b)
  | .ref a => some (.ref a)
  | .type n => some (.ty n)
  | _ => none
theorem RelV.abs {x : V} {u : Value} (r : RelV x u) : absV u = some x := by
  cases x with
  | non => cases r; rfl
  | bl _ => cases r; rfl
  | int _ => obtain ⟨t, rfl⟩ := r; rfl
  | str _ => obtain ⟨t, rfl⟩ := r; rfl
  | byt _ => obtain ⟨t, rfl⟩ := r; rfl
  | flt _ => obtain ⟨t, rfl⟩ := r; rfl
  | ref _ => cases r; rfl
  | ty _ => cases r; rfl
theorem RelV.inj {x y : V} {u : Value} (r : RelV x u) (q : RelV y u) : x = y := Option.some.inj (r.abs.symm.trans q.abs)
theorem Vals.inj : ∀ {xs ys : List V} {us : List Value}, Vals xs us → Vals ys us → xs = ys
  | _, _, _, .nil, .nil => rfl
  | _, _, _, .cons r t, .cons r' t' => by rw [r.inj r', Vals.inj t t']
section
variable {X : Cx} {pins : List (Addr × Obj)} {σ : St} {H : Hp} {s : Shared} {a : Addr} {xs ys : List V}
theorem SqL.of {K : PySem.W.Frag} (h : H a = some (.lst xs)) : SqL K H a xs := .inl (.inl h)
theorem SqT.of {K : PySem.W.Frag} (h : H a = some (.tup xs)) : SqT K H a xs := .inl (.inl h)
theorem Inv.list (I : Inv X pins σ H s) (h : SqL X.K H a xs) : ∃ its : List Value, Vals xs its ∧ PlainL s.heap a its.toArray ∧ xs.length ≤ sizeLine := by
  rcases h with h | ⟨o, its, n, hk, hc, hd, hs, hz, r⟩
  · obtain ⟨z, its, n, r, e⟩ := h.ok I.hok
    exact ⟨its, r, ⟨_, n, e, rfl, rfl, rfl⟩, z⟩
  · refine ⟨its.toList, r, ⟨o, n, I.kIn a o hk, hc, hd, by simpa using hs⟩, ?_⟩
    have e := r.length
    simp only [Array.length_toList] at e
    omega
theorem Inv.tuple (I : Inv X pins σ H s) (h : SqT X.K H a xs) : ∃ its : List Value, Vals xs its ∧ IsTup s.heap a its.toArray ∧ xs.length ≤ sizeLine := by
  rcases h with h | ⟨o, its, n, hk, hc, hs, hz, r⟩
  · obtain ⟨z, its, r, p⟩ := h.ok I.hok
    exact ⟨its, r, p, z⟩
  · refine ⟨its.toList, r, ⟨o, I.kIn a o hk, hc, n, by simpa using hs⟩, ?_⟩
    have e := r.length
    simp only [Array.length_toList] at e
    omega
theorem Inv.list_inj (I : Inv X pins σ H s) (h : SqL X.K H a xs) (h' : SqL X.K H a ys) : xs = ys := by
  obtain ⟨its, r, ⟨o, n, e, _, _, d⟩, _⟩ := I.list h
  obtain ⟨its', r', ⟨o', n', e', _, _, d'⟩, _⟩ := I.list h'
  rw [e] at e'; cases e'
  rw [d] at d'
  injection d' with d1 _
  have : its = its' := by simpa using congrArg Array.toList d1
  subst this
  exact r.inj r'
theorem Inv.tuple_inj (I : Inv X pins σ H s) (h : SqT X.K H a xs) (h' : SqT X.K H a ys) : xs = ys := by
  obtain ⟨its, r, ⟨o, e, _, n, d⟩, _⟩ := I.tuple h
  obtain ⟨its', r', ⟨o', e', _, n', d'⟩, _⟩ := I.tuple h'
  rw [e] at e'; cases e'
  rw [d] at d'
  injection d' with d1 _
  have : its = its' := by simpa using congrArg Array.toList d1
  subst this
  exact r.inj r'
end

/-! ### another wish about exceptions -/
abbrev Cx.wish (X : Cx) (E : Value → Shared → Prop) : Cx := { X with xe := E }
/-- no exception leaves -/
abbrev Cx.nox (X : Cx) : Cx := X.wish fun _ _ => False
theorem Cx.Ok.wish {X : Cx} (ok : X.Ok) (E : Value → Shared → Prop) : (X.wish E).Ok :=
  ⟨ok.mod, ok.kind, ok.glob, ok.blt, ok.above, ok.inj, ok.has, ok.cab, ok.hd, ok.frames, ok.stk, ok.exf, ok.bs, ok.bsz, ok.noex, ok.exfs, ok.funs, ok.frf⟩
theorem Cx.Ok.unwish {X : Cx} {E : Value → Shared → Prop} (ok : (X.wish E).Ok) : X.Ok :=
  ⟨ok.mod, ok.kind, ok.glob, ok.blt, ok.above, ok.inj, ok.has, ok.cab, ok.hd, ok.frames, ok.stk, ok.exf, ok.bs, ok.bsz, ok.noex, ok.exfs, ok.funs, ok.frf⟩
section
variable {X : Cx} {pins : List (Addr × Obj)} {σ : St} {H : Hp} {s : Shared} {E : Value → Shared → Prop}
theorem Inv.wish (I : Inv X pins σ H s) (E : Value → Shared → Prop) : Inv (X.wish E) pins σ H s := ⟨I.ok.wish E, I.os, I.bare, I.base, I.loc, I.cell, I.free, I.freeC, I.pin, I.hok, I.len⟩
theorem Inv.unwish (I : Inv (X.wish E) pins σ H s) : Inv X pins σ H s := ⟨I.ok.unwish, I.os, I.bare, I.base, I.loc, I.cell, I.free, I.freeC, I.pin, I.hok, I.len⟩
theorem SP.unwish {D : Ends} {f : Flow} {s' : Shared} (h : SP (X.wish E) pins D f s') : SP X pins D f s' := by
  cases f with
  | next => obtain ⟨σ', H', I, q⟩ := h; exact ⟨σ', H', I.unwish, q⟩
  | brk => obtain ⟨σ', H', I, q⟩ := h; exact ⟨σ', H', I.unwish, q⟩
  | cont => obtain ⟨σ', H', I, q⟩ := h; exact ⟨σ', H', I.unwish, q⟩
  | ret u => obtain ⟨v, σ', H', I, r, q⟩ := h; exact ⟨v, σ', H', I.unwish, r, q⟩
theorem PE.nox {e : Expr} {t : TE} (h : PE X.nox e t) : PE X e t := fun pins s σ H Q I hw =>
  wpAny_mono (h pins s σ H Q (I.wish _) hw) (fun _ _ ⟨v, H', I', r, q⟩ => ⟨v, H', I'.unwish, r, q⟩) fun _ _ z => False.elim z
theorem PT.nox {e : Expr} {t : TT} (h : PT X.nox e t) : PT X e t := fun pins s σ H Q I hw =>
  wpAny_mono (h pins s σ H Q (I.wish _) hw) (fun _ _ ⟨H', I', q⟩ => ⟨H', I'.unwish, q⟩) fun _ _ z => False.elim z
theorem PSs.nox {st : List Stmt} {t : TS} (h : PSs X.nox st t) : PSs X st t := fun pins s σ H D I hw =>
  wpAny_mono (h pins s σ H D (I.wish _) hw) (fun _ _ q => q.unwish) fun _ _ z => False.elim z
end

/-! ### blocks and small statements -/
section
variable {X : Cx} {st : Stmt} {rest : List Stmt} {t u : TS} {e : Expr} {te : TE} {pos : Pos}
def tNext : TS := fun D σ H => D.nx σ H
def tSeq (t u : TS) : TS := fun D σ H => t { D with nx := u D } σ H
theorem pss_nil : PSs X [] tNext := fun _ _ σ H _ I h => wpAny_execs_nil ⟨σ, H, I, h⟩
theorem pss_cons (h1 : PS X st t) (h2 : PSs X rest u) : PSs X (st :: rest) (tSeq t u) := by
  intro pins s σ H D I h
  refine wpAny_execs_cons (thn (h1 pins s σ H { D with nx := u D } I h) fun f s1 q => ?_)
  cases f with
  | next =>
    obtain ⟨σ', H', I', q⟩ := q
    exact h2 pins s1 σ' H' D I' q
  | ret v => exact q
  | brk => exact q
  | cont => exact q
theorem pss_one (h1 : PS X st t) : PSs X [st] t := by
  intro pins s σ H D I h
  refine wpAny_execs_cons (thn (h1 pins s σ H D I h) fun f s1 q => ?_)
  cases f with
  | next => exact wpAny_execs_nil q
  | ret v => exact q
  | brk => exact q
  | cont => exact q
def tBreak : TS := fun D σ H => D.bk σ H
def tCont : TS := fun D σ H => D.ct σ H
theorem ps_pass : PS X (.Pass pos) tNext := fun _ _ σ H _ I h => wpAny_Pass ⟨σ, H, I, h⟩
theorem ps_break : PS X (.Break pos) tBreak := fun _ _ σ H _ I h => wpAny_Break ⟨σ, H, I, h⟩
theorem ps_continue : PS X (.Continue pos) tCont := fun _ _ σ H _ I h => wpAny_Continue ⟨σ, H, I, h⟩
/-- in a def's body nothing is shown -/
theorem Inv.quiet {pins : List (Addr × Obj)} {σ : St} {H : Hp} {s : Shared} (I : Inv X pins σ H s) : interactive X.env = false := by simp [interactive, I.ok.kind]
/-- a docstring -/
theorem ps_doc {x j pos pos'} : PS X (.Expr (.Constant (.str x) j pos) pos') tNext := fun _ s σ H _ I h => wpAny_Expr (Calls.Constant_str (show SP X _ _ .next { s with toks := s.toks + 1 } from ⟨σ, H, I.tok _, h⟩)) I.quiet
/-- an expression whose value is dropped -/
def tDrop (te : TE) : TS := fun D σ H => te σ H fun _ H1 => D.nx σ H1
theorem ps_expr (he : PE X e te) (hs : swapsWith e none pos.line X.env = pure false := by rfl) : PS X (.Expr e pos) (tDrop te) := by
  intro pins s σ H D I h
  exact wpAny_Expr_any (thn (he pins s σ H _ I h) fun v s1 ⟨x, H1, I1, r1, q1⟩ => ⟨σ, H1, I1, q1⟩) I.quiet hs
def tRet (te : TE) : TS := fun D σ H => te σ H D.rt
theorem ps_ret (he : PE X e te) : PS X (.Return (some e) pos) (tRet te) := by
  intro pins s σ H D I h
  exact wpAny_Return_some (thn (he pins s σ H _ I h) fun v s1 ⟨x, H1, I1, r1, q1⟩ => ⟨x, σ, H1, I1, r1, q1⟩)
def tRetN : TS := fun D _ H => D.rt .non H
theorem ps_retN : PS X (.Return none pos) tRetN := fun _ _ σ H _ I h => wpAny_Return_none ⟨.non, σ, H, I, rfl, h⟩
def tIfS (c : TT) (t u : TS) : TS := fun D σ H => c σ H fun b H1 => if b = true then t D σ H1 else u D σ H1
theorem ps_if {c : Expr} {a b : List Stmt} {tc : TT} (hc : PT X c tc) (ha : PSs X a t) (hb : PSs X b u) : PS X (.If c a b pos) (tIfS tc t u) := by
  intro pins s σ H D I h
  refine wpAny_If (thn (hc pins s σ H _ I h) fun d s1 ⟨H1, I1, q1⟩ => ?_)
  cases d with
  | true => exact ha pins s1 σ H1 D I1 q1
  | false => exact hb pins s1 σ H1 D I1 q1
/-- code that the proof never comes to -/
def tNever : TS := fun _ _ _ => False
theorem ps_never : PS X st tNever := fun _ _ _ _ _ _ h => h.elim
theorem pss_never {sts : List Stmt} : PSs X sts tNever := fun _ _ _ _ _ _ h => h.elim
end

/-! ### targets -/
abbrev TG := V → St → Hp → (St → Hp → Prop) → Prop
abbrev TGs := List V → St → Hp → (St → Hp → Prop) → Prop
def PG (X : Cx) (target : Expr) (t : TG) : Prop :=
  ∀ (pins : List (Addr × Obj)) (s : Shared) (σ : St) (H : Hp) (v : V) (u : Value) (Q : St → Hp → Prop), Inv X pins σ H s → RelV v u → t v σ H Q →
    wpAny (model X.prog X.w) X.A (assign target X.env u) (fun _ s' => ∃ σ' H', Inv X pins σ' H' s' ∧ Q σ' H') X.xe s
/-- several targets, one after another -/
def PGs (X : Cx) (ts : List Expr) (t : TGs) : Prop :=
  ∀ (pins : List (Addr × Obj)) (s : Shared) (σ : St) (H : Hp) (vs : List V) (us : List Value) (Q : St → Hp → Prop), Inv X pins σ H s → Vals vs us → t vs σ H Q →
    wpAny (model X.prog X.w) X.A (assignInOrder ((assignEach ts X.env).map (·.2)) us) (fun _ s' => ∃ σ' H', Inv X pins σ' H' s' ∧ Q σ' H') X.xe s
/-- o[i] = v, by values -/
abbrev TSet := V → V → V → Hp → (Hp → Prop) → Prop
def PSet (X : Cx) (t : TSet) : Prop :=
  ∀ (pins : List (Addr × Obj)) (s : Shared) (σ : St) (H : Hp) (o i v : V) (ov iv u : Value) (Q : Hp → Prop), Inv X pins σ H s → RelV o ov → RelV i iv → RelV v u → t o i v H Q →
    wpAny (model X.prog X.w) X.A (setItem ov iv u) (fun _ s' => ∃ H', Inv X pins σ H' s' ∧ Q H') X.xe s
/-- a op= b, by values -/
abbrev TIp := V → V → Hp → VK → Prop
def PIp (X : Cx) (op : Operator) (t : TIp) : Prop :=
  ∀ (pins : List (Addr × Obj)) (s : Shared) (σ : St) (H : Hp) (x y : V) (v u : Value) (Q : VK), Inv X pins σ H s → RelV x v → RelV y u → t x y H Q →
    wpAny (model X.prog X.w) X.A (inplaceOp op v u) (EP X pins σ Q) X.xe s
section
variable {X : Cx} {pos : Pos}
def gName (i : Nat) : TG := fun v σ H Q => Q (σ.set i (some v)) H
theorem pg_name {i : Nat} {x : Str} (hN : X.N.Nodup) (hi : X.N[i]? = some x) (hx : Loc X.env.scope x) (hf : X.fn x = true ∨ X.env.scope.names.lookup x = some .local := by first | exact .inl rfl | exact .inr rfl | assumption) : PG X (.Name x pos) (gName i) := by
  intro pins s σ H v u Q I r h
  exact wpAny_assign_Name (store_ok I hN hi hx r (fun s' I' => ⟨_, H, I', h⟩) hf)
def gNil : TGs := fun vs σ H Q => vs = [] ∧ Q σ H
def gCons (t : TG) (u : TGs) : TGs := fun vs σ H Q => ∃ v r, vs = v :: r ∧ t v σ H fun σ' H' => u r σ' H' Q
theorem pgs_nil : PGs X [] gNil := by
  intro pins s σ H vs us Q I r h
  obtain ⟨e, h⟩ := h
  subst e
  cases r
  exact assignInOrder_nil ⟨σ, H, I, h⟩
theorem pgs_cons {e : Expr} {es : List Expr} {t : TG} {u : TGs} (h1 : PG X e t) (h2 : PGs X es u)
    (hs : (assignEach (e :: es) X.env).map (·.2) = assign e X.env :: (assignEach es X.env).map (·.2) := by rfl) : PGs X (e :: es) (gCons t u) := by
  intro pins s σ H vs us Q I r h
  obtain ⟨v, vr, e1, h⟩ := h
  subst e1
  cases r with
  | cons r rr =>
    rw [hs]
    refine assignInOrder_cons (thn (h1 pins s σ H _ _ _ I r h) fun _ s1 ⟨σ1, H1, I1, q1⟩ => ?_)
    exact h2 pins s1 σ1 H1 _ _ Q I1 rr q1
/-- (a, b, ..) = a tuple of that length -/
def gTup (K : PySem.W.Frag) (n : Nat) (t : TGs) : TG := fun v σ H Q => ∃ a xs, v = .ref a ∧ SqT K H a xs ∧ xs.length = n ∧ t xs σ H Q
theorem pg_tup {es : List Expr} {k : Nat} {t : TGs} {n : Nat} (hc : X.calm = true) (h : PGs X es t)
    (hn : (assignEach es X.env).length = n := by rfl) (hst : (assignEach es X.env).findIdx? (·.1) = none := by rfl) : PG X (.Tuple es k pos) (gTup X.K n t) := by
  intro pins s σ H v u Q I r hw
  obtain ⟨a, xs, e1, hq, hl, hw⟩ := hw
  subst e1
  cases r
  obtain ⟨its, rv, ht, hz⟩ := I.tuple hq
  refine assign_Tuple_tuple (I.ok.hd hc) ht (by simp [hn, ← hl, rv.length]) hst fun h' hx => ?_
  have I1 : Inv X pins σ H { s with heap := h' } := I.kept (t' := s.toks) fun b o e => hx b o (Nat.ne_of_lt (Heap.lt_size e)) e
  exact h pins _ σ H xs _ Q I1 (by simpa using rv) hw
/-- o[i] = .. -/
def gSub (to ti : TE) (t : TSet) : TG := fun v σ H Q => to σ H fun o H1 => ti σ H1 fun i H2 => t o i v H2 fun H3 => Q σ H3
theorem pg_sub {o i : Expr} {to ti : TE} {t : TSet} (ho : PE X o to) (hi : PE X i ti) (hs : PSet X t)
    (ha : ∀ v, assign (.Subscript o i pos) X.env v = (do
      let ov ← holding [v] (eval o X.env)
      let iv ← holding [v, ov] (eval i X.env)
      standAt pos
      holding [v, ov, iv] (setItem ov iv v)
      release [v, ov, iv] []) := by intro _; rfl) : PG X (.Subscript o i pos) (gSub to ti t) := by
  intro pins s σ H v u Q I r h
  rw [ha]
  refine wpAny_bind (wpAny_holding (thn (ho pins s σ H _ I h) fun ov s1 ⟨x, H1, I1, r1, q1⟩ => ?_))
  refine wpAny_bind (wpAny_holding (thn (hi pins s1 σ H1 _ I1 q1) fun iv s2 ⟨y, H2, I2, r2, q2⟩ => ?_))
  refine wpAny_bind (wpAny_standAt (wpAny_bind (wpAny_holding (thn (hs pins s2 σ H2 x y v ov iv u _ I2 r1 r2 r q2) fun _ s3 ⟨H3, I3, q3⟩ => ?_))))
  exact wpAny_release ⟨σ, H3, I3, q3⟩
/-- target = value -/
def tAsg (te : TE) (g : TG) : TS := fun D σ H => te σ H fun x H1 => g x σ H1 D.nx
theorem ps_asg {tg e : Expr} {te : TE} {g : TG} (he : PE X e te) (hg : PG X tg g) (hs : swapsWithSole [tg] e pos.line X.env = pure false := by rfl) (hw : swappedStores [tg] e X.env = pure none := by rfl)
    (h1 : (assignEach [tg] X.env).map (·.2) = [assign tg X.env] := by rfl) : PS X (.Assign [tg] e pos) (tAsg te g) := by
  intro pins s σ H D I h
  refine wpAny_Assign_stores (thn (he pins s σ H _ I h) fun v s1 ⟨x, H1, I1, r1, q1⟩ => ?_) hs hw
  rw [h1]
  exact thn (hg pins s1 σ H1 x v _ I1 r1 q1) fun _ s2 q => q
/-- name = value -/
theorem ps_set {i : Nat} {x : Str} {e : Expr} {te : TE} {pos' : Pos} (hN : X.N.Nodup) (hi : X.N[i]? = some x) (hx : Loc X.env.scope x) (he : PE X e te) (hs : swapsWith e (some (.Name x pos')) pos.line X.env = pure false := by rfl) (hf : X.fn x = true ∨ X.env.scope.names.lookup x = some .local := by first | exact .inl rfl | exact .inr rfl | assumption) :
    PS X (.Assign [.Name x pos'] e pos) (tAsg te (gName i)) := by
  intro pins s σ H D I h
  refine wpAny_Assign_Name (thn (he pins s σ H _ I h) fun v s1 ⟨y, H1, I1, r1, q1⟩ => ?_) hs
  exact store_ok I1 hN hi hx r1 (fun s2 I2 => ⟨_, H1, I2, q1⟩) hf
/-- a, b = x, y with plain local names: stored from the right; the pair itself is not tracked (the opening rows as in PyProof/Rows/TupAssign.lean:23) -/
def tPar (i j : Nat) (ta : TA) : TS := fun D σ H => ta σ H fun vs H1 => ∃ v w, vs = [v, w] ∧ D.nx ((σ.set i (some v)).set j (some w)) H1
theorem ps_par {i j : Nat} {x y : Str} {a b : Expr} {ta : TA} {px py pt : Pos} {kt k2 pt2} (hc : X.calm = true) (hN : X.N.Nodup) (hi : X.N[i]? = some x) (hj : X.N[j]? = some y) (hij : i ≠ j)
    (hx : X.env.scope.names.lookup x = some .local) (hy : X.env.scope.names.lookup y = some .local) (ha : PA X [a, b] ta)
    (hw : swappedStores [.Tuple [.Name x px, .Name y py] kt pt] (.Tuple [a, b] k2 pt2) X.env = pure (some [x, y]))
    (hs : swapsWithSole [.Tuple [.Name x px, .Name y py] kt pt] (.Tuple [a, b] k2 pt2) pos.line X.env = pure false := by rfl) :
    PS X (.Assign [.Tuple [.Name x px, .Name y py] kt pt] (.Tuple [a, b] k2 pt2) pos) (tPar i j ta) := by
  intro pins s σ H D I h
  rw [exec_Assign_arm]
  refine wpAny_bind (wpAny_standAt ?_)
  rw [hs]
  refine wpAny_bind (wpAny_pure ?_)
  rw [if_neg (by decide)]
  refine wpAny_bind (Tuple_ (thn (ha _ pins s σ H _ I h) fun us s1 ⟨vs, H1, I1, r1, q1⟩ => ?_))
  obtain ⟨v, w, e1, q1⟩ := q1
  subst e1
  obtain ⟨u1, u2, rfl, rv, rw'⟩ : ∃ u1 u2, us = [u1, u2] ∧ RelV v u1 ∧ RelV w u2 := by
    cases r1 with
    | cons p q =>
      cases q with
      | cons p' q' =>
        cases q'
        exact ⟨_, _, rfl, p, p'⟩
  refine wpAny_newObj_type ?_ (by show 2 ≤ sizeLine; decide)
  have I2 : Inv X pins σ H1 { s1 with heap := s1.heap.push { cls := .type "tuple", data := .seq [u1, u2].toArray } } := I1.kept (t' := s1.toks) fun b o e => Heap.get?_push_of_some _ e
  rw [hw]
  refine wpAny_bind (wpAny_pure ?_)
  show wpAny (model X.prog X.w) X.A (do rule "assign.swapped-stores"; let items ← unpackItems (.ref s1.heap.objs.size) 2 none; assignInOrder [fun v => bindName X.env y v, fun v => bindName X.env x v] items.reverse; pure Flow.next) _ _ _
  refine wpAny_bind (wpAny_rule (wpAny_bind (unpackItems_tuple (items := #[u1, u2]) (I.ok.hd hc) (IsTup.new s1.heap _) fun h' hx' => ?_)))
  have I3 := I2.kept (h' := h') (t' := s1.toks) fun b o e => hx' b o (Nat.ne_of_lt (Heap.lt_size e)) e
  show wpAny _ _ (assignInOrder [fun v => bindName X.env y v, fun v => bindName X.env x v] [u2, u1] >>= fun _ => pure Flow.next) _ _ _
  refine wpAny_bind (assignInOrder_cons (wpAny_bindName (store_ok I3 hN hj (.inl hy) rw' (fun s2 I4 => ?_) (.inr hy))))
  refine assignInOrder_cons (wpAny_bindName (store_ok I4 hN hi (.inl hx) rv (fun s3 I5 => assignInOrder_nil (wpAny_pure ?_)) (.inr hx)))
  rw [List.set_comm _ _ (Ne.symm hij)] at I5
  exact ⟨_, H1, I5, q1⟩
/-- name op= e -/
def tAug (i : Nat) (te : TE) (ti : TIp) : TS := fun D σ H => ∃ x, σ[i]? = some (some x) ∧ te σ H fun y H1 => ti x y H1 fun z H2 => D.nx (σ.set i (some z)) H2
theorem ps_aug {i : Nat} {x : Str} {e : Expr} {te : TE} {op : Operator} {ti : TIp} {pos' : Pos} (hN : X.N.Nodup) (hi : X.N[i]? = some x) (hx : Loc X.env.scope x) (he : PE X e te) (ho : PIp X op ti) (hf : X.fn x = true ∨ X.env.scope.names.lookup x = some .local := by first | exact .inl rfl | exact .inr rfl | assumption) :
    PS X (.AugAssign (.Name x pos') op e pos) (tAug i te ti) := by
  intro pins s σ H D I h
  obtain ⟨v, e1, h⟩ := h
  obtain ⟨m, hn, hl⟩ := I.loc
  have vis : Vis X.env.scope x := by rcases hx with k | k; exact .inl k; exact .inr (.inl k)
  obtain ⟨u, r, l⟩ := hl i x v hi e1 vis
  refine wpAny_AugAssign_Name ?_
  have go : wpAny (model X.prog X.w) X.A (eval e X.env) (fun w s₂ => wpAny (model X.prog X.w) X.A (inplaceOp op u w) (fun r s₃ => wpAny (model X.prog X.w) X.A (storeName X.env x r) (fun _ => SP X pins D .next) X.xe s₃) X.xe s₂) X.xe s := by
    refine thn (he pins s σ H _ I h) fun w s1 ⟨y, H1, I1, r1, q1⟩ => ?_
    refine thn (ho pins s1 σ H1 v y u w _ I1 r r1 q1) fun z s2 ⟨zv, H2, I2, r2, q2⟩ => ?_
    exact store_ok I2 hN hi hx r2 (fun s3 I3 => ⟨_, H2, I3, q2⟩) hf
  rcases l with ⟨hk, hm⟩ | ⟨hk, c, hc, hcell⟩
  · exact wpAny_loadName_local I.ok.kind hk hn hm go
  · rcases hk with hk | hk
    · exact wpAny_loadName_cell I.ok.kind hk hc hcell go
    · rcases hx with k | k
      · have : X.env.scope.names.lookup x = some .free := hk
        rw [k] at this; cases this
      · have : X.env.scope.names.lookup x = some .free := hk
        rw [k] at this; cases this
/-- o[i] op= e -/
def tAugS (to ti te : TE) (tget : V → V → Hp → VK → Prop) (tip : TIp) (tset : TSet) : TS := fun D σ H => to σ H fun o H1 => ti σ H1 fun i H2 => tget o i H2 fun x H3 => te σ H3 fun y H4 => tip x y H4 fun z H5 => tset o i z H5 fun H6 => D.nx σ H6
/-- o[i], by values -/
def PGet (X : Cx) (t : V → V → Hp → VK → Prop) : Prop :=
  ∀ (pins : List (Addr × Obj)) (s : Shared) (σ : St) (H : Hp) (o i : V) (ov iv : Value) (Q : VK), Inv X pins σ H s → RelV o ov → RelV i iv → t o i H Q →
    wpAny (model X.prog X.w) X.A (getItem ov iv) (EP X pins σ Q) X.xe s
theorem ps_augS {o i e : Expr} {to ti te : TE} {tget : V → V → Hp → VK → Prop} {tip : TIp} {tset : TSet} {op : Operator} {tpos : Pos} (ho : PE X o to) (hi : PE X i ti) (hg : PGet X tget) (he : PE X e te) (hp : PIp X op tip) (hs : PSet X tset)
    (ha : ∀ ov iv new, augStore i ov iv new = (do holding [new, ov, iv] (setItem ov iv new); release [new, ov, iv] []; pure .next) := by intros; rfl) : PS X (.AugAssign (.Subscript o i tpos) op e pos) (tAugS to ti te tget tip tset) := by
  intro pins s σ H D I h
  refine wpAny_AugAssign_SubscriptAny (thn (ho pins s σ H _ I h) fun ov s1 ⟨x1, H1, I1, r1, q1⟩ => ?_) ha
  refine thn (hi pins s1 σ H1 _ I1 q1) fun iv s2 ⟨x2, H2, I2, r2, q2⟩ => ?_
  refine thn (hg pins s2 σ H2 x1 x2 ov iv _ I2 r1 r2 q2) fun old s3 ⟨x3, H3, I3, r3, q3⟩ => ?_
  refine thn (he pins s3 σ H3 _ I3 q3) fun v s4 ⟨x4, H4, I4, r4, q4⟩ => ?_
  refine thn (hp pins s4 σ H4 x3 x4 old v _ I4 r3 r4 q4) fun new s5 ⟨x5, H5, I5, r5, q5⟩ => ?_
  exact thn (hs pins s5 σ H5 x1 x2 x5 ov iv new _ I5 r1 r2 r5 q5) fun _ s6 ⟨H6, I6, q6⟩ => ⟨σ, H6, I6, q6⟩
/-- ints -/
def ipI (f : Int → Int → Int) : TIp := fun x y H Q => ∃ i j, x = .int i ∧ y = .int j ∧ Q (.int (f i j)) H
theorem ip_add : PIp X .Add (ipI fun i j => i + j) := by
  intro pins s σ H x y v u Q I r1 r2 h
  obtain ⟨i, j, e1, e2, q⟩ := h
  subst e1; subst e2
  obtain ⟨t, rfl⟩ := r1
  obtain ⟨t', rfl⟩ := r2
  exact iadd_int ⟨.int _, H, I.tok _, ⟨_, rfl⟩, q⟩
theorem ip_sub : PIp X .Sub (ipI fun i j => i - j) := by
  intro pins s σ H x y v u Q I r1 r2 h
  obtain ⟨i, j, e1, e2, q⟩ := h
  subst e1; subst e2
  obtain ⟨t, rfl⟩ := r1
  obtain ⟨t', rfl⟩ := r2
  exact isub_int ⟨.int _, H, I.tok _, ⟨_, rfl⟩, q⟩
end

/-! ### while -/
section
variable {X : Cx} {pos : Pos}
/-- the invariant W with its measure -/
def tWhile (c : TT) (tb : TS) : TS := fun D σ H => ∃ W : Nat → St → Hp → Prop, (∃ m, W m σ H) ∧ ∀ m σ H, W m σ H →
  c σ H fun b H1 => if b = true then ∃ N : St → Hp → Prop, (∀ σ' H', N σ' H' → ∃ m', m' < m ∧ W m' σ' H') ∧ tb { D with nx := N, ct := N, bk := D.nx } σ H1 else D.nx σ H1
theorem ps_while {c : Expr} {body : List Stmt} {tc : TT} {tb : TS} (hp : PassesOwn (model X.prog X.w) X.A X.env X.xe) (hc : PT X c tc) (hb : PSs X body tb) : PS X (.While c body [] pos) (tWhile tc tb) := by
  intro pins s σ H D I h
  obtain ⟨W, ⟨m0, w0⟩, turn⟩ := h
  refine wpAny_While (codeAny_whileLoop (fun n s' => ∃ σ' H', Inv X pins σ' H' s' ∧ W n σ' H') ?_ m0 ⟨σ, H, I, w0⟩)
  rintro n s1 ⟨σ1, H1, I1, w1⟩
  refine wpAny_passesOwn hp (thn (hc pins s1 σ1 H1 _ I1 (turn n σ1 H1 w1)) fun b s2 ⟨H2, I2, q2⟩ => ?_)
  cases b with
  | true =>
    obtain ⟨N, hN, q2⟩ := q2
    rw [if_pos rfl]
    refine wpAny_passesOwn hp (thn (hb pins s2 σ1 H2 _ I2 q2) fun f s3 q3 => ?_)
    cases f with
    | next =>
      obtain ⟨σ3, H3, I3, n3⟩ := q3
      obtain ⟨m', hm, w3⟩ := hN σ3 H3 n3
      exact ⟨m', hm, σ3, H3, I3, w3⟩
    | cont =>
      obtain ⟨σ3, H3, I3, n3⟩ := q3
      obtain ⟨m', hm, w3⟩ := hN σ3 H3 n3
      exact ⟨m', hm, σ3, H3, I3, w3⟩
    | brk => exact q3
    | ret v => exact q3
  | false =>
    rw [if_neg Bool.false_ne_true]
    exact wpAny_execs_nil ⟨σ1, H2, I2, q2⟩
end

/-! ### what a loop or a comprehension walks -/
/-- at turn i: it yields x (the heap may grow), or it stops -/
structure It where
  go : Nat → Hp → Prop
  yld : Nat → Hp → V → Hp → Prop
  stop : Nat → Hp → Prop
/-- the iterator's own objects may turn: they are not the frame's, not pinned, younger than the entry (or a comprehension's own) -/
def FpOk (X : Cx) (pins : List (Addr × Obj)) (H : Hp) (b : Addr) : Prop :=
  H b = none ∧ b ≠ X.env.locals ∧ b ∉ X.fs ∧ (b ∈ X.ex ∨ X.s₀.heap.objs.size ≤ b) ∧ (∀ x c, X.env.cells.lookup x = some c → c ≠ b) ∧ ∀ p ∈ X.pn ++ pins, p.1 ≠ b
theorem Inv.fpOk {X : Cx} {pins : List (Addr × Obj)} {σ : St} {H H' : Hp} {s : Shared} {b : Addr} (I : Inv X pins σ H s) (hb : s.heap.objs.size ≤ b) (hn : H' b = none) : FpOk X pins H' b := by
  refine ⟨hn, Nat.ne_of_gt (Nat.lt_of_lt_of_le I.lt hb), I.nofs hb, .inr (Nat.le_trans I.sz hb), fun x c e z => ?_, fun p hp z => ?_⟩
  · obtain ⟨v, q⟩ := I.cell x c e
    exact absurd (Nat.lt_of_lt_of_le q.lt (by rw [z]; exact hb)) (Nat.lt_irrefl _)
  · exact absurd (Nat.lt_of_lt_of_le (Heap.lt_size (I.pin p hp).1) (by rw [z]; exact hb)) (Nat.lt_irrefl _)
structure Turn (P : Program) (w : World) (K : PySem.W.Frag) (tg : Expr) (J : It) (fp : List Addr) (it : Addr) (tn : Nat → Heap → Prop) : Prop where
  mem : it ∈ fp
  obj : ∀ i h, tn i h → ∀ b ∈ fp, ∃ o, h.get? b = some o ∧ ∀ v, o.data ≠ .cell v
  keep : ∀ i h h', tn i h → (∀ b ∈ fp, ∀ o, h.get? b = some o → h'.get? b = some o) → tn i h'
  item : ∀ (X : Cx), X.prog = P → X.w = w → X.K = K → X.calm = true → ∀ (i : Nat) (pins : List (Addr × Obj)) (s : Shared) (σ : St) (H : Hp) (E : Value → Shared → Prop), Inv X pins σ H s → (∀ b ∈ fp, FpOk X pins H b) → tn i s.heap → J.go i H →
    wpAny (model P w) X.A (pyNext (.ref it)) (fun r s1 => ∃ u, r = some u ∧
      wpAny (model P w) X.A (letOwnedTupleGo tg (.ref it) u) (fun _ s2 => ∃ x H', Inv X pins σ H' s2 ∧ RelV x u ∧ J.yld i H x H' ∧ tn (i + 1) s2.heap ∧ ∀ b ∈ fp, H' b = none) E s1) E s
  done : ∀ (X : Cx), X.prog = P → X.w = w → X.K = K → X.calm = true → ∀ (i : Nat) (pins : List (Addr × Obj)) (s : Shared) (σ : St) (H : Hp) (E : Value → Shared → Prop), Inv X pins σ H s → (∀ b ∈ fp, FpOk X pins H b) → tn i s.heap → J.stop i H →
    wpAny (model P w) X.A (pyNext (.ref it)) (fun r s1 => r = none ∧ Inv X pins σ H s1) E s
  self : ∀ (A : Around) (i : Nat) (s : Shared) (Q : Value → Shared → Prop) (E : Value → Shared → Prop), tn i s.heap → Q (.ref it) s → wpAny (model P w) A (pyIter (.ref it)) Q E s
abbrev TI := St → Hp → (It → Hp → Prop) → Prop
/-- an iterator has come -/
def PIE (X : Cx) (pins : List (Addr × Obj)) (σ : St) (tg : Expr) (R : It → Hp → Prop) (itv : Value) (s2 : Shared) : Prop :=
  ∃ (it : Addr) (fp : List Addr) (tn : Nat → Heap → Prop) (J : It) (H' : Hp), itv = .ref it ∧ Inv X pins σ H' s2 ∧ Turn X.prog X.w X.K tg J fp it tn ∧ tn 0 s2.heap ∧ (∀ b ∈ fp, FpOk X pins H' b) ∧ R J H'
def PI (X : Cx) (tg iter : Expr) (wi : TI) : Prop :=
  ∀ (pins : List (Addr × Obj)) (s : Shared) (σ : St) (H : Hp) (R : It → Hp → Prop), Inv X pins σ H s → wi σ H R →
    wpAny (model X.prog X.w) X.A (eval iter X.env) (fun v s1 => wpAny (model X.prog X.w) X.A (pyIter v) (PIE X pins σ tg R) X.xe s1) X.xe s

/-- the step ahead of the store is nothing for an iterator that keeps no tuple -/
theorem go_of {M : Model} {A : Around} {E : Value → Shared → Prop} {s : Shared} {tg : Expr} {it : Addr} {u : Value} {o : Obj} {n : String} {vs : Array Value} {Q : Unit → Shared → Prop} (ho : s.heap.get? it = some o) (hc : o.cls = .type n) (hd : o.data = .fields vs)
    (hn : ["enumerate", "zip", "dict_itemiterator", "dict_reverseitemiterator", "odict_iterator", "itertools.zip_longest", "itertools.pairwise"].contains n = false) (hQ : Q () s) : wpAny M A (letOwnedTupleGo tg (.ref it) u) Q E s := by
  unfold letOwnedTupleGo
  cases tg <;> first
    | exact wpAny_pure hQ
    | (cases u <;> first
        | exact wpAny_pure hQ
        | (refine wpAny_bind (wpAny_load ho ?_)
           rw [hc, hd]
           show wpAny M A (if (["enumerate", "zip", "dict_itemiterator", "dict_reverseitemiterator", "odict_iterator", "itertools.zip_longest", "itertools.pairwise"].contains n && vs[0]? == some (rawInt _)) = true then _ else _) Q E s
           rw [if_neg (by intro h; rw [hn, Bool.false_and] at h; cases h)]
           exact wpAny_pure hQ))

/-- the list at a, as it stands at each turn (a loop may append to it) -/
def Itl (K : PySem.W.Frag) (a : Addr) : It :=
  ⟨fun i H => ∃ xs x, SqL K H a xs ∧ xs[i]? = some x, fun i H x H' => H' = H ∧ ∀ xs, SqL K H a xs → xs[i]? = some x, fun i H => ∃ xs, SqL K H a xs ∧ xs.length ≤ i⟩
def Itt (K : PySem.W.Frag) (a : Addr) : It :=
  ⟨fun i H => ∃ xs x, SqT K H a xs ∧ xs[i]? = some x, fun i H x H' => H' = H ∧ ∀ xs, SqT K H a xs → xs[i]? = some x, fun i H => ∃ xs, SqT K H a xs ∧ xs.length ≤ i⟩
/-- lo, lo + 1, .. (n of them) -/
def Itr (lo : Int) (n : Nat) : It := ⟨fun i _ => i < n, fun i H x H' => H' = H ∧ x = .int (lo + i), fun i _ => n ≤ i⟩
theorem turn_list {P : Program} {w : World} {K : PySem.W.Frag} {tg : Expr} (a it : Addr) : Turn P w K tg (Itl K a) [it] it (fun i h => h.IsListIter it a i) where
  mem := by simp
  obj := fun i h st b hb => by
    have e : b = it := by simpa using hb
    subst e
    obtain ⟨o, e, c, d⟩ := st
    exact ⟨o, e, fun v z => by rw [d] at z; cases z⟩
  keep := fun i h h' st k => st.at fun o e => k it (by simp) o e
  item := by
    intro X hP hw hK hc i pins s σ H E I hf st hg
    subst hP hw hK
    obtain ⟨xs, x, hq, hx⟩ := hg
    obtain ⟨its, rv, p, hz⟩ := I.list hq
    obtain ⟨u, hu, ru⟩ := rv.get hx
    obtain ⟨f0, f1, f2, f3, f4, f5⟩ := hf it (by simp)
    refine wpAny_pyNext_list_item st p.isList (x := u) (by simpa using hu) fun h' st' sb => ?_
    have I1 : Inv X pins σ H { s with heap := h' } := I.turned (t' := s.toks) (fun b o hb e => (sb.2 b hb).trans e) f0 f1 f3 f4 f5
    obtain ⟨o, e, c, d⟩ := id st'
    exact ⟨u, rfl, go_of (s := { s with heap := h' }) e c d (by decide) ⟨x, H, I1, ru, ⟨rfl, fun ys hy => by rw [I.list_inj hy hq]; exact hx⟩, st', fun b hb => (hf b hb).1⟩⟩
  done := by
    intro X hP hw hK hc i pins s σ H E I hf st hg
    subst hP hw hK
    obtain ⟨xs, hq, hx⟩ := hg
    obtain ⟨its, rv, p, hz⟩ := I.list hq
    obtain ⟨f0, f1, f2, f3, f4, f5⟩ := hf it (by simp)
    have hl := rv.length
    exact wpAny_pyNext_list_end (I.ok.hd hc) st p.isList (by simp; omega) fun h' eb => ⟨rfl, I.turned (t' := s.toks) (fun b o hb e => eb b o hb e) f0 f1 f3 f4 f5⟩
  self := fun _ _ _ _ _ st h => wpAny_pyIter_listiter st h
theorem turn_tuple {P : Program} {w : World} {K : PySem.W.Frag} {tg : Expr} (a it : Addr) : Turn P w K tg (Itt K a) [it] it (fun i h => h.IsTupleIter it a i) where
  mem := by simp
  obj := fun i h st b hb => by
    have e : b = it := by simpa using hb
    subst e
    obtain ⟨o, e, c, d⟩ := st
    exact ⟨o, e, fun v z => by rw [d] at z; cases z⟩
  keep := fun i h h' st k => st.at fun o e => k it (by simp) o e
  item := by
    intro X hP hw hK hc i pins s σ H E I hf st hg
    subst hP hw hK
    obtain ⟨xs, x, hq, hx⟩ := hg
    obtain ⟨its, rv, p, hz⟩ := I.tuple hq
    obtain ⟨u, hu, ru⟩ := rv.get hx
    obtain ⟨f0, f1, f2, f3, f4, f5⟩ := hf it (by simp)
    refine wpAny_pyNext_tuple_item st (show s.heap.IsTuple a its.toArray from p) (x := u) (by simpa using hu) fun h' st' sb => ?_
    have I1 : Inv X pins σ H { s with heap := h' } := I.turned (t' := s.toks) (fun b o hb e => (sb.2 b hb).trans e) f0 f1 f3 f4 f5
    obtain ⟨o, e, c, d⟩ := id st'
    exact ⟨u, rfl, go_of (s := { s with heap := h' }) e c d (by decide) ⟨x, H, I1, ru, ⟨rfl, fun ys hy => by rw [I.tuple_inj hy hq]; exact hx⟩, st', fun b hb => (hf b hb).1⟩⟩
  done := by
    intro X hP hw hK hc i pins s σ H E I hf st hg
    subst hP hw hK
    obtain ⟨xs, hq, hx⟩ := hg
    obtain ⟨its, rv, p, hz⟩ := I.tuple hq
    obtain ⟨f0, f1, f2, f3, f4, f5⟩ := hf it (by simp)
    have hl := rv.length
    exact wpAny_pyNext_tuple_end (I.ok.hd hc) st (show s.heap.IsTuple a its.toArray from p) (by simp; omega) fun h' eb => ⟨rfl, I.turned (t' := s.toks) (fun b o hb e => eb b o hb e) f0 f1 f3 f4 f5⟩
  self := fun _ _ _ _ _ st h => wpAny_pyIter_tupleiter st h
theorem turn_range {P : Program} {w : World} {K : PySem.W.Frag} {tg : Expr} (it : Addr) (lo : Int) (n : Nat) : Turn P w K tg (Itr lo n) [it] it (fun i h => IsRangeIter h it (lo + (i : Nat) * 1) ((n : Int) - (i : Nat)) 1) where
  mem := by simp
  obj := fun i h st b hb => by
    have e : b = it := by simpa using hb
    subst e
    exact ⟨_, st, fun v z => by
      have z' : Data.fields _ = Data.cell v := z
      cases z'⟩
  keep := fun i h h' st k => k it (by simp) _ st
  item := by
    intro X hP hw hK hc i pins s σ H E I hf st hg
    subst hP hw hK
    obtain ⟨f0, f1, f2, f3, f4, f5⟩ := hf it (by simp)
    have W := Walks.range (prog := X.prog) (w := X.w) (I.ok.hd hc) it lo 1 n
    refine W.item i s _ _ hg st fun v h' tk hv st' kk => ?_
    obtain ⟨t, rfl⟩ := hv
    have I1 : Inv X pins σ H { s with heap := h', toks := tk } := I.turned (fun b o hb e => kk b o (by simpa using hb) e) f0 f1 f3 f4 f5
    refine ⟨_, rfl, go_of (s := { s with heap := h', toks := tk }) (n := "range_iterator") st' rfl rfl (by decide) ⟨.int (lo + i), H, I1, ⟨t, ?_⟩, ⟨rfl, rfl⟩, st', fun b hb => (hf b hb).1⟩⟩
    rw [Int.mul_one]
  done := by
    intro X hP hw hK hc i pins s σ H E I hf st hg
    subst hP hw hK
    obtain ⟨f0, f1, f2, f3, f4, f5⟩ := hf it (by simp)
    exact wpAny_pyNext_range_end (I.ok.hd hc) st (by have : n ≤ i := hg; omega) fun h' eb => ⟨rfl, I.turned (t' := s.toks) (fun b o hb e => eb b o hb e) f0 f1 f3 f4 f5⟩
  self := fun _ _ _ _ _ st h => wpAny_pyIter_rangeiter st h
end L2

namespace L2
open PySem PySem.Spec PyProof.Rows
section
variable {X : Cx} {tg : Expr}
def iList (K : PySem.W.Frag) (tl : TE) : TI := fun σ H R => tl σ H fun x H1 => ∃ a, x = .ref a ∧ (∃ xs, SqL K H1 a xs) ∧ R (Itl K a) H1
def iTup (K : PySem.W.Frag) (tl : TE) : TI := fun σ H R => tl σ H fun x H1 => ∃ a, x = .ref a ∧ (∃ xs, SqT K H1 a xs) ∧ R (Itt K a) H1
theorem pi_list {l : Expr} {tl : TE} (hl : PE X l tl) : PI X tg l (iList X.K tl) := by
  intro pins s σ H R I h
  refine thn (hl pins s σ H _ I h) fun v s1 ⟨x, H1, I1, r1, q1⟩ => ?_
  obtain ⟨a, e, ⟨xs, hq⟩, q⟩ := q1
  subst e
  cases r1
  obtain ⟨its, rv, p, hz⟩ := I1.list hq
  refine wpAny_pyIter_list p.isList ?_
  refine ⟨s1.heap.objs.size, [s1.heap.objs.size], _, _, H1, rfl, I1.kept (t' := s1.toks) fun b o e => Heap.get?_push_of_some _ e, turn_list a _, ⟨_, Heap.get?_push_size _ rfl, rfl, rfl⟩, fun b hb => ?_, q⟩
  have e : b = s1.heap.objs.size := by simpa using hb
  subst e
  exact I1.fpOk (Nat.le_refl _) (I1.hok.fresh (Nat.le_refl _))
theorem pi_tup {l : Expr} {tl : TE} (hl : PE X l tl) : PI X tg l (iTup X.K tl) := by
  intro pins s σ H R I h
  refine thn (hl pins s σ H _ I h) fun v s1 ⟨x, H1, I1, r1, q1⟩ => ?_
  obtain ⟨a, e, ⟨xs, hq⟩, q⟩ := q1
  subst e
  cases r1
  obtain ⟨its, rv, p, hz⟩ := I1.tuple hq
  refine wpAny_pyIter_tuple (show s1.heap.IsTuple a its.toArray from p) ?_
  refine ⟨s1.heap.objs.size, [s1.heap.objs.size], _, _, H1, rfl, I1.kept (t' := s1.toks) fun b o e => Heap.get?_push_of_some _ e, turn_tuple a _, ⟨_, Heap.get?_push_size _ rfl, rfl, rfl⟩, fun b hb => ?_, q⟩
  have e : b = s1.heap.objs.size := by simpa using hb
  subst e
  exact I1.fpOk (Nat.le_refl _) (I1.hok.fresh (Nat.le_refl _))
/-- a range object just made, walked -/
theorem range_it {pins : List (Addr × Obj)} {σ : St} {H : Hp} {s : Shared} {R : It → Hp → Prop} {E : Value → Shared → Prop} {lo hi : Int} {t u v : Tok} {tk : Nat} (I : Inv X pins σ H s) (h1 : -(2 ^ 62) ≤ lo) (h2 : lo < 2 ^ 62) (h3 : -(2 ^ 62) ≤ hi) (h4 : hi < 2 ^ 62)
    (q : R (Itr lo (hi - lo).toNat) H) : wpAny (model X.prog X.w) X.A (pyIter (.ref s.heap.objs.size)) (PIE X pins σ tg R) E { s with heap := s.heap.push { cls := .type "range", data := .fields #[.int lo t, .int hi u, .int 1 v] }, toks := tk } := by
  refine wpAny_pyIter_range (IsRange.new ..) (small_one h1 h2 h3 h4) ?_
  have I1 : Inv X pins σ H { s with heap := s.heap.push { cls := .type "range", data := .fields #[.int lo t, .int hi u, .int 1 v] }, toks := tk } := I.kept fun b o e => Heap.get?_push_of_some _ e
  refine ⟨(s.heap.push { cls := .type "range", data := .fields #[.int lo t, .int hi u, .int 1 v] }).objs.size, [(s.heap.push { cls := .type "range", data := .fields #[.int lo t, .int hi u, .int 1 v] }).objs.size], _, _, H, rfl,
    I1.kept (t' := tk) fun b o e => Heap.get?_push_of_some _ e, turn_range _ lo (hi - lo).toNat, ?_, fun b hb => ?_, q⟩
  · have e1 : lo + ((0 : Nat) : Int) * 1 = lo := by simp
    have e2 : (((hi - lo).toNat : Nat) : Int) - ((0 : Nat) : Int) = Builtin.Range.rangeSize lo hi 1 := by rw [rangeSize_one]; split <;> omega
    show IsRangeIter _ _ (lo + ((0 : Nat) : Int) * 1) ((((hi - lo).toNat : Nat) : Int) - ((0 : Nat) : Int)) 1
    rw [e1, e2]
    exact Heap.get?_push_size _ rfl
  · have e : b = (s.heap.push { cls := .type "range", data := .fields #[.int lo t, .int hi u, .int 1 v] }).objs.size := by simpa using hb
    subst e
    exact I1.fpOk (Nat.le_refl _) (I1.hok.fresh (Nat.le_refl _))
def iRng1 (ta : TA) : TI := fun σ H R => ta σ H fun vs H1 => ∃ j : Int, vs = [.int j] ∧ -(2 ^ 62) ≤ j ∧ j < 2 ^ 62 ∧ R (Itr 0 j.toNat) H1
def iRng2 (ta : TA) : TI := fun σ H R => ta σ H fun vs H1 => ∃ i j : Int, vs = [.int i, .int j] ∧ (-(2 ^ 62) ≤ i ∧ i < 2 ^ 62 ∧ -(2 ^ 62) ≤ j ∧ j < 2 ^ 62) ∧ R (Itr i (j - i).toNat) H1
theorem pi_range1 {a : Expr} {ta : TA} {p pos : Pos} (hg : Gl X "range") (hm : X.mg "range" = none) (ha : PA X [a] ta) (hs : starEach [a] X.env = [(false, eval a X.env)] := by rfl) : PI X tg (.Call (.Name "range" p) [a] [] pos) (iRng1 ta) := by
  intro pins s σ H R I h
  refine Call_ (ld_blt I hg hm boot_range (PyProof.Rows.callWith_type1 (thn (ha pos pins s σ H _ I h) fun us s1 ⟨vs, H1, I1, r1, q1⟩ => ?_) hs rfl))
  obtain ⟨j, e, q1, q2, q⟩ := q1
  subst e
  cases r1 with
  | cons r rr =>
    cases rr
    obtain ⟨t, rfl⟩ := r
    exact call_range_1 (range_it I1 (by omega) (by omega) q1 q2 (by simpa using q))
theorem pi_range2 {a b : Expr} {ta : TA} {p pos : Pos} (hg : Gl X "range") (hm : X.mg "range" = none) (ha : PA X [a, b] ta) (hs : starEach [a, b] X.env = [(false, eval a X.env), (false, eval b X.env)] := by rfl) (hs2 : starEach [b] X.env = [(false, eval b X.env)] := by rfl) :
    PI X tg (.Call (.Name "range" p) [a, b] [] pos) (iRng2 ta) := by
  intro pins s σ H R I h
  refine Call_ (ld_blt I hg hm boot_range (PyProof.Rows.callWith_type1 (thn (ha pos pins s σ H _ I h) fun us s1 ⟨vs, H1, I1, r1, q1⟩ => ?_) (by rw [hs, hs2]) (by rw [hs2]; rfl)))
  obtain ⟨i, j, e, ⟨q1, q2, q3, q4⟩, q⟩ := q1
  subst e
  cases r1 with
  | cons r rr =>
    cases rr with
    | cons r' rr =>
      cases rr
      obtain ⟨t, rfl⟩ := r
      obtain ⟨t', rfl⟩ := r'
      exact call_range_2 (range_it I1 q1 q2 q3 q4 q)

/-! ### for -/
/-- W: the invariant by the turn and a measure; N: what the body is to reach -/
def tFor (wi : TI) (g : TG) (tb : TS) : TS := fun D σ H => wi σ H fun J H1 => ∃ W : Nat → Nat → St → Hp → Prop, (∃ m, W 0 m σ H1) ∧ ∀ i m σ H, W i m σ H →
  (J.stop i H ∧ D.nx σ H) ∨ (J.go i H ∧ ∃ N : St → Hp → Prop, (∀ σ' H', N σ' H' → ∃ m', m' < m ∧ W (i + 1) m' σ' H') ∧ ∀ x H', J.yld i H x H' → g x σ H' fun σ2 H2 => tb { D with nx := N, ct := N, bk := D.nx } σ2 H2)
/-- the records at fp as they stand -/
def pinsAt (fp : List Addr) (h : Heap) : List (Addr × Obj) := fp.filterMap fun b => (h.get? b).map fun o => (b, o)
theorem mem_pinsAt {fp : List Addr} {h : Heap} {b : Addr} {o : Obj} (hb : b ∈ fp) (e : h.get? b = some o) : (b, o) ∈ pinsAt fp h := List.mem_filterMap.mpr ⟨b, hb, by rw [e]; rfl⟩
theorem of_pinsAt {fp : List Addr} {h : Heap} {p : Addr × Obj} (hp : p ∈ pinsAt fp h) : p.1 ∈ fp ∧ h.get? p.1 = some p.2 := by
  obtain ⟨b, hb, e⟩ := List.mem_filterMap.mp hp
  cases q : h.get? b with
  | none => rw [q] at e; cases e
  | some o =>
    rw [q] at e
    have e' : (b, o) = p := Option.some.inj e
    subst e'
    exact ⟨hb, q⟩
theorem Inv.pinned {pins : List (Addr × Obj)} {σ : St} {H : Hp} {s : Shared} {fp : List Addr} (I : Inv X pins σ H s) (hf : ∀ b ∈ fp, FpOk X pins H b) (ho : ∀ b ∈ fp, ∃ o, s.heap.get? b = some o ∧ ∀ v, o.data ≠ .cell v) : Inv X (pins ++ pinsAt fp s.heap) σ H s :=
  I.pins_of fun p hp => (List.mem_append.mp hp).elim (fun z => I.pin p (List.mem_append_right _ z)) fun z => by
    obtain ⟨hb, e⟩ := of_pinsAt z
    obtain ⟨f0, f1, f2, _⟩ := hf p.1 hb
    obtain ⟨o, e', d⟩ := ho p.1 hb
    rw [e] at e'; cases e'
    exact ⟨e, f0, f1, f2, d⟩
theorem Inv.unpinned {pins pl : List (Addr × Obj)} {σ : St} {H : Hp} {s : Shared} (I : Inv X (pins ++ pl) σ H s) : Inv X pins σ H s := I.pins_of fun p hp => I.pin p (List.mem_append_right _ (List.mem_append_left _ hp))
theorem ps_for {iter : Expr} {body : List Stmt} {wi : TI} {g : TG} {tb : TS} {pos : Pos} (hp : PassesOwn (model X.prog X.w) X.A X.env X.xe) (hc : X.calm = true) (hi : PI X tg iter wi) (hg : PG X tg g) (hb : PSs X body tb)
    (hs : ∀ x, foldedSetIterable iter X.env x = pure x := by intro _; rfl) : PS X (.For tg iter body [] pos) (tFor wi g tb) := by
  intro pins s σ H D I h
  refine wpAny_For (thn (hi pins s σ H _ I h) fun v s1 h1 => thn h1 fun itv s2 h2 => ?_) hs
  obtain ⟨it, fp, tn, J, H2, e, I2, T, st2, f2, W, ⟨m0, w0⟩, turn⟩ := h2
  subst e
  -- what stays true of the iterator's objects through the loop
  have stat : ∀ {H' : Hp}, (∀ b ∈ fp, H' b = none) → ∀ b ∈ fp, FpOk X pins H' b := fun hn b hb => ⟨hn b hb, (f2 b hb).2⟩
  refine codeAny_forLoop_any (fun n s' => ∃ i σ' H', Inv X pins σ' H' s' ∧ tn i s'.heap ∧ (∀ b ∈ fp, H' b = none) ∧ W i n σ' H') ?_ m0 ⟨0, σ, H2, I2, st2, fun b hb => (f2 b hb).1, w0⟩
  rintro n s3 ⟨i, σ3, H3, I3, st3, fr3, w3⟩
  rcases turn i n σ3 H3 w3 with ⟨stop, qn⟩ | ⟨go, N, hN, step⟩
  · refine wpAny_passesOwn hp (thn (T.done X rfl rfl rfl hc i pins s3 σ3 H3 X.xe I3 (stat fr3) st3 stop) fun r s4 ⟨hr, I4⟩ => ?_)
    subst hr
    exact wpAny_execs_nil ⟨σ3, H3, I4, qn⟩
  · refine wpAny_passesOwn hp (thn (T.item X rfl rfl rfl hc i pins s3 σ3 H3 X.xe I3 (stat fr3) st3 go) fun r s4 ⟨u, hr, h4⟩ => ?_)
    subst hr
    refine wpAny_passesOwn hp (thn h4 fun _ s5 ⟨x, H5, I5, r5, y5, st5, fr5⟩ => ?_)
    have I5' := I5.pinned (stat fr5) (T.obj _ _ st5)
    refine wpAny_passesOwn hp (thn (hg _ s5 σ3 H5 x u _ I5' r5 (step x H5 y5)) fun _ s6 ⟨σ6, H6, I6, q6⟩ => ?_)
    refine wpAny_passesOwn hp (thn (hb _ s6 σ6 H6 _ I6 q6) fun f s7 q7 => ?_)
    have again : ∀ {σ7 : St} {H7 : Hp}, Inv X (pins ++ pinsAt fp s5.heap) σ7 H7 s7 → N σ7 H7 → ∃ m, m < n ∧ ∃ i σ' H', Inv X pins σ' H' s7 ∧ tn i s7.heap ∧ (∀ b ∈ fp, H' b = none) ∧ W i m σ' H' := fun {σ7 H7} I7 n7 => by
      obtain ⟨m', hm, w7⟩ := hN σ7 H7 n7
      refine ⟨m', hm, i + 1, σ7, H7, I7.unpinned, T.keep _ _ _ st5 fun b hb o e => (I7.pin (b, o) (List.mem_append_right _ (List.mem_append_right _ (mem_pinsAt hb e)))).1, fun b hb => ?_, w7⟩
      obtain ⟨o, e, d⟩ := T.obj _ _ st5 b hb
      exact (I7.pin (b, o) (List.mem_append_right _ (List.mem_append_right _ (mem_pinsAt hb e)))).2.1
    cases f with
    | next => obtain ⟨σ7, H7, I7, n7⟩ := q7; exact again I7 n7
    | cont => obtain ⟨σ7, H7, I7, n7⟩ := q7; exact again I7 n7
    | brk => obtain ⟨σ7, H7, I7, q7⟩ := q7; exact ⟨σ7, H7, I7.unpinned, q7⟩
    | ret v => obtain ⟨x7, σ7, H7, I7, r7, q7⟩ := q7; exact ⟨x7, σ7, H7, I7.unpinned, r7, q7⟩
end

/-! ### the forms one uses -/
/-- over a list that the body leaves as it is -/
theorem for_list {K : PySem.W.Frag} {a : Addr} {xs : List V} {g : TG} {tb : TS} {D : Ends} {σ : St} {H : Hp} (Pv : Nat → St → Hp → Prop) (h0 : Pv 0 σ H) (hl : ∀ i σ H, i ≤ xs.length → Pv i σ H → SqL K H a xs)
    (hs : ∀ i x σ H, xs[i]? = some x → Pv i σ H → g x σ H fun σ2 H2 => tb { D with nx := Pv (i + 1), ct := Pv (i + 1), bk := D.nx } σ2 H2) (hd : ∀ σ H, Pv xs.length σ H → D.nx σ H) :
    ∃ W : Nat → Nat → St → Hp → Prop, (∃ m, W 0 m σ H) ∧ ∀ i m σ H, W i m σ H →
      ((Itl K a).stop i H ∧ D.nx σ H) ∨ ((Itl K a).go i H ∧ ∃ N : St → Hp → Prop, (∀ σ' H', N σ' H' → ∃ m', m' < m ∧ W (i + 1) m' σ' H') ∧ ∀ x H', (Itl K a).yld i H x H' → g x σ H' fun σ2 H2 => tb { D with nx := N, ct := N, bk := D.nx } σ2 H2) := by
  refine ⟨fun i m σ H => m = xs.length - i ∧ i ≤ xs.length ∧ Pv i σ H, ⟨xs.length, by simp, Nat.zero_le _, h0⟩, ?_⟩
  rintro i m σ H ⟨rfl, hi, p⟩
  have q := hl i σ H hi p
  by_cases hlt : i < xs.length
  · refine .inr ⟨⟨xs, xs[i], q, by simp [hlt]⟩, Pv (i + 1), fun σ' H' p' => ⟨xs.length - (i + 1), by omega, rfl, hlt, p'⟩, fun x H' y => ?_⟩
    obtain ⟨e, y⟩ := y
    subst e
    exact hs i x σ _ (y xs q) p
  · have e : i = xs.length := by omega
    subst e
    exact .inl ⟨⟨xs, q, Nat.le_refl _⟩, hd σ H p⟩
theorem for_tup {K : PySem.W.Frag} {a : Addr} {xs : List V} {g : TG} {tb : TS} {D : Ends} {σ : St} {H : Hp} (Pv : Nat → St → Hp → Prop) (h0 : Pv 0 σ H) (hl : ∀ i σ H, i ≤ xs.length → Pv i σ H → SqT K H a xs)
    (hs : ∀ i x σ H, xs[i]? = some x → Pv i σ H → g x σ H fun σ2 H2 => tb { D with nx := Pv (i + 1), ct := Pv (i + 1), bk := D.nx } σ2 H2) (hd : ∀ σ H, Pv xs.length σ H → D.nx σ H) :
    ∃ W : Nat → Nat → St → Hp → Prop, (∃ m, W 0 m σ H) ∧ ∀ i m σ H, W i m σ H →
      ((Itt K a).stop i H ∧ D.nx σ H) ∨ ((Itt K a).go i H ∧ ∃ N : St → Hp → Prop, (∀ σ' H', N σ' H' → ∃ m', m' < m ∧ W (i + 1) m' σ' H') ∧ ∀ x H', (Itt K a).yld i H x H' → g x σ H' fun σ2 H2 => tb { D with nx := N, ct := N, bk := D.nx } σ2 H2) := by
  refine ⟨fun i m σ H => m = xs.length - i ∧ i ≤ xs.length ∧ Pv i σ H, ⟨xs.length, by simp, Nat.zero_le _, h0⟩, ?_⟩
  rintro i m σ H ⟨rfl, hi, p⟩
  have q := hl i σ H hi p
  by_cases hlt : i < xs.length
  · refine .inr ⟨⟨xs, xs[i], q, by simp [hlt]⟩, Pv (i + 1), fun σ' H' p' => ⟨xs.length - (i + 1), by omega, rfl, hlt, p'⟩, fun x H' y => ?_⟩
    obtain ⟨e, y⟩ := y
    subst e
    exact hs i x σ _ (y xs q) p
  · have e : i = xs.length := by omega
    subst e
    exact .inl ⟨⟨xs, q, Nat.le_refl _⟩, hd σ H p⟩
theorem for_range {lo : Int} {n : Nat} {g : TG} {tb : TS} {D : Ends} {σ : St} {H : Hp} (Pv : Nat → St → Hp → Prop) (h0 : Pv 0 σ H)
    (hs : ∀ i σ H, i < n → Pv i σ H → g (.int (lo + i)) σ H fun σ2 H2 => tb { D with nx := Pv (i + 1), ct := Pv (i + 1), bk := D.nx } σ2 H2) (hd : ∀ σ H, Pv n σ H → D.nx σ H) :
    ∃ W : Nat → Nat → St → Hp → Prop, (∃ m, W 0 m σ H) ∧ ∀ i m σ H, W i m σ H →
      ((Itr lo n).stop i H ∧ D.nx σ H) ∨ ((Itr lo n).go i H ∧ ∃ N : St → Hp → Prop, (∀ σ' H', N σ' H' → ∃ m', m' < m ∧ W (i + 1) m' σ' H') ∧ ∀ x H', (Itr lo n).yld i H x H' → g x σ H' fun σ2 H2 => tb { D with nx := N, ct := N, bk := D.nx } σ2 H2) := by
  refine ⟨fun i m σ H => m = n - i ∧ i ≤ n ∧ Pv i σ H, ⟨n, by simp, Nat.zero_le _, h0⟩, ?_⟩
  rintro i m σ H ⟨rfl, hi, p⟩
  by_cases hlt : i < n
  · refine .inr ⟨hlt, Pv (i + 1), fun σ' H' p' => ⟨n - (i + 1), by omega, rfl, hlt, p'⟩, fun x H' y => ?_⟩
    obtain ⟨e, y⟩ := y
    subst e y
    exact hs i σ _ hlt p
  · have e : i = n := by omega
    subst e
    exact .inl ⟨Nat.le_refl _, hd σ H p⟩
/-- while, by a word and a measure of the state -/
theorem while_by {c : TT} {tb : TS} {D : Ends} {σ : St} {H : Hp} (Pv : St → Hp → Prop) (μ : St → Hp → Nat) (h0 : Pv σ H)
    (hs : ∀ σ H, Pv σ H → c σ H fun b H1 => if b = true then tb { D with nx := fun σ' H' => Pv σ' H' ∧ μ σ' H' < μ σ H, ct := fun σ' H' => Pv σ' H' ∧ μ σ' H' < μ σ H, bk := D.nx } σ H1 else D.nx σ H1)
    (mono : ∀ σ H Q Q', (∀ b H1, Q b H1 → Q' b H1) → c σ H Q → c σ H Q') : tWhile c tb D σ H := by
  refine ⟨fun m σ H => m = μ σ H ∧ Pv σ H, ⟨_, rfl, h0⟩, ?_⟩
  rintro m σ H ⟨rfl, p⟩
  refine mono σ H _ _ (fun b H1 q => ?_) (hs σ H p)
  cases b with
  | true => exact ⟨_, fun σ' H' ⟨p', l⟩ => ⟨_, l, rfl, p'⟩, q⟩
  | false => exact q
end L2

namespace L2
open PySem PySem.Spec PyProof.Rows

abbrev R2 := V → V → Hp → VK → Prop
/-- a two-place operation on values: f is binaryOp op, inplaceOp op or compareOp op -/
def OpR (X : Cx) (f : Value → Value → Sem Value) (r : R2) : Prop :=
  ∀ (pins : List (Addr × Obj)) (s : Shared) (σ : St) (H : Hp) (x y : V) (v u : Value) (Q : VK), Inv X pins σ H s → RelV x v → RelV y u → r x y H Q →
    wpAny (model X.prog X.w) X.A (f v u) (EP X pins σ Q) X.xe s
/-- a one-place operation -/
def UnR (X : Cx) (f : Value → Sem Value) (r : V → Hp → VK → Prop) : Prop :=
  ∀ (pins : List (Addr × Obj)) (s : Shared) (σ : St) (H : Hp) (x : V) (v : Value) (Q : VK), Inv X pins σ H s → RelV x v → r x H Q →
    wpAny (model X.prog X.w) X.A (f v) (EP X pins σ Q) X.xe s
/-- a call of a value that is known (a builtin, a type) with values -/
def CallR (X : Cx) (f : Value) (r : List V → Hp → VK → Prop) : Prop :=
  ∀ (pins : List (Addr × Obj)) (s : Shared) (σ : St) (H : Hp) (xs : List V) (us : List Value) (Q : VK), Inv X pins σ H s → Vals xs us → r xs H Q →
    wpAny (model X.prog X.w) X.A (call f us) (EP X pins σ Q) X.xe s
/-- a value's truth -/
def TruR (X : Cx) (r : V → Hp → (Bool → Hp → Prop) → Prop) : Prop :=
  ∀ (pins : List (Addr × Obj)) (s : Shared) (σ : St) (H : Hp) (x : V) (v : Value) (Q : Bool → Hp → Prop), Inv X pins σ H s → RelV x v → r x H Q →
    wpAny (model X.prog X.w) X.A (truthy v) (TP X pins σ Q) X.xe s

def tOp (r : R2) (ta tb : TE) : TE := fun σ H Q => ta σ H fun x H1 => tb σ H1 fun y H2 => r x y H2 Q
def tUn (r : V → Hp → VK → Prop) (ta : TE) : TE := fun σ H Q => ta σ H fun x H1 => r x H1 Q
/-- ints in, under C, and a value out -/
def rI (C : Int → Int → Prop) (g : Int → Int → V) : R2 := fun x y H Q => ∃ i j, x = .int i ∧ y = .int j ∧ C i j ∧ Q (g i j) H
def rI0 (g : Int → Int → V) : R2 := fun x y H Q => ∃ i j, x = .int i ∧ y = .int j ∧ Q (g i j) H
def rU (g : Int → V) : V → Hp → VK → Prop := fun x H Q => ∃ i, x = .int i ∧ Q (g i) H

section
variable {X : Cx} {a b c : Expr} {ta tb tc : TE} {pos : Pos}

theorem binT (ha : PE X a ta) (hb : PE X b tb) {pins : List (Addr × Obj)} {s : Shared} {σ : St} {H : Hp} {R : V → V → Hp → Prop} (I : Inv X pins σ H s)
    (h : ta σ H fun x H1 => tb σ H1 fun y H2 => R x y H2) {Q : Value → Shared → Prop} {f : Value → Value → Sem Value}
    (hf : ∀ v u s2 x y H2, Inv X pins σ H2 s2 → RelV x v → RelV y u → R x y H2 → wpAny (model X.prog X.w) X.A (f v u) Q X.xe s2) :
    wpAny (model X.prog X.w) X.A (eval a X.env) (fun v s₁ => wpAny (model X.prog X.w) X.A (eval b X.env) (fun u s₂ => wpAny (model X.prog X.w) X.A (f v u) Q X.xe s₂) X.xe s₁) X.xe s := by
  refine thn (ha pins s σ H _ I h) fun v s1 ⟨x, H1, I1, r1, q1⟩ => ?_
  refine thn (hb pins s1 σ H1 _ I1 q1) fun u s2 ⟨y, H2, I2, r2, q2⟩ => ?_
  exact hf v u s2 x y H2 I2 r1 r2 q2

theorem pe_op {op : Operator} {r : R2} (ho : OpR X (binaryOp op) r) (ha : PE X a ta) (hb : PE X b tb) : PE X (.BinOp a op b pos) (tOp r ta tb) := by
  intro pins s σ H Q I h
  exact wpAny_BinOp (binT ha hb I h fun v u s2 x y H2 I2 rx ry q => ho pins s2 σ H2 x y v u Q I2 rx ry q)
theorem pe_un {op : UnaryOp} {r : V → Hp → VK → Prop} (ho : UnR X (unaryOp op) r) (ha : PE X a ta) : PE X (.UnaryOp op a pos) (tUn r ta) := by
  intro pins s σ H Q I h
  exact UnaryOp_ (thn (ha pins s σ H _ I h) fun v s1 ⟨x, H1, I1, r1, q1⟩ => ho pins s1 σ H1 x v Q I1 r1 q1)
/-- a op= e at a name: the name's slot i -/
theorem augR {op : Operator} {r : R2} (ho : OpR X (inplaceOp op) r) {pins : List (Addr × Obj)} {s : Shared} {σ : St} {H : Hp} {x y : V} {v u : Value} {Q : VK} (I : Inv X pins σ H s)
    (rx : RelV x v) (ry : RelV y u) (q : r x y H Q) : wpAny (model X.prog X.w) X.A (inplaceOp op v u) (EP X pins σ Q) X.xe s := ho pins s σ H x y v u Q I rx ry q

/-! ### ints -/
theorem opI {f : Value → Value → Sem Value} {C : Int → Int → Prop} {g : Int → Int → Int}
    (rule : ∀ (i j : Int) (t u : Tok) (s : Shared) (Q : Value → Shared → Prop) (E : Value → Shared → Prop), C i j → Q (.int (g i j) s.toks) { s with toks := s.toks + 1 } → wpAny (model X.prog X.w) X.A (f (.int i t) (.int j u)) Q E s) :
    OpR X f (rI C fun i j => .int (g i j)) := by
  intro pins s σ H x y v u Q I rx ry h
  obtain ⟨i, j, rfl, rfl, hc, q⟩ := h
  obtain ⟨t, rfl⟩ := rx
  obtain ⟨t', rfl⟩ := ry
  exact rule i j t t' s _ _ hc ⟨.int (g i j), H, I.tok _, ⟨_, rfl⟩, q⟩
theorem opI0 {f : Value → Value → Sem Value} {g : Int → Int → Int}
    (rule : ∀ (i j : Int) (t u : Tok) (s : Shared) (Q : Value → Shared → Prop) (E : Value → Shared → Prop), Q (.int (g i j) s.toks) { s with toks := s.toks + 1 } → wpAny (model X.prog X.w) X.A (f (.int i t) (.int j u)) Q E s) :
    OpR X f (rI0 fun i j => .int (g i j)) := by
  intro pins s σ H x y v u Q I rx ry h
  obtain ⟨i, j, rfl, rfl, q⟩ := h
  obtain ⟨t, rfl⟩ := rx
  obtain ⟨t', rfl⟩ := ry
  exact rule i j t t' s _ _ ⟨.int (g i j), H, I.tok _, ⟨_, rfl⟩, q⟩
theorem opB0 {f : Value → Value → Sem Value} {g : Int → Int → Bool}
    (rule : ∀ (i j : Int) (t u : Tok) (s : Shared) (Q : Value → Shared → Prop) (E : Value → Shared → Prop), Q (.bool (g i j)) s → wpAny (model X.prog X.w) X.A (f (.int i t) (.int j u)) Q E s) :
    OpR X f (rI0 fun i j => .bl (g i j)) := by
  intro pins s σ H x y v u Q I rx ry h
  obtain ⟨i, j, rfl, rfl, q⟩ := h
  obtain ⟨t, rfl⟩ := rx
  obtain ⟨t', rfl⟩ := ry
  exact rule i j t t' s _ _ ⟨.bl (g i j), H, I, rfl, q⟩

def CDiv (i j : Int) : Prop := 0 < j ∧ j < 1073741824
def CDivN (i j : Int) : Prop := j ≠ 0 ∧ j.natAbs < 1073741824
def CPow (i j : Int) : Prop := 0 ≤ j ∧ j ≤ 1000000 ∧ i.natAbs < 2 ^ 64
def CMul (i j : Int) : Prop := (-(2 ^ 64) < i ∧ i < 2 ^ 64) ∨ (-(2 ^ 64) < j ∧ j < 2 ^ 64)
theorem CMul.ok {i j : Int} (h : CMul i j) : IntMulOk i j := by
  rcases h with ⟨h1, h2⟩ | ⟨h1, h2⟩
  · exact .of_left (intBits_le_64 h1 h2)
  · exact .of_right (intBits_le_64 h1 h2)
theorem two_pow_nn (k : Nat) : (0 : Int) ≤ 2 ^ k := by
  rw [two_pow_cast]
  exact Int.natCast_nonneg _

theorem op_add : OpR X (binaryOp .Add) (rI0 fun i j => .int (i + j)) := opI0 fun _ _ _ _ _ _ _ q => add_int q
theorem op_sub : OpR X (binaryOp .Sub) (rI0 fun i j => .int (i - j)) := opI0 fun _ _ _ _ _ _ _ q => sub_int q
theorem op_mul : OpR X (binaryOp .Mult) (rI CMul fun i j => .int (i * j)) := opI fun _ _ _ _ _ _ _ hc q => mul_int q hc.ok
/-- // by a positive divisor -/
theorem op_fdiv : OpR X (binaryOp .FloorDiv) (rI CDiv fun i j => .int (i / j)) := opI fun i j _ _ _ _ _ hc q => by
  have h1 : (0 : Int) < j := hc.1
  have h2 : j < 1073741824 := hc.2
  exact floordiv_int (by omega) (by rw [Int.fdiv_eq_ediv_of_nonneg i (by omega)]; exact q) (.inl (PyProof.noPylong_small (by omega)))
theorem op_fdivN : OpR X (binaryOp .FloorDiv) (rI CDivN fun i j => .int (i.fdiv j)) := opI fun _ _ _ _ _ _ _ hc q => floordiv_int hc.1 q (.inl (PyProof.noPylong_small hc.2))
/-- % by a positive divisor of any size -/
theorem op_mod : OpR X (binaryOp .Mod) (rI (fun _ j => 0 < j) fun i j => .int (i % j)) := opI fun i j _ _ _ _ _ hc q => by
  have h1 : (0 : Int) < j := hc
  exact mod_int' (by omega) (by rw [Int.fmod_eq_emod_of_nonneg i (by omega)]; exact q)
theorem op_modN : OpR X (binaryOp .Mod) (rI (fun _ j => j ≠ 0) fun i j => .int (i.fmod j)) := opI fun _ _ _ _ _ _ _ hc q => mod_int' hc q
theorem op_pow : OpR X (binaryOp .Pow) (rI CPow fun i j => .int (i ^ j.toNat)) := opI fun _ _ _ _ _ _ _ hc q => pow_int_small hc.1 hc.2.1 hc.2.2 q
theorem op_shl : OpR X (binaryOp .LShift) (rI CPow fun i j => .int (i * 2 ^ j.toNat)) := opI fun _ _ _ _ _ _ _ hc q => lshift_int_small hc.1 hc.2.1 hc.2.2 q
theorem op_shr : OpR X (binaryOp .RShift) (rI (fun _ j => 0 ≤ j) fun i j => .int (i / 2 ^ j.toNat)) := opI fun i j _ _ _ _ _ hc q =>
  rshift_int hc (by rw [Int.fdiv_eq_ediv_of_nonneg i (two_pow_nn _)]; exact q)
theorem op_and : OpR X (binaryOp .BitAnd) (rI0 fun i j => .int (Builtin.bitAnd i j)) := opI0 fun _ _ _ _ _ _ _ q => and_int q
theorem op_or : OpR X (binaryOp .BitOr) (rI0 fun i j => .int (Builtin.bitOr i j)) := opI0 fun _ _ _ _ _ _ _ q => or_int q
theorem op_xor : OpR X (binaryOp .BitXor) (rI0 fun i j => .int (Builtin.bitXor i j)) := opI0 fun _ _ _ _ _ _ _ q => xor_int q

theorem iop_add : OpR X (inplaceOp .Add) (rI0 fun i j => .int (i + j)) := opI0 fun _ _ _ _ _ _ _ q => iadd_int q
theorem iop_sub : OpR X (inplaceOp .Sub) (rI0 fun i j => .int (i - j)) := opI0 fun _ _ _ _ _ _ _ q => isub_int q
theorem iop_mul : OpR X (inplaceOp .Mult) (rI CMul fun i j => .int (i * j)) := opI fun _ _ _ _ _ _ _ hc q => imul_int q hc.ok
theorem iop_fdiv : OpR X (inplaceOp .FloorDiv) (rI CDiv fun i j => .int (i / j)) := opI fun i j _ _ _ _ _ hc q => by
  have h1 : (0 : Int) < j := hc.1
  have h2 : j < 1073741824 := hc.2
  exact ifloordiv_int (by omega) (by rw [Int.fdiv_eq_ediv_of_nonneg i (by omega)]; exact q) (.inl (PyProof.noPylong_small (by omega)))
theorem iop_mod : OpR X (inplaceOp .Mod) (rI (fun _ j => 0 < j) fun i j => .int (i % j)) := opI fun i j _ _ _ _ _ hc q => by
  have h1 : (0 : Int) < j := hc
  exact imod_int (by omega) (by rw [Int.fmod_eq_emod_of_nonneg i (by omega)]; exact q)
theorem iop_shl : OpR X (inplaceOp .LShift) (rI CPow fun i j => .int (i * 2 ^ j.toNat)) := opI fun _ _ _ _ _ _ _ hc q => ilshift_int_small hc.1 hc.2.1 hc.2.2 q
theorem iop_shr : OpR X (inplaceOp .RShift) (rI (fun _ j => 0 ≤ j) fun i j => .int (i / 2 ^ j.toNat)) := opI fun i j _ _ _ _ _ hc q =>
  irshift_int hc (by rw [Int.fdiv_eq_ediv_of_nonneg i (two_pow_nn _)]; exact q)
theorem iop_and : OpR X (inplaceOp .BitAnd) (rI0 fun i j => .int (Builtin.bitAnd i j)) := opI0 fun _ _ _ _ _ _ _ q => iand_int q
theorem iop_or : OpR X (inplaceOp .BitOr) (rI0 fun i j => .int (Builtin.bitOr i j)) := opI0 fun _ _ _ _ _ _ _ q => ior_int q
theorem iop_xor : OpR X (inplaceOp .BitXor) (rI0 fun i j => .int (Builtin.bitXor i j)) := opI0 fun _ _ _ _ _ _ _ q => ixor_int q

theorem unI {f : Value → Sem Value} {g : Int → Int}
    (rule : ∀ (i : Int) (t : Tok) (s : Shared) (Q : Value → Shared → Prop) (E : Value → Shared → Prop), Q (.int (g i) s.toks) { s with toks := s.toks + 1 } → wpAny (model X.prog X.w) X.A (f (.int i t)) Q E s) :
    UnR X f (rU fun i => .int (g i)) := by
  intro pins s σ H x v Q I rx h
  obtain ⟨i, rfl, q⟩ := h
  obtain ⟨t, rfl⟩ := rx
  exact rule i t s _ _ ⟨.int (g i), H, I.tok _, ⟨_, rfl⟩, q⟩
theorem un_neg : UnR X (unaryOp .USub) (rU fun i => .int (-i)) := unI fun _ _ _ _ _ q => neg_int q
theorem un_inv : UnR X (unaryOp .Invert) (rU fun i => .int (Builtin.bitNot i)) := unI fun _ _ _ _ _ q => invert_int q

/-! ### bools among ints: n += (a < b) -/
theorem op_add_ib : OpR X (binaryOp .Add) (fun x y H Q => ∃ i k, x = .int i ∧ y = .bl k ∧ Q (.int (i + b2i k)) H) := by
  intro pins s σ H x y v u Q I rx ry h
  obtain ⟨i, k, rfl, rfl, q⟩ := h
  obtain ⟨t, rfl⟩ := rx
  cases ry
  exact add_int_bool ⟨.int (i + b2i k), H, I.tok _, ⟨_, rfl⟩, q⟩
end

/-! ### comparisons -/
/-- the scalars that == tells apart as data does -/
def scal : V → V → Bool
  | .non, .non => true | .non, .int _ => true | .int _, .non => true | .non, .bl _ => true | .bl _, .non => true | .non, .str _ => true | .str _, .non => true
  | .int _, .int _ => true | .bl _, .bl _ => true | .str _, .str _ => true | .byt _, .byt _ => true
  | .int _, .str _ => true | .str _, .int _ => true | .bl _, .str _ => true | .str _, .bl _ => true
  | _, _ => false
def rEq : R2 := fun x y H Q => scal x y = true ∧ Q (.bl (decide (x = y))) H
def rNe : R2 := fun x y H Q => scal x y = true ∧ Q (.bl (!decide (x = y))) H

theorem dec_int {i j : Int} : decide (V.int i = V.int j) = (i == j) := by
  rw [Bool.eq_iff_iff]
  simp
theorem dec_bl {i j : Bool} : decide (V.bl i = V.bl j) = (i == j) := by
  rw [Bool.eq_iff_iff]
  simp
theorem dec_str {i j : Str} : decide (V.str i = V.str j) = (i == j) := by
  rw [Bool.eq_iff_iff]
  simp
theorem dec_byt {i j : Array UInt8} : decide (V.byt i = V.byt j) = (i.toList == j.toList) := by
  rw [Bool.eq_iff_iff]
  cases i
  cases j
  simp

section
variable {X : Cx} {a b c : Expr} {ta tb tc : TE} {pos : Pos}
theorem fin_bl {pins : List (Addr × Obj)} {σ : St} {H : Hp} {s : Shared} {Q : VK} {k k' : Bool} (I : Inv X pins σ H s) (q : Q (.bl k) H) (e : k = k') : EP X pins σ Q (.bool k') s := by
  subst e
  exact ⟨.bl k, H, I, rfl, q⟩
theorem op_eq : OpR X (compareOp .Eq) rEq := by
  intro pins s σ H x y v u Q I rx ry h
  obtain ⟨hs, q⟩ := h
  cases x with
  | non =>
    cases rx
    cases y with
    | non => cases ry; exact PySem.EqNone.eq_none_none (fin_bl I q (by simp))
    | bl j => cases ry; exact PySem.EqNone.eq_none_bool (fin_bl I q (by simp))
    | int j => obtain ⟨t', rfl⟩ := ry; exact PySem.EqNone.eq_none_int (fin_bl I q (by simp))
    | str j => obtain ⟨t', rfl⟩ := ry; exact PySem.EqNone.eq_none_str (fin_bl I q (by simp))
    | _ => exact absurd (show false = true from hs) Bool.false_ne_true
  | bl i =>
    cases rx
    cases y with
    | non => cases ry; exact PySem.EqNone.eq_bool_none (fin_bl I q (by simp))
    | bl j => cases ry; exact eq_bool (fin_bl I q dec_bl)
    | str j => obtain ⟨t', rfl⟩ := ry; exact PySem.EqMixed.eq_bool_str (fin_bl I q (by simp))
    | _ => exact absurd (show false = true from hs) Bool.false_ne_true
  | int i =>
    obtain ⟨t, rfl⟩ := rx
    cases y with
    | non => cases ry; exact PySem.EqNone.eq_int_none (fin_bl I q (by simp))
    | int j => obtain ⟨t', rfl⟩ := ry; exact eq_int (fin_bl I q dec_int)
    | str j => obtain ⟨t', rfl⟩ := ry; exact PySem.EqMixed.eq_int_str (fin_bl I q (by simp))
    | _ => exact absurd (show false = true from hs) Bool.false_ne_true
  | str i =>
    obtain ⟨t, rfl⟩ := rx
    cases y with
    | non => cases ry; exact PySem.EqNone.eq_str_none (fin_bl I q (by simp))
    | bl j => cases ry; exact PySem.EqMixed.eq_str_bool (fin_bl I q (by simp))
    | int j => obtain ⟨t', rfl⟩ := ry; exact PySem.EqMixed.eq_str_int (fin_bl I q (by simp))
    | str j => obtain ⟨t', rfl⟩ := ry; exact eq_str (fin_bl I q dec_str)
    | _ => exact absurd (show false = true from hs) Bool.false_ne_true
  | byt i =>
    obtain ⟨t, rfl⟩ := rx
    cases y with
    | byt j => obtain ⟨t', rfl⟩ := ry; exact PySem.W.eq_bytes (fin_bl I q dec_byt)
    | _ => exact absurd (show false = true from hs) Bool.false_ne_true
  | _ => cases y <;> exact absurd (show false = true from hs) Bool.false_ne_true
theorem op_ne : OpR X (compareOp .NotEq) rNe := by
  intro pins s σ H x y v u Q I rx ry h
  obtain ⟨hs, q⟩ := h
  cases x with
  | non =>
    cases rx
    cases y with
    | non => cases ry; exact PySem.EqNone.ne_none_none (fin_bl I q (by simp))
    | bl j => cases ry; exact PySem.EqNone.ne_none_bool (fin_bl I q (by simp))
    | int j => obtain ⟨t', rfl⟩ := ry; exact PySem.EqNone.ne_none_int (fin_bl I q (by simp))
    | str j => obtain ⟨t', rfl⟩ := ry; exact PySem.EqNone.ne_none_str (fin_bl I q (by simp))
    | _ => exact absurd (show false = true from hs) Bool.false_ne_true
  | bl i =>
    cases rx
    cases y with
    | non => cases ry; exact PySem.EqNone.ne_bool_none (fin_bl I q (by simp))
    | bl j => cases ry; exact ne_bool (fin_bl I q (congrArg not dec_bl))
    | str j => obtain ⟨t', rfl⟩ := ry; exact PySem.EqMixed.ne_bool_str (fin_bl I q (by simp))
    | _ => exact absurd (show false = true from hs) Bool.false_ne_true
  | int i =>
    obtain ⟨t, rfl⟩ := rx
    cases y with
    | non => cases ry; exact PySem.EqNone.ne_int_none (fin_bl I q (by simp))
    | int j => obtain ⟨t', rfl⟩ := ry; exact ne_int (fin_bl I q (congrArg not dec_int))
    | str j => obtain ⟨t', rfl⟩ := ry; exact PySem.EqMixed.ne_int_str (fin_bl I q (by simp))
    | _ => exact absurd (show false = true from hs) Bool.false_ne_true
  | str i =>
    obtain ⟨t, rfl⟩ := rx
    cases y with
    | non => cases ry; exact PySem.EqNone.ne_str_none (fin_bl I q (by simp))
    | bl j => cases ry; exact PySem.EqMixed.ne_str_bool (fin_bl I q (by simp))
    | int j => obtain ⟨t', rfl⟩ := ry; exact PySem.EqMixed.ne_str_int (fin_bl I q (by simp))
    | str j => obtain ⟨t', rfl⟩ := ry; exact ne_str (fin_bl I q (congrArg not dec_str))
    | _ => exact absurd (show false = true from hs) Bool.false_ne_true
  | byt i =>
    obtain ⟨t, rfl⟩ := rx
    cases y with
    | byt j => obtain ⟨t', rfl⟩ := ry; exact PySem.W.ne_bytes (fin_bl I q (congrArg not dec_byt))
    | _ => exact absurd (show false = true from hs) Bool.false_ne_true
  | _ => cases y <;> exact absurd (show false = true from hs) Bool.false_ne_true

theorem op_lt : OpR X (compareOp .Lt) (rI0 fun i j => .bl (decide (i < j))) := opB0 fun _ _ _ _ _ _ _ q => lt_int q
theorem op_le : OpR X (compareOp .LtE) (rI0 fun i j => .bl (decide (i ≤ j))) := opB0 fun _ _ _ _ _ _ _ q => le_int q
theorem op_gt : OpR X (compareOp .Gt) (rI0 fun i j => .bl (decide (j < i))) := opB0 fun _ _ _ _ _ _ _ q => gt_int q
theorem op_ge : OpR X (compareOp .GtE) (rI0 fun i j => .bl (decide (j ≤ i))) := opB0 fun _ _ _ _ _ _ _ q => ge_int q
theorem op_lt_str : OpR X (compareOp .Lt) (fun x y H Q => ∃ i j, x = .str i ∧ y = .str j ∧ Q (.bl (decide (i.cps.toList < j.cps.toList))) H) := by
  intro pins s σ H x y v u Q I rx ry h
  obtain ⟨i, j, rfl, rfl, q⟩ := h
  obtain ⟨t, rfl⟩ := rx
  obtain ⟨t', rfl⟩ := ry
  exact lt_str (fin_bl I q rfl)
/-- the one string within the other -/
theorem op_in_str : OpR X (compareOp .In) (fun x y H Q => ∃ i j, x = .str i ∧ y = .str j ∧ Q (.bl (!(Builtin.Str.occurrences j i 0 j.length 1).isEmpty)) H) := by
  intro pins s σ H x y v u Q I rx ry h
  obtain ⟨i, j, rfl, rfl, q⟩ := h
  obtain ⟨t, rfl⟩ := rx
  obtain ⟨t', rfl⟩ := ry
  exact in_str (fin_bl I q rfl)

/-- is None, is not None: the right side a value none -/
theorem op_isN : OpR X (compareOp .Is) (fun x y H Q => y = .non ∧ Q (.bl (decide (x = .non))) H) := by
  intro pins s σ H x y v u Q I rx ry h
  obtain ⟨rfl, q⟩ := h
  cases ry
  refine is_none_gen (fin_bl I q ?_)
  cases x <;> first
    | (cases rx; rfl)
    | (obtain ⟨t, rfl⟩ := rx; rfl)
theorem op_notN : OpR X (compareOp .IsNot) (fun x y H Q => y = .non ∧ Q (.bl (!decide (x = .non))) H) := by
  intro pins s σ H x y v u Q I rx ry h
  obtain ⟨rfl, q⟩ := h
  cases ry
  refine isnot_none_gen (fin_bl I q ?_)
  cases x <;> first
    | (cases rx; rfl)
    | (obtain ⟨t, rfl⟩ := rx; rfl)

theorem op_notin_str : OpR X (compareOp .NotIn) (fun x y H Q => ∃ i j, x = .str i ∧ y = .str j ∧ Q (.bl (!(!(Builtin.Str.occurrences j i 0 j.length 1).isEmpty))) H) := by
  intro pins s σ H x y v u Q I rx ry h
  obtain ⟨i, j, rfl, rfl, q⟩ := h
  obtain ⟨t, rfl⟩ := rx
  obtain ⟨t', rfl⟩ := ry
  exact notIn_str (fin_bl I q rfl)
/-- is, is not of two objects that are tracked lists or instances -/
def isObj : HO → Bool
  | .lst _ => true
  | .ins _ _ _ => true
  | _ => false
theorem obj_there {pins : List (Addr × Obj)} {s : Shared} {σ : St} {H : Hp} {a : Addr} {o : HO} (I : Inv X pins σ H s) (h : H a = some o) (p : isObj o = true) : ∃ ob, s.heap.get? a = some ob ∧ ob.cls ≠ .type "tuple" := by
  cases o with
  | lst xs =>
    obtain ⟨_, its, n, _, e⟩ : xs.length ≤ sizeLine ∧ ∃ (its : List Value) (n : Nat), Vals xs its ∧ s.heap.get? a = some { cls := .type "list", data := .seq its.toArray n } := I.hok a _ h
    exact ⟨_, e, (by show Value.type "list" ≠ .type "tuple"; decide +kernel)⟩
  | ins C dx fs =>
    have x := I.hok a _ h
    obtain ⟨_, _, _, e, _⟩ := x
    exact ⟨_, e, (by show Value.ref C ≠ .type "tuple"; exact fun z => by cases z)⟩
  | _ => exact absurd (show false = true from p) Bool.false_ne_true
theorem op_is_ref : OpR X (compareOp .Is) (fun x y H Q => ∃ a b oa ob, x = .ref a ∧ y = .ref b ∧ H a = some oa ∧ isObj oa = true ∧ H b = some ob ∧ isObj ob = true ∧ Q (.bl (decide (a = b))) H) := by
  intro pins s σ H x y v u Q I rx ry h
  obtain ⟨a, b, oa, ob, rfl, rfl, ha, pa, hb, pb, q⟩ := h
  cases rx
  cases ry
  obtain ⟨o1, e1, n1⟩ := obj_there I ha pa
  obtain ⟨o2, e2, _⟩ := obj_there I hb pb
  by_cases z : a = b
  · subst z
    exact wpAny_is_ref_self (fin_bl I q (by simp))
  · exact wpAny_is_ref_other z e1 e2 n1 (fin_bl I q (by simp [z]))
theorem op_isnot_ref : OpR X (compareOp .IsNot) (fun x y H Q => ∃ a b oa ob, x = .ref a ∧ y = .ref b ∧ H a = some oa ∧ isObj oa = true ∧ H b = some ob ∧ isObj ob = true ∧ Q (.bl (!decide (a = b))) H) := by
  intro pins s σ H x y v u Q I rx ry h
  obtain ⟨a, b, oa, ob, rfl, rfl, ha, pa, hb, pb, q⟩ := h
  cases rx
  cases ry
  obtain ⟨o1, e1, n1⟩ := obj_there I ha pa
  obtain ⟨o2, e2, _⟩ := obj_there I hb pb
  by_cases z : a = b
  · subst z
    exact wpAny_isNot_ref_self (fin_bl I q (by simp))
  · exact wpAny_isNot_ref_other z e1 e2 n1 (fin_bl I q (by simp [z]))

/-- two rules for one operation: by cases -/
theorem OpR.or {f : Value → Value → Sem Value} {r r' : R2} (h : OpR X f r) (h' : OpR X f r') : OpR X f (fun x y H Q => r x y H Q ∨ r' x y H Q) := by
  intro pins s σ H x y v u Q I rx ry q
  rcases q with q | q
  · exact h pins s σ H x y v u Q I rx ry q
  · exact h' pins s σ H x y v u Q I rx ry q

theorem nomark (b : Expr) {op : CmpOp} (h : op ≠ .In := by decide) (h2 : op ≠ .NotIn := by decide) : behindInMarks op b = false := by
  have e1 : (op == CmpOp.In) = false := by cases op <;> first | rfl | exact absurd rfl h
  have e2 : (op == CmpOp.NotIn) = false := by cases op <;> first | rfl | exact absurd rfl h2
  cases b <;> simp [behindInMarks, e1, e2]
/-- a comparison as a value; hm: nomark b, or (for in, not in) by with_unfolding_all rfl -/
theorem pe_cmpR {op : CmpOp} {r : R2} (ho : OpR X (compareOp op) r) (ha : PE X a ta) (hb : PE X b tb) (hm : behindInMarks op b = false) : PE X (.Compare a [op] [b] pos) (tOp r ta tb) := by
  intro pins s σ H Q I h
  exact wpAny_Compare1 (binT ha hb I h fun v u s2 x y H2 I2 rx ry q => ho pins s2 σ H2 x y v u Q I2 rx ry q) hm
/-- a reading of a value as a test -/
def tTest (t : TE) : TT := fun σ H Q => t σ H fun x H' => ∃ k, x = .bl k ∧ Q k H'
theorem pt_cmpR {op : CmpOp} {r : R2} (ho : OpR X (compareOp op) r) (ha : PE X a ta) (hb : PE X b tb) (hm : behindInMarks op b = false) : PT X (.Compare a [op] [b] pos) (tTest (tOp r ta tb)) := by
  intro pins s σ H Q I h
  refine wpAny_isTrue_Compare1 (thn (ha pins s σ H _ I h) fun v s1 ⟨x, H1, I1, r1, q1⟩ => thn (hb pins s1 σ H1 _ I1 q1) fun u s2 ⟨y, H2, I2, r2, q2⟩ =>
    thn (ho pins s2 σ H2 x y v u _ I2 r1 r2 q2) fun c s3 ⟨z, H3, I3, r3, k, e, q3⟩ => ?_) hm
  subst e
  cases r3
  exact wpAny_truthy_bool ⟨H3, I3, q3⟩
/-- a op1 b op2 c -/
def tChain (r r' : R2) (ta tb tc : TE) : TE := fun σ H Q => ta σ H fun x H1 => tb σ H1 fun y H2 => r x y H2 fun z H3 => ∃ k, z = .bl k ∧
  (if k = true then tc σ H3 fun w' H4 => r' y w' H4 Q else Q (.bl false) H3)
theorem pe_chain {op op' : CmpOp} {r r' : R2} (ho : OpR X (compareOp op) r) (ho' : OpR X (compareOp op') r') (ha : PE X a ta) (hb : PE X b tb) (hc : PE X c tc)
    (hm : lastMarks [op, op'] [b, c] = false := by with_unfolding_all rfl) : PE X (.Compare a [op, op'] [b, c] pos) (tChain r r' ta tb tc) := by
  intro pins s σ H Q I h
  refine Compare_chain (thn (ha pins s σ H _ I h) fun v s1 ⟨x, H1, I1, r1, q1⟩ => chain_link (thn (hb pins s1 σ H1 _ I1 q1) fun u s2 ⟨y, H2, I2, r2, q2⟩ =>
    thn (ho pins s2 σ H2 x y v u _ I2 r1 r2 q2) fun d s3 ⟨z, H3, I3, r3, k, e, q3⟩ => ?_)) hm
  subst e
  cases r3
  refine wpAny_truthy_bool ?_
  cases k with
  | false => exact ite_ff ⟨.bl false, H3, I3, rfl, q3⟩
  | true => exact ite_tt (chain_last (thn (hc pins s3 σ H3 _ I3 q3) fun w' s4 ⟨z', H4, I4, r4, q4⟩ => ho' pins s4 σ H4 y z' u w' Q I4 r2 r4 q4))
theorem pt_chain {op op' : CmpOp} {r r' : R2} (ho : OpR X (compareOp op) r) (ho' : OpR X (compareOp op') r') (ha : PE X a ta) (hb : PE X b tb) (hc : PE X c tc)
    (hm : lastMarks [op, op'] [b, c] = false := by with_unfolding_all rfl) : PT X (.Compare a [op, op'] [b, c] pos) (tTest (tChain r r' ta tb tc)) := by
  intro pins s σ H Q I h
  refine isTrue_chain (thn (ha pins s σ H _ I h) fun v s1 ⟨x, H1, I1, r1, q1⟩ => test_link (thn (hb pins s1 σ H1 _ I1 q1) fun u s2 ⟨y, H2, I2, r2, q2⟩ =>
    thn (ho pins s2 σ H2 x y v u _ I2 r1 r2 q2) fun d s3 ⟨z, H3, I3, r3, k, e, q3⟩ => ?_)) hm
  subst e
  cases r3
  refine wpAny_truthy_bool ?_
  cases k with
  | false =>
    obtain ⟨k', e', q'⟩ := q3
    cases e'
    exact ite_ff ⟨H3, I3, q'⟩
  | true =>
    refine ite_tt (test_last (thn (hc pins s3 σ H3 _ I3 q3) fun w' s4 ⟨z', H4, I4, r4, q4⟩ => thn (ho' pins s4 σ H4 y z' u w' _ I4 r2 r4 q4) fun d' s5 ⟨z2, H5, I5, r5, k2, e2, q5⟩ => ?_))
    subst e2
    cases r5
    exact wpAny_truthy_bool ⟨H5, I5, q5⟩

/-! ### truth -/
/-- a value's truth by the abstract heap -/
def TruV (K : PySem.W.Frag) (x : V) (H : Hp) (k : Bool) : Prop :=
  match x with
  | .non => k = false
  | .bl b => k = b
  | .int i => k = (i != 0)
  | .str y => y.length ≤ sizeLine ∧ k = ((y.length : Int) != 0)
  | .byt y => y.size ≤ sizeLine ∧ k = ((y.size : Int) != 0)
  | .ref p => (∃ xs, SqL K H p xs ∧ k = !xs.isEmpty) ∨ (∃ xs, SqT K H p xs ∧ k = !xs.isEmpty) ∨ ∃ kvs, H p = some (.dK kvs) ∧ k = !kvs.isEmpty
  | _ => False
theorem isEmpty_kv {κ : Type} {kvs : List (κ × V)} {vs : List (κ × Value)} (r : KV kvs vs) : (!vs.isEmpty) = !kvs.isEmpty := by
  cases r <;> rfl
theorem isEmpty_of {xs : List V} {its : List Value} (r : Vals xs its) : (!its.toArray.isEmpty) = !xs.isEmpty := by
  cases r <;> simp
theorem line63 : (sizeLine : Nat) < 2 ^ 63 := by rw [sizeLine_eq]; decide
theorem tru_ok : TruR X (fun x H Q => ∃ k, TruV X.K x H k ∧ Q k H) := by
  intro pins s σ H x v Q I rx h
  obtain ⟨k, e, q⟩ := h
  have hl := line63
  have hs : sizeLine = 16777216 := sizeLine_eq
  cases x with
  | non =>
    cases rx
    have e' : k = false := e
    subst e'
    exact truthy_none ⟨H, I, q⟩
  | bl b =>
    cases rx
    have e' : k = b := e
    subst e'
    exact wpAny_truthy_bool ⟨H, I, q⟩
  | int i =>
    obtain ⟨t, rfl⟩ := rx
    have e' : k = (i != 0) := e
    subst e'
    exact PySem.P.truthy_int ⟨H, I, q⟩
  | str y =>
    obtain ⟨t, rfl⟩ := rx
    obtain ⟨hy, e'⟩ : y.length ≤ sizeLine ∧ k = ((y.length : Int) != 0) := e
    subst e'
    exact PySem.P.truthy_str (by omega) ⟨H, I.tok _, q⟩
  | byt y =>
    obtain ⟨t, rfl⟩ := rx
    obtain ⟨hy, e'⟩ : y.size ≤ sizeLine ∧ k = ((y.size : Int) != 0) := e
    subst e'
    exact PySem.W.truthy_bytes (by omega) ⟨H, I.tok _, q⟩
  | ref p =>
    cases rx
    have e' : (∃ xs, SqL X.K H p xs ∧ k = !xs.isEmpty) ∨ (∃ xs, SqT X.K H p xs ∧ k = !xs.isEmpty) ∨ ∃ kvs, H p = some (.dK kvs) ∧ k = !kvs.isEmpty := e
    rcases e' with ⟨xs, hx, e'⟩ | ⟨xs, hx, e'⟩ | ⟨kvs, hx, e'⟩
    · subst e'
      obtain ⟨its, r, pl, hz⟩ := I.list hx
      have hlen := r.length
      exact wpAny_truthy_list pl.isList (by simp only [List.size_toArray]; omega) ⟨H, I.tok _, by rw [isEmpty_of r]; exact q⟩
    · subst e'
      obtain ⟨its, r, pl, hz⟩ := I.tuple hx
      have hlen := r.length
      exact truthy_tuple pl (by simp only [List.size_toArray]; omega) ⟨H, I.tok _, by rw [isEmpty_of r]; exact q⟩
    · subst e'
      obtain ⟨hz, hS, vs, r, m⟩ : kvs.length ≤ sizeLine ∧ (p == sysModules) = false ∧ ∃ vs, KV kvs vs ∧ s.heap.DictOf (mixKind X.prog X.w) p vs := I.hok p _ hx
      have hlen : kvs.length = vs.length := Paired.length r
      exact wpAny_truthy_dict hS m (by omega) ⟨H, I.tok _, by rw [isEmpty_kv r]; exact q⟩
  | _ => exact (show False from e).elim
/-- any expression whose test is its value's truth (a name, a call, a subscript, a field ..: he by fun _ => rfl) -/
theorem pt_truth (ha : PE X a ta) (he : ∀ whole, isTrue a X.env whole = (do let v ← whole; standAt a.pos; holding [v] (truthy v))) :
    PT X a (fun σ H Q => ta σ H fun x H' => ∃ k, TruV X.K x H' k ∧ Q k H') := by
  intro pins s σ H Q I h
  exact isTrue_plain (thn (ha pins s σ H _ I h) fun v s1 ⟨x, H1, I1, r1, q1⟩ => tru_ok pins s1 σ H1 x v Q I1 r1 q1) (he _)

/-! ### strs and bytes -/
theorem pe_byt {x : List UInt8} {k : Nat} : PE X (.Constant (.bytes x) k pos) (fun _ H Q => Q (.byt x.toArray) H) := fun _ _ _ H _ I h => PySem.W.Constant_bytes ⟨.byt x.toArray, H, I.tok _, ⟨_, rfl⟩, h⟩
theorem op_add_str : OpR X (binaryOp .Add) (fun x y H Q => ∃ i j, x = .str i ∧ y = .str j ∧ i.length + j.length ≤ sizeLine ∧ Q (.str (i ++ j)) H) := by
  intro pins s σ H x y v u Q I rx ry h
  obtain ⟨i, j, rfl, rfl, hz, q⟩ := h
  obtain ⟨t, rfl⟩ := rx
  obtain ⟨t', rfl⟩ := ry
  exact add_str (fun t' tk => ⟨.str (i ++ j), H, I.tok _, ⟨_, rfl⟩, q⟩) hz
theorem iop_add_str : OpR X (inplaceOp .Add) (fun x y H Q => ∃ i j, x = .str i ∧ y = .str j ∧ i.length + j.length ≤ sizeLine ∧ Q (.str (i ++ j)) H) := by
  intro pins s σ H x y v u Q I rx ry h
  obtain ⟨i, j, rfl, rfl, hz, q⟩ := h
  obtain ⟨t, rfl⟩ := rx
  obtain ⟨t', rfl⟩ := ry
  exact iadd_str (fun t' tk => ⟨.str (i ++ j), H, I.tok _, ⟨_, rfl⟩, q⟩) hz
theorem op_add_byt : OpR X (binaryOp .Add) (fun x y H Q => ∃ i j, x = .byt i ∧ y = .byt j ∧ i.size + j.size ≤ 16777216 ∧ Q (.byt (i ++ j)) H) := by
  intro pins s σ H x y v u Q I rx ry h
  obtain ⟨i, j, rfl, rfl, hz, q⟩ := h
  obtain ⟨t, rfl⟩ := rx
  obtain ⟨t', rfl⟩ := ry
  exact PySem.W.KBy.add_bytes hz (fun t' tk => ⟨.byt (i ++ j), H, I.tok _, ⟨_, rfl⟩, q⟩)

def PlainIxT (b : Expr) : Prop := ∀ o i, subscripted b false o i = operate [o, i] (getItem o i)
/-- s[i], 0 ≤ i < len -/
theorem pe_item_str (ha : PE X a ta) (hb : PE X b tb) (hs : PlainIxT b) :
    PE X (.Subscript a b pos) (tOp (fun x y H Q => ∃ z i c, x = .str z ∧ y = .int i ∧ 0 ≤ i ∧ i < 2 ^ 63 ∧ i < z.length ∧ z.cps[i.toNat]? = some c ∧ Q (.str ⟨#[c]⟩) H) ta tb) := by
  intro pins s σ H Q I h
  refine Subscript_ (binT ha hb I h fun v u s2 x y H2 I2 rx ry q => ?_)
  obtain ⟨z, i, c, rfl, rfl, h0, h63, h1, hc, q⟩ := q
  obtain ⟨t, rfl⟩ := rx
  obtain ⟨t', rfl⟩ := ry
  have e : seqIndex? i z.length = some i.toNat := PySem.StrLaws.seqIndex_nonneg h0 h1
  exact tail_any (typeIs_str s2 z t) slot_str_getitem.lookup (getItem_str (c := c) (by
    have e1 : decide (i < -(2 ^ 63 : Int)) = false := decide_eq_false (by omega)
    have e2 : decide (i ≥ 2 ^ 63) = false := decide_eq_false (by omega)
    rw [e1, e2] <;> rfl) (by rw [e]; exact hc) ⟨.str ⟨#[c]⟩, H2, I2.tok _, ⟨_, rfl⟩, q⟩) (hs _ _)
/-- b[i], 0 ≤ i < len -/
theorem pe_item_byt (ha : PE X a ta) (hb : PE X b tb) (hs : PlainIxT b) :
    PE X (.Subscript a b pos) (tOp (fun x y H Q => ∃ (z : List UInt8) (i : Int), x = .byt z.toArray ∧ y = .int i ∧ z.length ≤ sizeLine ∧ 0 ≤ i ∧ i < z.length ∧ Q (.int ((z.getD i.toNat 0).toNat : Nat)) H) ta tb) := by
  intro pins s σ H Q I h
  refine Subscript_ (binT ha hb I h fun v u s2 x y H2 I2 rx ry q => ?_)
  obtain ⟨z, i, rfl, rfl, hz, h0, h1, q⟩ := q
  obtain ⟨t, rfl⟩ := rx
  obtain ⟨t', rfl⟩ := ry
  have hl : sizeLine = 16777216 := sizeLine_eq
  exact tail_any (PySem.W.typeIs_bytes s2 z.toArray t) PySem.W.FB.slot_bytes_getitem.lookup (PySem.W.getItem_bytes (by omega) h0 h1 ⟨.int ((z.getD i.toNat 0).toNat : Nat), H2, I2.tok _, ⟨_, rfl⟩, q⟩) (hs _ _)

/-! ### scalar builtins, by CallR -/
theorem vals1 {x : V} {us : List Value} (r : Vals [x] us) : ∃ u, us = [u] ∧ RelV x u := by
  cases r with
  | cons r1 r2 => cases r2; exact ⟨_, rfl, r1⟩
theorem vals2 {x y : V} {us : List Value} (r : Vals [x, y] us) : ∃ u w', us = [u, w'] ∧ RelV x u ∧ RelV y w' := by
  cases r with
  | cons r1 r2 =>
    cases r2 with
    | cons r3 r4 => cases r4; exact ⟨_, _, rfl, r1, r3⟩
theorem call_abs : CallR X (.builtin "abs") (fun xs H Q => ∃ i, xs = [.int i] ∧ Q (.int (if i < 0 then -i else i)) H) := by
  intro pins s σ H xs us Q I r h
  obtain ⟨i, rfl, q⟩ := h
  obtain ⟨u, rfl, t, rfl⟩ := vals1 r
  exact call_abs_int fun u tk => ⟨.int (if i < 0 then -i else i), H, I.tok _, ⟨_, rfl⟩, q⟩
theorem call_max2 (hc : X.calm = true) : CallR X (.builtin "max") (fun xs H Q => ∃ i j, xs = [.int i, .int j] ∧ Q (.int (if j > i then j else i)) H) := by
  intro pins s σ H xs us Q I r h
  obtain ⟨i, j, rfl, q⟩ := h
  obtain ⟨u, w', rfl, ⟨t, rfl⟩, ⟨t', rfl⟩⟩ := vals2 r
  refine max_two_ints (I.ok.hd hc) fun h' tk k => ⟨_, H, I.kept k, ?_, q⟩
  by_cases hj : j > i
  · rw [if_pos hj, if_pos hj]; exact ⟨_, rfl⟩
  · rw [if_neg hj, if_neg hj]; exact ⟨_, rfl⟩
theorem call_min2 (hc : X.calm = true) : CallR X (.builtin "min") (fun xs H Q => ∃ i j, xs = [.int i, .int j] ∧ Q (.int (if j < i then j else i)) H) := by
  intro pins s σ H xs us Q I r h
  obtain ⟨i, j, rfl, q⟩ := h
  obtain ⟨u, w', rfl, ⟨t, rfl⟩, ⟨t', rfl⟩⟩ := vals2 r
  refine min_two_ints (I.ok.hd hc) fun h' tk k => ⟨_, H, I.kept k, ?_, q⟩
  by_cases hj : j < i
  · rw [if_pos hj, if_pos hj]; exact ⟨_, rfl⟩
  · rw [if_neg hj, if_neg hj]; exact ⟨_, rfl⟩
theorem call_int1 : CallR X (.type "int") (fun xs H Q => (∃ i, xs = [.int i] ∧ Q (.int i) H) ∨ ∃ k, xs = [.bl k] ∧ Q (.int (if k then 1 else 0)) H) := by
  intro pins s σ H xs us Q I r h
  rcases h with ⟨i, rfl, q⟩ | ⟨k, rfl, q⟩
  · obtain ⟨u, rfl, t, rfl⟩ := vals1 r
    exact call_int_int ⟨.int i, H, I, ⟨_, rfl⟩, q⟩
  · obtain ⟨u, rfl, r1⟩ := vals1 r
    cases r1
    exact call_int_bool ⟨.int (if k then 1 else 0), H, I.tok _, ⟨_, rfl⟩, q⟩
theorem call_bool1 : CallR X (.type "bool") (fun xs H Q => (∃ i, xs = [.int i] ∧ Q (.bl (i != 0)) H) ∨ ∃ k, xs = [.bl k] ∧ Q (.bl k) H) := by
  intro pins s σ H xs us Q I r h
  rcases h with ⟨i, rfl, q⟩ | ⟨k, rfl, q⟩
  · obtain ⟨u, rfl, t, rfl⟩ := vals1 r
    exact call_bool_int ⟨.bl (i != 0), H, I, rfl, q⟩
  · obtain ⟨u, rfl, r1⟩ := vals1 r
    cases r1
    exact call_bool_bool ⟨.bl k, H, I, rfl, q⟩
theorem call_str_int : CallR X (.type "str") (fun xs H Q => ∃ i, xs = [.int i] ∧ i.natAbs.log2 < 1920 ∧ Q (.str (toString i)) H) := by
  intro pins s σ H xs us Q I r h
  obtain ⟨i, rfl, hz, q⟩ := h
  obtain ⟨u, rfl, t, rfl⟩ := vals1 r
  exact PySem.P.str_of_int hz ⟨.str _, H, I.tok _, ⟨_, rfl⟩, q⟩
theorem call_ord : CallR X (.builtin "ord") (fun xs H Q => ∃ x, xs = [.str x] ∧ x.length = 1 ∧ Q (.int (x.cps.getD 0 0 : Nat)) H) := by
  intro pins s σ H xs us Q I r h
  obtain ⟨x, rfl, hz, q⟩ := h
  obtain ⟨u, rfl, t, rfl⟩ := vals1 r
  exact ord_of_one hz ⟨.int _, H, I.tok _, ⟨_, rfl⟩, q⟩
theorem call_chr : CallR X (.builtin "chr") (fun xs H Q => ∃ i, xs = [.int i] ∧ 0 ≤ i ∧ i ≤ 1114111 ∧ Q (.str ⟨#[i.toNat]⟩) H) := by
  intro pins s σ H xs us Q I r h
  obtain ⟨i, rfl, h0, h1, q⟩ := h
  obtain ⟨u, rfl, t, rfl⟩ := vals1 r
  exact chr_of_range h0 h1 ⟨.str _, H, I.tok _, ⟨_, rfl⟩, q⟩
/-- len of a str, a bytes, a list, a tuple -/
def LenV (K : PySem.W.Frag) (x : V) (H : Hp) (n : Nat) : Prop :=
  match x with
  | .str y => y.length ≤ sizeLine ∧ n = y.length
  | .byt y => y.size ≤ sizeLine ∧ n = y.size
  | .ref p => (∃ xs, SqL K H p xs ∧ n = xs.length) ∨ ∃ xs, SqT K H p xs ∧ n = xs.length
  | _ => False
theorem call_len : CallR X (.builtin "len") (fun xs H Q => ∃ x n, xs = [x] ∧ LenV X.K x H n ∧ Q (.int n) H) := by
  intro pins s σ H xs us Q I r h
  obtain ⟨x, n, rfl, e, q⟩ := h
  obtain ⟨u, rfl, rx⟩ := vals1 r
  have hl := line63
  have hs : sizeLine = 16777216 := sizeLine_eq
  cases x with
  | str y =>
    obtain ⟨t, rfl⟩ := rx
    obtain ⟨hy, e'⟩ : y.length ≤ sizeLine ∧ n = y.length := e
    subst e'
    exact len_str (by omega) ⟨.int _, H, I.tok _, ⟨_, rfl⟩, q⟩
  | byt y =>
    obtain ⟨t, rfl⟩ := rx
    obtain ⟨hy, e'⟩ : y.size ≤ sizeLine ∧ n = y.size := e
    subst e'
    exact PySem.W.len_bytes (by omega) ⟨.int _, H, I.tok _, ⟨_, rfl⟩, q⟩
  | ref p =>
    cases rx
    have e' : (∃ xs, SqL X.K H p xs ∧ n = xs.length) ∨ ∃ xs, SqT X.K H p xs ∧ n = xs.length := e
    rcases e' with ⟨xs, hx, e'⟩ | ⟨xs, hx, e'⟩
    · subst e'
      obtain ⟨its, r', pl, hz⟩ := I.list hx
      have hlen := r'.length
      exact Calls.call_len_list pl.isList (by simp only [List.size_toArray]; omega) ⟨.int xs.length, H, I.tok _, ⟨_, by simp only [List.size_toArray]; rw [hlen]⟩, q⟩
    · subst e'
      obtain ⟨its, r', pl, hz⟩ := I.tuple hx
      have hlen := r'.length
      exact len_tuple pl (by simp only [List.size_toArray]; omega) ⟨.int xs.length, H, I.tok _, ⟨_, by simp only [List.size_toArray]; rw [hlen]⟩, q⟩
  | _ => exact (show False from e).elim
/-- divmod: a new tuple -/
theorem call_divmod : CallR X (.builtin "divmod") (fun xs H Q => ∃ i j, xs = [.int i, .int j] ∧ CDiv i j ∧ ∀ p, H p = none → Q (.ref p) (upd H p (.tup [.int (i / j), .int (i % j)]))) := by
  intro pins s σ H xs us Q I r h
  obtain ⟨i, j, rfl, ⟨h1, h2⟩, q⟩ := h
  obtain ⟨u, w', rfl, ⟨t, rfl⟩, ⟨t', rfl⟩⟩ := vals2 r
  refine divmod_int (by omega) ?_ (.inl (PyProof.noPylong_small (by omega)))
  rw [Int.fdiv_eq_ediv_of_nonneg i (by omega), Int.fmod_eq_emod_of_nonneg i (by omega)]
  have hn : H s.heap.objs.size = none := I.hok.fresh (Nat.le_refl _)
  refine ⟨.ref s.heap.objs.size, _, ?_, rfl, q _ hn⟩
  refine I.laid (fun b o e => Heap.get?_push_of_some _ e) (Nat.le_refl _) ⟨by simp only [List.length_cons, List.length_nil]; rw [sizeLine_eq]; decide, [.int (i / j) s.toks, .int (i % j) (s.toks + 1)], .cons ⟨_, rfl⟩ (.cons ⟨_, rfl⟩ .nil), ?_⟩
  exact ⟨_, Heap.get?_push_size s.heap rfl, rfl, 0, rfl⟩
end
end L2

namespace L2
open PySem PySem.Spec PyProof.Rows

/-! ### an instance, its attributes a map -/
structure ObjM (h : Heap) (x dx C : Addr) (mA : Str → Option Value) : Prop where
  obj : h.get? x = some (PySem.W.instObj C dx)
  ns : h.Ns1 dx mA
  ne : dx ≠ x

theorem lookIn_ns {h : Heap} {dx : Addr} {mA : Str → Option Value} (n : h.Ns1 dx mA) : ∃ od, h.get? dx = some od ∧ ∀ name, PySem.W.lookIn name od = some (mA name) := by
  obtain ⟨o, es, ep, ho, hd, hk, _, hm⟩ := n
  refine ⟨o, ho, fun name => ?_⟩
  have e := hm name
  unfold nsFind findBy at e
  rw [← Array.find?_toList] at e
  unfold PySem.W.lookIn
  rw [hd]
  dsimp only
  split
  · rename_i y q
    rw [q] at e
    exact congrArg some e
  · rename_i q
    rw [q] at e
    have a : es.toList.any (·.refKey) = false := by
      rw [List.any_eq_false]
      intro y hy
      obtain ⟨z, t, hkey⟩ := hk y (Array.mem_toList_iff.mp hy)
      simp [DictEntry.refKey, hkey]
    have a' : ¬ es.toList.any (·.refKey) = true := by rw [a]; exact Bool.false_ne_true
    rw [if_neg a']
    exact congrArg some e

theorem ObjM.look {h : Heap} {x dx C : Addr} {mA : Str → Option Value} (I : ObjM h x dx C mA) : ∃ od, PySem.W.InstAt h x (PySem.W.instObj C dx) C (some od) ∧ ∀ name, PySem.W.lookIn name od = some (mA name) :=
  let ⟨od, ho, hl⟩ := lookIn_ns I.ns
  ⟨od, ⟨I.obj, rfl, rfl, ho⟩, hl⟩

section
variable {prog : Program} {w : World} {A : Around} {E : Value → Shared → Prop} {s : Shared} {K : PySem.W.Frag} {x dx C f : Addr} {mA : Str → Option Value} {name : Str} {v : Value}

theorem get_map {expr : Bool} {Q : Value → Shared → Prop} (X : K.In s.heap) (I : ObjM s.heap x dx C mA) (hg : PySem.W.plainGet K C name = true) (hh : PySem.W.hasDictIn K C = true)
    (ha : PySem.W.findIn K (.ref C) name = some none) (hv : mA name = some v) (hv' : PySem.W.handedIn v = true) (h : Q v { s with toks := s.toks + 1 }) :
    wpAny (model prog w) A (getAttr (.ref x) name expr) Q E s := by
  obtain ⟨od, J, hl⟩ := I.look
  exact PySem.W.get_value X J (PySem.W.plainGet_of hg).1 (PySem.W.findObj_own hh ha rfl (by rw [hl, hv])) hv' h

theorem get_const {expr : Bool} {a : Value} {Q : Value → Shared → Prop} (X : K.In s.heap) (I : ObjM s.heap x dx C mA) (hg : PySem.W.plainGet K C name = true) (hh : PySem.W.hasDictIn K C = true)
    (ha : PySem.W.findIn K (.ref C) name = some (some a)) (hn : PySem.W.specialIn K a "__get__" = some none) (hc : PySem.W.copiedNames.contains name = false) (hv : mA name = none) (hv' : PySem.W.handedIn a = true)
    (h : Q a { s with toks := s.toks + 1 }) : wpAny (model prog w) A (getAttr (.ref x) name expr) Q E s := by
  obtain ⟨od, J, hl⟩ := I.look
  exact PySem.W.get_value X J (PySem.W.plainGet_of hg).1 (PySem.W.findObj_cls hh ha hn hv' hc (by rw [hl, hv])) hv' h

theorem get_meth {pl : Sem Bool} {Q : Value × List Value → Shared → Prop} (X : K.In s.heap) (I : ObjM s.heap x dx C mA) (hg : PySem.W.plainGet K C name = true)
    (hf : PySem.W.findIn K (.ref C) name = some (some (.ref f))) (ht : PySem.W.isFn K (.ref f) = true) (hv : mA name = none) (h : Q (.ref f, [.ref x]) s) :
    wpAny (model prog w) A (getMethod (.ref x) name pl) Q E s := by
  obtain ⟨od, J, hl⟩ := I.look
  exact PySem.W.method_fn X J (PySem.W.plainGet_of hg).1 (PySem.W.plainGet_of hg).2 hf (beq_iff_eq.mp ht) (by show (PySem.W.lookIn name od).map (·.isSome) = some false; rw [hl, hv]; rfl) h

theorem set_map {ns : List Str} {Q : Unit → Shared → Prop} (X : K.In s.heap) (I : ObjM s.heap x dx C mA)
    (hs : PySem.W.findIn K (.ref C) "__setattr__" = some (some (.builtin "object.__setattr__"))) (hp : PySem.W.plainOver K C = true) (ht : PySem.W.takerIn K C name = some none) (hh : PySem.W.hasDictIn K C = true)
    (hw : PySem.Within mA ns) (hsz : ns.length ≤ sizeLine)
    (h : ∀ h', ObjM h' x dx C (fun y => if y = name then some v else mA y) → Heap.SameBut dx s.heap h' → Q () { s with heap := h', toks := s.toks + 2 }) :
    wpAny (model prog w) A (setAttr (.ref x) name v) Q E s := by
  obtain ⟨od, J, hl⟩ := I.look
  refine PySem.W.set_plain X J hs (PySem.W.osa_open (s := { s with toks := s.toks + 1 }) (r := none) X J hp ht fun b => ?_)
  obtain ⟨cd, hc, hd'⟩ := PySem.W.any_some hh
  have hx : s.heap.get? x = some ⟨.ref C, some dx, .plain, #[]⟩ := I.obj
  refine wpAny_bind (wpAny_pure (wpAny_bind (wpAny_bind (wpAny_loadPart hx (wpAny_bind (PySem.W.Looks.here (s := { s with toks := s.toks + 1 }) (PySem.W.looks_clsIn X hc) ?_))))))
  rw [hd']
  refine wpAny_pure (a := some dx) (wpAny_bind (wpAny_pure (wpAny_bind ?_)))
  refine wpAny_nsSet1 (s := { s with toks := s.toks + 1 }) I.ns fun h' hn2 hs2 => ?_
  obtain ⟨oD, esD, epD, hoD, hdD, hcD⟩ := hn2.count (PySem.Within.cons name v hw)
  refine wpAny_bind (wpAny_lookBehind hoD (by rw [hdD]; exact pastItsLine_dict (Nat.le_trans hcD (by rw [List.length_cons]; omega))) ?_)
  exact wpAny_pure (h _ ⟨(hs2.2 _ (Ne.symm I.ne)).trans I.obj, hn2, I.ne⟩ hs2)

/-- C(..): the dict at the heap's end, the instance behind it; then its __init__ -/
theorem make_map {R : Result → Shared → Prop} {vs : List Value} {kw : List (Str × Value)} (X : K.In s.heap) (hm : PySem.W.makesIn K C = true)
    (hi : PySem.W.findIn K (.ref C) "__init__" = some (some (.ref f))) (hf : PySem.W.typeIn K (.ref f) = some (.type "function"))
    (h : codeAny (model prog w) (A.under (.builtin "type.__call__" ⟨.ref C :: vs, kw⟩)) (.call (.ref f) ⟨.ref (s.heap.objs.size + 1) :: vs, kw⟩) (PySem.W.InitBack (s.heap.objs.size + 1) R)
      { s with heap := (s.heap.push PySem.W.emptyDict).push (PySem.W.instObj C s.heap.objs.size) }) :
    codeAny (model prog w) A (.call (.ref C) ⟨vs, kw⟩) R s := by
  obtain ⟨hh, g, d, t, os⟩ := s
  exact PySem.W.make_core (PySem.W.makes_of X hm) (PySem.W.looks_findIn X hi) (fun self => PySem.W.bind_fn X self hf) (.inl rfl) h
/-- C() where there is no __init__ but object's -/
theorem make_map0 {R : Result → Shared → Prop} (X : K.In s.heap) (hm : PySem.W.makesIn K C = true)
    (hi : PySem.W.findIn K (.ref C) "__init__" = some (some (.builtin "object.__init__")))
    (hb : ∀ self, PySem.W.Looks (model prog w) s.heap (bindSpecial (.builtin "object.__init__") self) (.builtin "object.__init__", [self]))
    (h : codeAny (model prog w) (A.under (.builtin "type.__call__" ⟨[.ref C], []⟩)) (.call (.builtin "object.__init__") ⟨[.ref (s.heap.objs.size + 1)], []⟩) (PySem.W.InitBack (s.heap.objs.size + 1) R)
      { s with heap := (s.heap.push PySem.W.emptyDict).push (PySem.W.instObj C s.heap.objs.size) }) :
    codeAny (model prog w) A (.call (.ref C) ⟨[], []⟩) R s := by
  obtain ⟨hh, g, d, t, os⟩ := s
  exact PySem.W.make_core (PySem.W.makes_of X hm) (PySem.W.looks_findIn X hi) hb (.inr ⟨rfl, rfl⟩) h
end

/-! ### the attributes as a list of pairs -/
def putF (f : Str) (v : V) : List (Str × V) → List (Str × V)
  | [] => [(f, v)]
  | (g, x) :: r => if g = f then (g, v) :: r else (g, x) :: putF f v r
theorem lookup_putF (f g : Str) (v : V) : ∀ fs : List (Str × V), (putF f v fs).lookup g = if g = f then some v else fs.lookup g
  | [] => by
    show List.lookup g [(f, v)] = _
    by_cases h : g = f
    · have hb : (g == f) = true := beq_iff_eq.mpr h
      simp only [List.lookup, hb, if_pos h]
    · have hb : (g == f) = false := beq_eq_false_iff_ne.mpr h
      simp only [List.lookup, hb, if_neg h]
  | (k, x) :: r => by
    have ih := lookup_putF f g v r
    rw [show putF f v ((k, x) :: r) = (if k = f then (k, v) :: r else (k, x) :: putF f v r) from rfl]
    by_cases hk : k = f
    · rw [if_pos hk]
      by_cases h : g = k
      · have hb : (g == k) = true := beq_iff_eq.mpr h
        simp only [List.lookup, hb, if_pos (h.trans hk)]
      · have hb : (g == k) = false := beq_eq_false_iff_ne.mpr h
        simp only [List.lookup, hb, if_neg (fun e : g = f => h (e.trans hk.symm))]
    · rw [if_neg hk]
      by_cases h : g = k
      · have hb : (g == k) = true := beq_iff_eq.mpr h
        simp only [List.lookup, hb, if_neg (fun e : g = f => hk (h.symm.trans e))]
      · have hb : (g == k) = false := beq_eq_false_iff_ne.mpr h
        simp only [List.lookup, hb]
        exact ih
theorem keys_putF (f : Str) (v : V) : ∀ fs : List (Str × V), f ∈ (putF f v fs).map (·.1) ∧ ∀ g, g ∈ fs.map (·.1) → g ∈ (putF f v fs).map (·.1)
  | [] => ⟨by simp [putF], fun g h => by simp at h⟩
  | (k, x) :: r => by
    obtain ⟨i1, i2⟩ := keys_putF f v r
    rw [show putF f v ((k, x) :: r) = (if k = f then (k, v) :: r else (k, x) :: putF f v r) from rfl]
    by_cases hk : k = f
    · rw [if_pos hk]
      subst hk
      exact ⟨by simp, fun g h => by simpa using h⟩
    · rw [if_neg hk]
      refine ⟨?_, fun g h => ?_⟩
      · rw [List.map_cons]
        exact List.mem_cons_of_mem _ i1
      · rw [List.map_cons] at h ⊢
        rcases List.mem_cons.mp h with e | e
        · exact List.mem_cons.mpr (.inl e)
        · exact List.mem_cons_of_mem _ (i2 g e)
theorem length_putF (f : Str) (v : V) : ∀ fs : List (Str × V), (putF f v fs).length ≤ fs.length + 1
  | [] => by simp [putF]
  | (k, x) :: r => by
    have ih := length_putF f v r
    rw [show putF f v ((k, x) :: r) = (if k = f then (k, v) :: r else (k, x) :: putF f v r) from rfl]
    by_cases hk : k = f
    · rw [if_pos hk, List.length_cons, List.length_cons]; omega
    · rw [if_neg hk, List.length_cons, List.length_cons]; omega

theorem RelO.some_of {v : V} {o : Option Value} (r : RelO (some v) o) : ∃ u, o = some u ∧ RelV v u := by
  cases o with
  | none => exact (show False from r).elim
  | some u => exact ⟨u, rfl, r⟩
theorem RelO.none_of {o : Option Value} (r : RelO none o) : o = none := by
  cases o with
  | none => rfl
  | some u => exact (show False from r).elim
theorem handed_of {v : V} {u : Value} (r : RelV v u) : PySem.W.handedIn u = true := by
  cases v with
  | non => cases (show u = Value.none from r); rfl
  | bl b => cases (show u = Value.bool b from r); rfl
  | int i => obtain ⟨t, e⟩ := (show ∃ t, u = Value.int i t from r); cases e; rfl
  | str x => obtain ⟨t, e⟩ := (show ∃ t, u = Value.str x t from r); cases e; rfl
  | byt b => obtain ⟨t, e⟩ := (show ∃ t, u = Value.bytes b t from r); cases e; rfl
  | flt b => obtain ⟨t, e⟩ := (show ∃ t, u = Value.float b t from r); cases e; rfl
  | ref a => cases (show u = Value.ref a from r); rfl
  | ty n => cases (show u = Value.type n from r); rfl

section
variable {P : Program} {w : World} {H H' : Hp} {h h' : Heap} {a C dx : Addr} {fs fs' : List (Str × V)}
theorem ins_get (hok : HOk P w H h) (e : H a = some (.ins C dx fs)) : ∃ mA, ObjM h a dx C mA ∧ (∀ f, RelO (fs.lookup f) (mA f)) ∧ PySem.Within mA (fs.map (·.1)) ∧ fs.length ≤ 1000 ∧ H dx = some (.own a) := by
  obtain ⟨d, z, ne, ob, mA, n, r, q⟩ := (show ObjOk P w H h a (.ins C dx fs) from hok a _ e)
  exact ⟨mA, ⟨ob, n, ne⟩, r, q, z, d⟩
end

/-! ### what of the text a class must have -/
structure Cls (K : PySem.W.Frag) (C : Addr) : Prop where
  pg : PySem.W.plainGet K C Str.empty = true
  hd : PySem.W.hasDictIn K C = true
  po : PySem.W.plainOver K C = true
  sa : PySem.W.findIn K (.ref C) "__setattr__" = some (some (.builtin "object.__setattr__"))
theorem Cls.get {K : PySem.W.Frag} {C : Addr} (c : Cls K C) (f : Str) : PySem.W.plainGet K C f = true := c.pg
/-- no class of it has the name -/
def NoAttr (K : PySem.W.Frag) (C : Addr) (f : Str) : Prop := PySem.W.findIn K (.ref C) f = some none
theorem NoAttr.taker {K : PySem.W.Frag} {C : Addr} {f : Str} (n : NoAttr K C f) : PySem.W.takerIn K C f = some none := by
  unfold PySem.W.takerIn
  rw [show PySem.W.findIn K (.ref C) f = some none from n]
  rfl
/-- a constant of the class -/
structure Con (K : PySem.W.Frag) (C : Addr) (f : Str) (v : V) (u : Value) : Prop where
  at_ : PySem.W.findIn K (.ref C) f = some (some u)
  rel : RelV v u
  get : PySem.W.specialIn K u "__get__" = some none
  cp : PySem.W.copiedNames.contains f = false
/-- a method: a plain def of the class or of one above it -/
structure Meth (K : PySem.W.Frag) (C : Addr) (m : Str) (f : Addr) : Prop where
  at_ : PySem.W.findIn K (.ref C) m = some (some (.ref f))
  fn : PySem.W.isFn K (.ref f) = true
  kp : PySem.W.keepIn K (.ref f) = true

section
variable {X : Cx} {pins : List (Addr × Obj)} {σ : St} {H : Hp} {s : Shared} {a C dx : Addr} {fs : List (Str × V)} {f : Str} {v : V} {A : Around} {E : Value → Shared → Prop}

theorem getattr_ok {b : Bool} {Q : Value → Shared → Prop} (I : Inv X pins σ H s) (e : H a = some (.ins C dx fs)) (c : Cls X.K C) (n : NoAttr X.K C f) (l : fs.lookup f = some v)
    (h : ∀ u s', Inv X pins σ H s' → RelV v u → Q u s') : wpAny (model X.prog X.w) A (getAttr (.ref a) f b) Q E s := by
  obtain ⟨mA, O, r, _, _, _⟩ := ins_get I.hok e
  obtain ⟨u, hu, ru⟩ := RelO.some_of (v := v) (o := mA f) (by rw [← l]; exact r f)
  exact get_map I.kIn O (c.get f) c.hd n hu (handed_of ru) (h u _ (I.tok _) ru)

theorem getcon_ok {b : Bool} {u : Value} {Q : Value → Shared → Prop} (I : Inv X pins σ H s) (e : H a = some (.ins C dx fs)) (c : Cls X.K C) (k : Con X.K C f v u) (l : fs.lookup f = none)
    (h : ∀ s', Inv X pins σ H s' → Q u s') : wpAny (model X.prog X.w) A (getAttr (.ref a) f b) Q E s := by
  obtain ⟨mA, O, r, _, _, _⟩ := ins_get I.hok e
  have hn : mA f = none := RelO.none_of (by rw [← l]; exact r f)
  exact get_const I.kIn O (c.get f) c.hd k.at_ k.get k.cp hn (handed_of k.rel) (h _ (I.tok _))

theorem getmeth_ok {m : Str} {g : Addr} {pl : Sem Bool} {Q : Value × List Value → Shared → Prop} (I : Inv X pins σ H s) (e : H a = some (.ins C dx fs)) (c : Cls X.K C) (k : Meth X.K C m g) (l : fs.lookup m = none)
    (h : Q (.ref g, [.ref a]) s) : wpAny (model X.prog X.w) A (getMethod (.ref a) m pl) Q E s := by
  obtain ⟨mA, O, r, _, _, _⟩ := ins_get I.hok e
  have hn : mA m = none := RelO.none_of (by rw [← l]; exact r m)
  exact get_meth I.kIn O (c.get m) k.at_ k.fn hn h

theorem setattr_ok {y : V} {u : Value} {Q : Unit → Shared → Prop} (I : Inv X pins σ H s) (e : H a = some (.ins C dx fs)) (c : Cls X.K C) (n : NoAttr X.K C f) (hl : fs.length < 1000) (ry : RelV y u)
    (h : ∀ s', Inv X pins σ (upd H a (.ins C dx (putF f y fs))) s' → Q () s') : wpAny (model X.prog X.w) A (setAttr (.ref a) f u) Q E s := by
  obtain ⟨mA, O, r, wi, _, ho⟩ := ins_get I.hok e
  have hz : (fs.map (·.1)).length ≤ sizeLine := by rw [List.length_map, sizeLine_eq]; omega
  refine set_map I.kIn O c.sa c.po n.taker c.hd wi hz fun h' O' sb => h _ ?_
  have hd : ∃ o, h'.get? dx = some o := let ⟨o, _, _, e', _⟩ := O'.ns; ⟨o, e'⟩
  refine I.write (x := a) (e := dx) (by rw [e]; exact True.intro) (.inr ho) (fun b q hb z => (sb.2 b hb).trans z) hd ?_
  refine ⟨by rw [upd_ne O.ne]; exact ho, ?_, O.ne, O'.obj, _, O'.ns, fun g => ?_, fun g hg => ?_⟩
  · have := length_putF f y fs; omega
  · show RelO ((putF f y fs).lookup g) (if g = f then some u else mA g)
    rw [lookup_putF]
    by_cases q : g = f
    · rw [if_pos q, if_pos q]; exact ry
    · rw [if_neg q, if_neg q]; exact r g
  · by_cases q : g = f
    · rw [q]; exact (keys_putF f y fs).1
    · refine (keys_putF f y fs).2 g (wi g fun z => hg ?_)
      show (if g = f then some u else mA g) = none
      rw [if_neg q]; exact z

/-- a new instance, tracked, without attributes -/
theorem Inv.made (I : Inv X pins σ H s) : Inv X pins σ (upd (upd H s.heap.objs.size (.own (s.heap.objs.size + 1))) (s.heap.objs.size + 1) (.ins C s.heap.objs.size []))
    { s with heap := (s.heap.push PySem.W.emptyDict).push (PySem.W.instObj C s.heap.objs.size) } := by
  have e1 : (s.heap.push PySem.W.emptyDict).get? s.heap.objs.size = some PySem.W.emptyDict := Heap.get?_push_size s.heap rfl
  have e2 : ((s.heap.push PySem.W.emptyDict).push (PySem.W.instObj C s.heap.objs.size)).get? (s.heap.objs.size + 1) = some (PySem.W.instObj C s.heap.objs.size) := by
    have := Heap.get?_push_size (s.heap.push PySem.W.emptyDict) (o := PySem.W.instObj C s.heap.objs.size) rfl
    rwa [Heap.size_push] at this
  have e3 : (s.heap.push PySem.W.emptyDict).Ns s.heap.objs.size (fun _ => none) := ⟨PySem.W.emptyDict, #[], _, e1, rfl, (fun e he => absurd he (by simp)), fun _ => rfl⟩
  have I1 := I.laid (a := s.heap.objs.size) (o := .own (s.heap.objs.size + 1)) (h' := s.heap.push PySem.W.emptyDict) (t' := s.toks) (fun b u q => Heap.get?_push_of_some _ q) (Nat.le_refl _) ⟨_, e1⟩
  refine I1.laid (a := s.heap.objs.size + 1) (o := .ins C s.heap.objs.size []) (t' := s.toks) (fun b u q => Heap.get?_push_of_some _ q) (Nat.le_of_eq (Heap.size_push _ _)) ?_
  have ne : s.heap.objs.size ≠ s.heap.objs.size + 1 := Nat.ne_of_lt (Nat.lt_succ_self _)
  refine ⟨by rw [upd_ne ne, upd_same], Nat.zero_le _, ne, e2, fun _ => none, (Heap.Ns1.of_empty e3).at fun o q => Heap.get?_push_of_some _ q, fun _ => True.intro, fun y hy => absurd rfl hy⟩

/-- e.f where nothing but the object is asked: through attributeBase (super) and the last hold -/
theorem attr_of {prog : Program} {w : World} {env : Env} {e : Expr} {f : Str} {pos : Pos} {s : Shared} {Q : Value → Shared → Prop} (hb : attributeBase e f env (eval e env) = eval e env)
    (h : wpAny (model prog w) A (eval e env) (fun o s₁ => wpAny (model prog w) A (getAttr o f true) Q E s₁) E s) : wpAny (model prog w) A (eval (.Attribute e f pos) env) Q E s :=
  Attribute_any_ h (by rw [arm_eval_Attribute, hb])
end

/-! ### readings and rules -/
/-- e.f, an attribute of the instance -/
def tFld (K : PySem.W.Frag) (ta : TE) (f : Str) : TE := fun σ H Q => ta σ H fun x H1 => ∃ a C dx fs v, x = .ref a ∧ H1 a = some (.ins C dx fs) ∧ Cls K C ∧ NoAttr K C f ∧ fs.lookup f = some v ∧ Q v H1
/-- e.f, a constant of the class -/
def tCon (K : PySem.W.Frag) (ta : TE) (f : Str) : TE := fun σ H Q => ta σ H fun x H1 => ∃ a C dx fs v u, x = .ref a ∧ H1 a = some (.ins C dx fs) ∧ Cls K C ∧ Con K C f v u ∧ fs.lookup f = none ∧ Q v H1
/-- e.f = value -/
def sFld (K : PySem.W.Frag) (ta tv : TE) (f : Str) : TS := fun D σ H => tv σ H fun y H1 => ta σ H1 fun x H2 => ∃ a C dx fs, x = .ref a ∧ H2 a = some (.ins C dx fs) ∧ Cls K C ∧ NoAttr K C f ∧ fs.length < 1000 ∧
  D.nx σ (upd H2 a (.ins C dx (putF f y fs)))
/-- an augmented operator on two values -/
def InOp (X : Cx) (op : Operator) (rd : V → V → Hp → VK → Prop) : Prop :=
  ∀ (pins : List (Addr × Obj)) (s : Shared) (σ : St) (H : Hp) (x y : V) (u v : Value) (Q : VK), Inv X pins σ H s → RelV x u → RelV y v → rd x y H Q → wpAny (model X.prog X.w) X.A (inplaceOp op u v) (EP X pins σ Q) X.xe s
/-- e.f op= value -/
def sFldAug (K : PySem.W.Frag) (ta tv : TE) (rd : V → V → Hp → VK → Prop) (f : Str) : TS := fun D σ H => ta σ H fun x H1 => ∃ a C dx fs v, x = .ref a ∧ H1 a = some (.ins C dx fs) ∧ Cls K C ∧ NoAttr K C f ∧ fs.lookup f = some v ∧
  tv σ H1 fun y H2 => rd v y H2 fun z H3 => ∃ dx' fs', H3 a = some (.ins C dx' fs') ∧ fs'.length < 1000 ∧ D.nx σ (upd H3 a (.ins C dx' (putF f z fs')))

section
variable {X : Cx} {o e value : Expr} {f : Str} {pos pos' tpos : Pos} {ta tv : TE}
theorem pe_fld (he : PE X e ta) (hb : attributeBase e f X.env (eval e X.env) = eval e X.env) : PE X (.Attribute e f pos) (tFld X.K ta f) := by
  intro pins s σ H Q I h
  refine attr_of hb (thn (he pins s σ H _ I h) fun u s1 ⟨x, H1, I1, rx, a, C, dx, fs, v, ex, ea, c, n, l, q⟩ => ?_)
  subst ex
  obtain rfl : u = Value.ref a := rx
  exact getattr_ok I1 ea c n l fun u' s2 I2 ru => ⟨v, H1, I2, ru, q⟩
theorem pe_con (he : PE X e ta) (hb : attributeBase e f X.env (eval e X.env) = eval e X.env) : PE X (.Attribute e f pos) (tCon X.K ta f) := by
  intro pins s σ H Q I h
  refine attr_of hb (thn (he pins s σ H _ I h) fun u s1 ⟨x, H1, I1, rx, a, C, dx, fs, v, u0, ex, ea, c, k, l, q⟩ => ?_)
  subst ex
  obtain rfl : u = Value.ref a := rx
  exact getcon_ok I1 ea c k l fun s2 I2 => ⟨v, H1, I2, k.rel, q⟩
theorem ps_fld (ha : PE X o ta) (hv : PE X value tv) (hs : swapsWith value (some (.Attribute o f pos')) pos.line X.env = pure false) : PS X (.Assign [.Attribute o f pos'] value pos) (sFld X.K ta tv f) := by
  intro pins s σ H D I h
  refine plainObj_wpAny_Assign_Attribute (thn (hv pins s σ H _ I h) fun u s1 ⟨y, H1, I1, ry, q⟩ => thn (ha pins s1 σ H1 _ I1 q) fun ov s2 ⟨x, H2, I2, rx, a, C, dx, fs, ex, ea, c, n, l, q2⟩ => ?_) hs
  subst ex
  obtain rfl : ov = Value.ref a := rx
  exact setattr_ok I2 ea c n l ry fun s3 I3 => ⟨σ, _, I3, q2⟩
theorem ps_fldaug {op : Operator} {rd : V → V → Hp → VK → Prop} (ha : PE X o ta) (hv : PE X value tv) (hop : InOp X op rd) : PS X (.AugAssign (.Attribute o f tpos) op value pos) (sFldAug X.K ta tv rd f) := by
  intro pins s σ H D I h
  refine wpAny_AugAssign_AttributeAny (thn (ha pins s σ H _ I h) fun ov s1 ⟨x, H1, I1, rx, a, C, dx, fs, v, ex, ea, c, n, l, q⟩ => ?_)
  subst ex
  obtain rfl : ov = Value.ref a := rx
  refine getattr_ok I1 ea c n l fun u s2 I2 ru => thn (hv pins s2 σ H1 _ I2 q) fun w3 s3 ⟨y, H2, I3, ry, q3⟩ => thn (hop pins s3 σ H2 v y u w3 _ I3 ru ry q3) fun w4 s4 ⟨z, H3, I4, rz, dx', fs', ea', l', q4⟩ => ?_
  exact setattr_ok I4 ea' c n l' rz fun s5 I5 => ⟨σ, _, I5, q4⟩
def rAdd : V → V → Hp → VK → Prop := fun x y H Q => ∃ i j, x = .int i ∧ y = .int j ∧ Q (.int (i + j)) H
def rSub : V → V → Hp → VK → Prop := fun x y H Q => ∃ i j, x = .int i ∧ y = .int j ∧ Q (.int (i - j)) H
theorem in_add : InOp X .Add rAdd := by
  rintro pins s σ H x y u v Q I rx ry ⟨i, j, rfl, rfl, q⟩
  obtain ⟨t, rfl⟩ := (show ∃ t, u = Value.int i t from rx)
  obtain ⟨t', rfl⟩ := (show ∃ t', v = Value.int j t' from ry)
  exact PyProof.Rows.iadd_int ⟨.int (i + j), H, I.tok _, ⟨_, rfl⟩, q⟩
theorem in_sub : InOp X .Sub rSub := by
  rintro pins s σ H x y u v Q I rx ry ⟨i, j, rfl, rfl, q⟩
  obtain ⟨t, rfl⟩ := (show ∃ t, u = Value.int i t from rx)
  obtain ⟨t', rfl⟩ := (show ∃ t', v = Value.int j t' from ry)
  exact PyProof.Rows.isub_int ⟨.int (i - j), H, I.tok _, ⟨_, rfl⟩, q⟩

/-- what is between an instance and its method: the tree of a method call -/
theorem methcall_of {pl : Sem Bool} {m : Str} {apos : Pos} {args : List Expr} {pins : List (Addr × Obj)} {s : Shared} {σ : St} {H : Hp} {Q : Value → Shared → Prop} {te : TE} (he : PE X e te) (I : Inv X pins σ H s)
    (h : te σ H fun x H1 => ∃ a C dx fs g, x = .ref a ∧ H1 a = some (.ins C dx fs) ∧ Cls X.K C ∧ Meth X.K C m g ∧ fs.lookup m = none ∧
      ∀ s1, Inv X pins σ H1 s1 → wpAny (model X.prog X.w) X.A (callWith pos (.ref g) [.ref a] (backTo pos (starEach args X.env)) (backToKw pos (keywordEach [] X.env))) Q X.xe s1)
    (ht : eval (.Call (.Attribute e m apos) args [] pos) X.env = (do
      let ov ← eval e X.env
      standAt apos.atName
      let (f, first) ← holding [ov] (getMethod ov m pl)
      callWith pos f first (backTo pos (starEach args X.env)) (backToKw pos (keywordEach [] X.env)))) :
    wpAny (model X.prog X.w) X.A (eval (.Call (.Attribute e m apos) args [] pos) X.env) Q X.xe s := by
  refine PySem.W.methodCall_KW (pl := pl) (thn (he pins s σ H _ I h) fun u s1 ⟨x, H1, I1, rx, a, C, dx, fs, g, ex, ea, c, k, l, q⟩ => ?_) ht
  subst ex
  obtain rfl : u = Value.ref a := rx
  exact getmeth_ok I1 ea c k l (q s1 I1)
end

/-! ### isinstance -/
section
variable {X : Cx} {pins : List (Addr × Obj)} {σ : St} {H : Hp} {s : Shared} {A : Around} {E : Value → Shared → Prop} {Q : Value → Shared → Prop} {c : Value} {b : Bool}
/-- the type of a value, as the fragment's deciders take it; for an instance its class -/
inductive TyOf (K : PySem.W.Frag) (H : Hp) : V → Value → Prop where
  | non : TyOf K H .non (.type "NoneType")
  | bl (x : Bool) : TyOf K H (.bl x) (.type "bool")
  | int (i : Int) : TyOf K H (.int i) (.type "int")
  | str (x : Str) : TyOf K H (.str x) (.type "str")
  | flt (x : UInt64) : TyOf K H (.flt x) (.type "float")
  | lst {a : Addr} {xs : List V} (e : H a = some (.lst xs)) : TyOf K H (.ref a) (.type "list")
  | frz {a : Addr} {o : Obj} {xs : List V} (e : H a = some (.frz o (.lst xs))) : TyOf K H (.ref a) (.type "list")
  | tup {a : Addr} {xs : List V} (e : H a = some (.tup xs)) : TyOf K H (.ref a) (.type "tuple")
  | dK {a : Addr} {kvs : List (Key × V)} (e : H a = some (.dK kvs)) : TyOf K H (.ref a) (.type "dict")
  | dT {a : Addr} {kvs : List (List Key × V)} (e : H a = some (.dT kvs)) : TyOf K H (.ref a) (.type "dict")
  | ins {a C dx : Addr} {fs : List (Str × V)} (e : H a = some (.ins C dx fs)) (cl : Cls K C) (ha : PySem.W.findIn K (.ref C) "__class__" = some (some (.builtin "object.__class__")))
      (hn : PySem.W.specialIn K (.builtin "object.__class__") "__get__" = some (some (.builtin "getset_descriptor.__get__"))) (htk : PySem.W.takesIn K (.builtin "object.__class__") = some true)
      (hm : PySem.W.mroIn K C (.type "object") = some true) : TyOf K H (.ref a) (.ref C)
/-- isinstance(x, c) for one class c, a built-in or an own one: kitOne's answer -/
theorem isinst_ok {x : V} {u t : Value} (I : Inv X pins σ H s) (rx : RelV x u) (ty : TyOf X.K H x t) (e : PySem.W.kitOne X.K t c = some b) (h : ∀ tk, Q (.bool b) { s with toks := tk }) :
    wpAny (model X.prog X.w) A (call (.builtin "isinstance") [u, c]) Q E s := by
  cases ty with
  | non => cases (show u = Value.none from rx); exact PySem.W.kia_one PySem.W.kitx_none I.kIn True.intro e (fun z => nomatch z) h
  | bl y => cases (show u = Value.bool y from rx); exact PySem.W.kia_one PySem.W.kitx_bool I.kIn True.intro e (fun z => nomatch z) h
  | int i => obtain ⟨t, q⟩ := (show ∃ t, u = Value.int i t from rx); cases q; exact PySem.W.kia_one PySem.W.kitx_int I.kIn True.intro e (fun z => nomatch z) h
  | str y => obtain ⟨t, q⟩ := (show ∃ t, u = Value.str y t from rx); cases q; exact PySem.W.kia_one PySem.W.kitx_str I.kIn True.intro e (fun z => nomatch z) h
  | flt y => obtain ⟨t, q⟩ := (show ∃ t, u = Value.float y t from rx); cases q; exact PySem.W.kia_one PySem.W.kitx_float I.kIn True.intro e (fun z => nomatch z) h
  | @lst a xs ea =>
    cases (show u = Value.ref a from rx)
    obtain ⟨_, _, n, _, h1⟩ := (show ObjOk X.prog X.w H s.heap a (.lst xs) from I.hok a _ ea)
    exact PySem.W.kia_one PySem.W.kitx_list I.kIn ⟨_, h1, rfl⟩ e (fun z => nomatch z) h
  | @frz a ob xs ea =>
    cases (show u = Value.ref a from rx)
    obtain ⟨_, _, _, n, _, h1⟩ := (show ObjOk X.prog X.w H s.heap a (.frz ob (.lst xs)) from I.hok a _ ea)
    exact PySem.W.kia_one PySem.W.kitx_list I.kIn ⟨_, h1, rfl⟩ e (fun z => nomatch z) h
  | @tup a xs ea =>
    cases (show u = Value.ref a from rx)
    obtain ⟨_, _, _, p⟩ := (show ObjOk X.prog X.w H s.heap a (.tup xs) from I.hok a _ ea)
    obtain ⟨o, h1, h2, _⟩ := p
    exact PySem.W.kia_one PySem.W.kitx_tuple I.kIn ⟨o, h1, h2⟩ e (fun z => nomatch z) h
  | @dK a kvs ea =>
    cases (show u = Value.ref a from rx)
    obtain ⟨_, _, vs, _, p⟩ := (show ObjOk X.prog X.w H s.heap a (.dK kvs) from I.hok a _ ea)
    obtain ⟨o, es, ep, h1, h2, _⟩ := p
    exact PySem.W.kia_one PySem.W.kitx_dict I.kIn ⟨o, h1, h2.1⟩ e (fun z => nomatch z) h
  | @dT a kvs ea =>
    cases (show u = Value.ref a from rx)
    obtain ⟨_, _, xs, _, o, es, ep, h1, h2, _⟩ := (show ObjOk X.prog X.w H s.heap a (.dT kvs) from I.hok a _ ea)
    exact PySem.W.kia_one PySem.W.kitx_dict I.kIn ⟨o, h1, h2.1⟩ e (fun z => nomatch z) h
  | @ins a C dx fs ea cl ha hn htk hm =>
    cases (show u = Value.ref a from rx)
    obtain ⟨mA, O, _⟩ := ins_get I.hok ea
    obtain ⟨od, J, _⟩ := O.look
    exact PySem.W.kia_one (PySem.W.kitx_own (cl.get _) cl.hd ha hn htk hm) I.kIn J e (fun z => nomatch z) h
end
end L2

namespace L2
open PySem PySem.Spec PyProof.Rows

/-! ### room -/
structure Room (k : Nat) (A : Around) : Prop where
  hd : A.handled = none
  dp : A.depth + 3 * k + 5 < recursionLimit
  un : A.units + 16 * k + 200 < cLine
theorem Room.mono {j k : Nat} {A : Around} (r : Room k A) (h : j ≤ k) : Room j A := ⟨r.hd, by have := r.dp; omega, by have := r.un; omega⟩
theorem Room.deeper {k : Nat} {A : Around} (r : Room (k + 1) A) (env : Env) : Room k (A.deeper env) :=
  ⟨r.hd, by have := r.dp; show A.depth + 1 + 3 * k + 5 < _; omega, by have := r.un; show A.units + 3 + 16 * k + 200 < _; omega⟩
theorem Room.in1 {k : Nat} {A : Around} (r : Room (k + 1) A) : Room k A.in1 :=
  ⟨r.hd, by have := r.dp; show A.depth + 3 * k + 5 < _; omega, by have := r.un; show A.units + 1 + 16 * k + 200 < _; omega⟩
theorem make_depth {A : Around} {C : Addr} {us : List Value} {kw : List (Str × Value)} : (A.under (.builtin "type.__call__" ⟨.ref C :: us, kw⟩)).depth = A.depth + 1 := by
  first | rfl | simp [Around.under, Code.weight, Code.isCreation, Code.isGuard, Code.isCaller, Code.frames, Code.isFrame, guardIds]
theorem make_units {A : Around} {C : Addr} {us : List Value} {kw : List (Str × Value)} : (A.under (.builtin "type.__call__" ⟨.ref C :: us, kw⟩)).units = A.units + 1 := by
  first | rfl | simp [Around.under, Code.cUnits, Code.frames, Code.isFrame]
theorem Room.make {k : Nat} {A : Around} (r : Room (k + 1) A) (C : Addr) (us : List Value) (kw : List (Str × Value)) : Room k (A.under (.builtin "type.__call__" ⟨.ref C :: us, kw⟩)) :=
  ⟨r.hd, by have := r.dp; rw [make_depth]; omega, by have := r.un; rw [make_units]; omega⟩
theorem Room.depth {k : Nat} {A : Around} (r : Room k A) : A.depth < recursionLimit := by have := r.dp; omega
theorem Room.units {k : Nat} {A : Around} (r : Room k A) : A.units + 64 < cLine := by have := r.un; omega
theorem Room.units0 {k : Nat} {A : Around} (r : Room k A) : A.units < cLine := by have := r.un; omega

/-! ### argument lists and displays -/
def tNil : TA := fun _ H Q => Q [] H
def tCons (ta : TE) (tr : TA) : TA := fun σ H Q => ta σ H fun x H1 => tr σ H1 fun xs H2 => Q (x :: xs) H2
section
variable {X : Cx} {e : Expr} {es : List Expr} {te : TE} {t : TA} {pos : Pos}
theorem pa_nil : PA X [] tNil := fun _ _ _ _ H Q I h => Calls.spliced_nil ⟨[], H, I, .nil, h⟩
theorem pa_cons (ha : PE X e te) (hr : PA X es t) (hs : starEach (e :: es) X.env = (false, eval e X.env) :: starEach es X.env := by rfl) : PA X (e :: es) (tCons te t) := by
  intro pos pins s σ H Q I h
  rw [hs]
  show wpAny _ _ (spliced ((false, eval e X.env) :: backTo pos (starEach es X.env))) _ _ s
  refine Calls.spliced_cons (thn (ha pins s σ H _ I h) fun u s1 ⟨x, H1, I1, r1, q1⟩ => ?_)
  exact thn (hr pos pins s1 σ H1 _ I1 q1) fun us s2 ⟨xs, H2, I2, r2, q2⟩ => ⟨x :: xs, H2, I2, .cons r1 r2, q2⟩

/-- a tuple, a list of written items -/
def tTup (t : TA) : TE := fun σ H Q => t σ H fun xs H1 => xs.length ≤ sizeLine ∧ ∀ p, H1 p = none → Q (.ref p) (upd H1 p (.tup xs))
def tLst (t : TA) : TE := fun σ H Q => t σ H fun xs H1 => xs.length ≤ sizeLine ∧ ∀ p, H1 p = none → Q (.ref p) (upd H1 p (.lst xs))
theorem pe_tup {x1} (h : PA X es t) : PE X (.Tuple es x1 pos) (tTup t) := by
  intro pins s σ H Q I hq
  refine wpAny_Tuple_spliced (thn (h pos pins s σ H _ I hq) fun us s1 ⟨xs, H1, I1, r, z, q⟩ => ⟨by rw [← r.length]; exact z, ?_⟩)
  have hf : H1 s1.heap.objs.size = none := I1.hok.fresh (Nat.le_refl _)
  refine ⟨.ref s1.heap.objs.size, upd H1 s1.heap.objs.size (.tup xs), I1.laid (t' := s1.toks) (fun b u e => Heap.get?_push_of_some _ e) (Nat.le_refl _) ?_, rfl, q _ hf⟩
  exact ⟨z, us, r, ⟨_, Heap.get?_push_size _ rfl, rfl, _, rfl⟩⟩
theorem pe_lst (h : PA X es t) : PE X (.List es pos) (tLst t) := by
  intro pins s σ H Q I hq
  refine wpAny_List_spliced (thn (h pos pins s σ H _ I hq) fun us s1 ⟨xs, H1, I1, r, z, q⟩ => ⟨by rw [← r.length]; exact z, ?_⟩)
  have hf : H1 s1.heap.objs.size = none := I1.hok.fresh (Nat.le_refl _)
  refine ⟨.ref s1.heap.objs.size, upd H1 s1.heap.objs.size (.lst xs), I1.laid (t' := s1.toks) (fun b u e => Heap.get?_push_of_some _ e) (Nat.le_refl _) ?_, rfl, q _ hf⟩
  exact ⟨z, us, 0, r, Heap.get?_push_size _ rfl⟩
end

/-! ### what a def promises -/
/-- a def's promise: the bound arguments in the parameters' order, the heap, the wanted end, the wanted exception -/
abbrev Sp := List V → Hp → VK → XK → Prop
/-- how an exception lies behind a call (file 08 gives it): the callers' frames, abstract heap and state ahead of the call, the wish, the exception, the state -/
abbrev CXT := List Env → Hp → Shared → XK → Value → Shared → Prop

/-- the state at a call -/
structure Env0 (P : Program) (w : World) (K : PySem.W.Frag) (mg : Str → Option Value) (base : Heap) (A : Around) (outer : List Env) (s : Shared) (H : Hp) : Prop where
  frames : A.frames = some outer
  mod : Mod K mg base
  bs : ∀ b o, base.get? b = some o → s.heap.get? b = some o ∧ H b = none
  bsz : base.objs.size ≤ s.heap.objs.size
  funs : s.heap.FunFrames base outer
  frf : ∀ b ∈ frs outer, H b = none
  hok : HOk P w H s.heap
  bare : AllBare s.gens
/-- a call's end -/
def CE (outer : List Env) (P : Program) (w : World) (H : Hp) (s : Shared) (Q : VK) (u : Value) (s' : Shared) : Prop :=
  ∃ v H', s'.os = s.os ∧ AllBare s'.gens ∧ Un (frs outer) [] H H' s.heap s'.heap ∧ HOk P w H' s'.heap ∧ RelV v u ∧ Q v H'
def CR (CX : CXT) (outer : List Env) (P : Program) (w : World) (H : Hp) (s : Shared) (Q : VK) (E : XK) (r : Result) (s' : Shared) : Prop :=
  match r with
  | .ok (.ret u) => CE outer P w H s Q u s'
  | .ok _ => False
  | .error e => CX outer H s E e s'
structure FnOk (P : Program) (w : World) (K : PySem.W.Frag) (mg : Str → Option Value) (base : Heap) (CX : CXT) (k : Nat) (f : Addr) (fd : FuncData) (ps : List Str) (sp : Sp) : Prop where
  len : ∀ vs H Q E, sp vs H Q E → vs.length = ps.length
  run : ∀ (A : Around) (outer : List Env) (s : Shared) (H : Hp) (args : Args) (us : List Value) (vs : List V) (Q : VK) (E : XK), Room k A → Env0 P w K mg base A outer s H → BindsTo s fd args (ps.zip us) → Vals vs us → sp vs H Q E →
    codeAny (model P w) A (.call (.ref f) args) (CR CX outer P w H s Q E) s
theorem FnOk.mono {P : Program} {w : World} {K : PySem.W.Frag} {mg : Str → Option Value} {base : Heap} {CX : CXT} {j k : Nat} {f : Addr} {fd : FuncData} {ps : List Str} {sp : Sp} (F : FnOk P w K mg base CX j f fd ps sp) (h : j ≤ k) :
    FnOk P w K mg base CX k f fd ps sp := ⟨F.len, fun A outer s H args us vs Q E hr => F.run A outer s H args us vs Q E (hr.mono h)⟩
/-- a weaker promise -/
theorem FnOk.imp {P : Program} {w : World} {K : PySem.W.Frag} {mg : Str → Option Value} {base : Heap} {CX : CXT} {k : Nat} {f : Addr} {fd : FuncData} {ps : List Str} {sp sp' : Sp} (F : FnOk P w K mg base CX k f fd ps sp)
    (h : ∀ vs H Q E, sp' vs H Q E → sp vs H Q E) : FnOk P w K mg base CX k f fd ps sp' :=
  ⟨fun vs H Q E q => F.len vs H Q E (h _ _ _ _ q), fun A outer s H args us vs Q E hr he hb hv hs => F.run A outer s H args us vs Q E hr he hb hv (h _ _ _ _ hs)⟩

theorem Env0.make {P : Program} {w : World} {K : PySem.W.Frag} {mg : Str → Option Value} {base : Heap} {A : Around} {outer : List Env} {s : Shared} {H : Hp} (e : Env0 P w K mg base A outer s H) (C : Addr) (us : List Value) (kw : List (Str × Value)) :
    Env0 P w K mg base (A.under (.builtin "type.__call__" ⟨.ref C :: us, kw⟩)) outer s H := ⟨by first | exact e.frames | (simpa [Around.under, Code.envs, Code.isFrame, pushEnvs] using e.frames), e.mod, e.bs, e.bsz, e.funs, e.frf, e.hok, e.bare⟩
theorem Env0.in1 {P : Program} {w : World} {K : PySem.W.Frag} {mg : Str → Option Value} {base : Heap} {A : Around} {outer : List Env} {s : Shared} {H : Hp} (e : Env0 P w K mg base A outer s H) :
    Env0 P w K mg base A.in1 outer s H := ⟨e.frames, e.mod, e.bs, e.bsz, e.funs, e.frf, e.hok, e.bare⟩

section
variable {X : Cx} {pins : List (Addr × Obj)} {σ : St} {H : Hp} {s s' : Shared}
/-- from a body: what a callee wants -/
theorem Inv.env0 (I : Inv X pins σ H s) : Env0 X.prog X.w X.K X.mg X.base X.A X.stack s H :=
  ⟨I.ok.frames, I.ok.mod, I.bs, Nat.le_trans I.ok.bsz I.sz, I.stack, I.stkFree, I.hok, I.bare⟩
/-- behind a call -/
theorem Inv.after {Q : VK} {u : Value} (I : Inv X pins σ H s) (h : CE X.stack X.prog X.w H s Q u s') : EP X pins σ Q u s' := by
  obtain ⟨v, H', os, bare, un, hok, r, q⟩ := h
  obtain ⟨hh, g, d, t, os'⟩ := s'
  obtain rfl : os' = s.os := os
  exact ⟨v, H', I.call (h' := hh) (g' := g) (d' := d) (t' := t) (ch := []) un hok bare (fun b z => absurd z (by simp)), r, q⟩
end

/-! ### calls -/
/-- f(..): the written arguments, then the defaults dvs; E: what is wanted of an exception -/
def tCall (sp : Sp) (dvs : List V) (E : XK) (t : TA) : TE := fun σ H Q => t σ H fun vs H1 => sp (vs ++ dvs) H1 Q E
/-- o.m(..) of an instance of the class at C -/
def tMeth (C : Addr) (m : Str) (sp : Sp) (dvs : List V) (E : XK) (ta : TE) (t : TA) : TE := fun σ H Q => ta σ H fun x H1 => ∃ a dx fs, x = .ref a ∧ H1 a = some (.ins C dx fs) ∧ fs.lookup m = none ∧
  t σ H1 fun vs H2 => sp (x :: (vs ++ dvs)) H2 Q E
/-- C(..): a new instance and its dict, then __init__ -/
def tMake (C : Addr) (sp : Sp) (dvs : List V) (E : XK) (t : TA) : TE := fun σ H Q => t σ H fun vs H1 => ∀ x dx, H1 x = none → H1 dx = none → dx ≠ x →
  sp (.ref x :: (vs ++ dvs)) (upd (upd H1 dx (.own x)) x (.ins C dx [])) (fun v H2 => v = .non ∧ Q (.ref x) H2) E

/-- how the parameters are bound: us the positional arguments, kw the keywords' values by name, ds the defaults that fill up -/
def Binds (K : PySem.W.Frag) (fd : FuncData) (ps : List Str) (ds : List Value) : Prop :=
  ∀ (s : Shared) (us : List Value), K.In s.heap → (us ++ ds).length = ps.length → BindsTo s fd ⟨us, []⟩ (ps.zip (us ++ ds))
/-- every parameter is given -/
theorem Binds.all {K : PySem.W.Frag} {fd : FuncData} {ps : List Str} (h : ∀ us : List Value, us.length = ps.length → bindArgs fd ⟨us, []⟩ = pure (ps.zip us)) : Binds K fd ps [] := fun s us _ hl => by
  rw [List.append_nil] at hl ⊢
  exact .of_eq (h us hl)

/-- an exception of a callee reaches what this body wants of exceptions -/
def Passes (CX : CXT) (X : Cx) (E : XK) : Prop := ∀ (pins : List (Addr × Obj)) (σ : St) (H : Hp) (s : Shared) (e : Value) (s' : Shared), Inv X pins σ H s → CX X.stack H s E e s' → X.xe e s'

section
variable {X : Cx} {CX : CXT} {k : Nat} {f C : Addr} {fd : FuncData} {ps : List Str} {sp : Sp} {dvs : List V} {ds : List Value} {E : XK} {x m : Str} {p pos apos : Pos} {e o : Expr} {es : List Expr} {ta : TE} {t : TA}

/-- the callee runs -/
theorem run_fn {pins : List (Addr × Obj)} {σ : St} {H : Hp} {s : Shared} {Q : VK} {us : List Value} {vs : List V} (F : FnOk X.prog X.w X.K X.mg X.base CX k f fd ps sp) (hr : Room k X.A) (hb : Binds X.K fd ps ds) (hd : Vals dvs ds) (hx : Passes CX X E)
    (I : Inv X pins σ H s) (r : Vals vs us) (h : sp (vs ++ dvs) H Q E) : wpAny (model X.prog X.w) X.A (call (.ref f) us) (EP X pins σ Q) X.xe s := by
  have r2 : Vals (vs ++ dvs) (us ++ ds) := r.append hd
  have hl : (us ++ ds).length = ps.length := by rw [← r2.length]; exact F.len _ _ _ _ h
  refine wpAny_call (codeAny_mono (F.run X.A X.stack s H ⟨us, []⟩ (us ++ ds) (vs ++ dvs) Q E hr I.env0 (hb s us I.kIn hl) r2 h) fun r s' hq => ?_)
  cases r with
  | error e => exact hx pins σ H s e s' I hq
  | ok fl =>
    cases fl with
    | ret u => exact I.after hq
    | next => exact False.elim hq
    | brk => exact False.elim hq
    | cont => exact False.elim hq

theorem pe_call (F : FnOk X.prog X.w X.K X.mg X.base CX k f fd ps sp) (hr : Room k X.A) (hg : Gl X x) (hm : X.mg x = some (.ref f)) (hk : PySem.W.keepIn X.K (.ref f) = true) (hb : Binds X.K fd ps ds) (hd : Vals dvs ds) (hx : Passes CX X E)
    (ha : PA X (e :: es) t) (hdb : (x == ("__debug__" : Str)) = false := by decide) (he : starEach (e :: es) X.env = (false, eval e X.env) :: starEach es X.env := by rfl) (hpl : (backTo pos (starEach es X.env)).any (·.1) = false := by rfl) :
    PE X (.Call (.Name x p) (e :: es) [] pos) (tCall sp dvs E t) := by
  intro pins s σ H Q I h
  refine wpAny_Call_Name_kw (ld_glob I hg hm ?_ hdb)
  refine PySem.W.callWith_K (h₀ := X.base) I.ok.mod.kin hk (thn (ha pos pins s σ H _ I h) fun us s1 ⟨vs, H1, I1, r, q⟩ => ⟨I1.kIn, ?_⟩) he hpl
  exact run_fn F hr hb hd hx I1 r q
theorem pe_call0 (F : FnOk X.prog X.w X.K X.mg X.base CX k f fd ps sp) (hr : Room k X.A) (hg : Gl X x) (hm : X.mg x = some (.ref f)) (hk : PySem.W.keepIn X.K (.ref f) = true) (hb : Binds X.K fd ps ds) (hd : Vals dvs ds) (hx : Passes CX X E)
    (hdb : (x == ("__debug__" : Str)) = false := by decide) : PE X (.Call (.Name x p) [] [] pos) (tCall sp dvs E tNil) := by
  intro pins s σ H Q I h
  refine wpAny_Call_Name_kw (ld_glob I hg hm ?_ hdb)
  exact PySem.W.callWith_K0 I.kIn hk (run_fn (us := []) F hr hb hd hx I .nil h)

/-- o.m(e, ..) -/
theorem pe_meth {pl : Sem Bool} (he : PE X o ta) (c : Cls X.K C) (hm : Meth X.K C m f) (F : FnOk X.prog X.w X.K X.mg X.base CX k f fd ps sp) (hr : Room k X.A) (hb : Binds X.K fd ps ds) (hd : Vals dvs ds) (hx : Passes CX X E) (ha : PA X (e :: es) t)
    (hst : starEach (e :: es) X.env = (false, eval e X.env) :: starEach es X.env := by rfl) (hpl : (backTo pos (starEach es X.env)).any (·.1) = false := by rfl)
    (ht : eval (.Call (.Attribute o m apos) (e :: es) [] pos) X.env = (do
      let ov ← eval o X.env
      standAt apos.atName
      let (f, first) ← holding [ov] (getMethod ov m pl)
      callWith pos f first (backTo pos (starEach (e :: es) X.env)) (backToKw pos (keywordEach [] X.env))) := by rfl) :
    PE X (.Call (.Attribute o m apos) (e :: es) [] pos) (tMeth C m sp dvs E ta t) := by
  intro pins s σ H Q I h
  refine PySem.W.methodCall_KW (pl := pl) (thn (he pins s σ H _ I h) fun u s1 ⟨x, H1, I1, rx, a, dx, fs, ex, ea, l, q⟩ => ?_) ht
  subst ex
  obtain rfl : u = Value.ref a := rx
  refine getmeth_ok I1 ea c hm l ?_
  refine PySem.W.callWith_K (first := [.ref a]) (h₀ := X.base) I.ok.mod.kin hm.kp (thn (ha pos pins s1 σ H1 _ I1 q) fun us s2 ⟨vs, H2, I2, r, q2⟩ => ⟨I2.kIn, ?_⟩) hst hpl
  exact run_fn (us := .ref a :: us) (vs := .ref a :: vs) F hr hb hd hx I2 (.cons rfl r) q2
/-- o.m() -/
theorem pe_meth0 {pl : Sem Bool} (he : PE X o ta) (c : Cls X.K C) (hm : Meth X.K C m f) (F : FnOk X.prog X.w X.K X.mg X.base CX k f fd ps sp) (hr : Room k X.A) (hb : Binds X.K fd ps ds) (hd : Vals dvs ds) (hx : Passes CX X E)
    (ht : eval (.Call (.Attribute o m apos) [] [] pos) X.env = (do
      let ov ← eval o X.env
      standAt apos.atName
      let (f, first) ← holding [ov] (getMethod ov m pl)
      callWith pos f first (backTo pos (starEach [] X.env)) (backToKw pos (keywordEach [] X.env))) := by rfl) :
    PE X (.Call (.Attribute o m apos) [] [] pos) (tMeth C m sp dvs E ta tNil) := by
  intro pins s σ H Q I h
  refine PySem.W.methodCall_KW (pl := pl) (thn (he pins s σ H _ I h) fun u s1 ⟨x, H1, I1, rx, a, dx, fs, ex, ea, l, q⟩ => ?_) ht
  subst ex
  obtain rfl : u = Value.ref a := rx
  refine getmeth_ok I1 ea c hm l ?_
  exact PySem.W.callWith_K0 (first := [.ref a]) I1.kIn hm.kp (run_fn (us := [.ref a]) (vs := [.ref a]) F hr hb hd hx I1 (.cons rfl .nil) q)

/-- what a class must have to be made -/
structure Mk (K : PySem.W.Frag) (C f : Addr) : Prop where
  makes : PySem.W.makesIn K C = true
  init : PySem.W.findIn K (.ref C) "__init__" = some (some (.ref f))
  fn : PySem.W.isFn K (.ref f) = true
  kp : PySem.W.keepIn K (.ref C) = true

theorem run_make {pins : List (Addr × Obj)} {σ : St} {H : Hp} {s : Shared} {Q : VK} {us : List Value} {vs : List V} (M : Mk X.K C f) (F : FnOk X.prog X.w X.K X.mg X.base CX k f fd ps sp) (hr : Room (k + 1) X.A) (hb : Binds X.K fd ps ds) (hd : Vals dvs ds)
    (hx : Passes CX X E) (I : Inv X pins σ H s) (r : Vals vs us)
    (h : ∀ x dx, H x = none → H dx = none → dx ≠ x → sp (.ref x :: (vs ++ dvs)) (upd (upd H dx (.own x)) x (.ins C dx [])) (fun v H2 => v = .non ∧ Q (.ref x) H2) E) :
    wpAny (model X.prog X.w) X.A (call (.ref C) us) (EP X pins σ Q) X.xe s := by
  have hq := h (s.heap.objs.size + 1) s.heap.objs.size (I.hok.fresh (Nat.le_succ _)) (I.hok.fresh (Nat.le_refl _)) (Nat.ne_of_lt (Nat.lt_succ_self _))
  have I2 := Inv.made (C := C) I
  have r2 : Vals (V.ref (s.heap.objs.size + 1) :: (vs ++ dvs)) (Value.ref (s.heap.objs.size + 1) :: (us ++ ds)) := .cons rfl (r.append hd)
  have hl : (Value.ref (s.heap.objs.size + 1) :: us ++ ds).length = ps.length := by
    have e := r2.length
    rw [F.len _ _ _ _ hq] at e
    exact e.symm
  refine wpAny_call (make_map (f := f) I.kIn M.makes M.init (beq_iff_eq.mp M.fn) (codeAny_mono (F.run _ X.stack _ _ ⟨Value.ref (s.heap.objs.size + 1) :: us, []⟩ (Value.ref (s.heap.objs.size + 1) :: (us ++ ds)) _ _ E (hr.make C us [])
    (I2.env0.make C us []) (hb _ (Value.ref (s.heap.objs.size + 1) :: us) I2.kIn hl) r2 hq) fun r s' hq' => ?_))
  cases r with
  | error e => exact hx pins σ _ _ e s' I2 hq'
  | ok fl =>
    cases fl with
    | ret u =>
      obtain ⟨v, H', I3, rv, ev, q3⟩ := I2.after hq'
      subst ev
      exact ⟨rv, ⟨V.ref (s.heap.objs.size + 1), H', I3, rfl, q3⟩⟩
    | next => exact False.elim hq'
    | brk => exact False.elim hq'
    | cont => exact False.elim hq'
theorem pe_make (M : Mk X.K C f) (F : FnOk X.prog X.w X.K X.mg X.base CX k f fd ps sp) (hr : Room (k + 1) X.A) (hg : Gl X x) (hm : X.mg x = some (.ref C)) (hb : Binds X.K fd ps ds) (hd : Vals dvs ds) (hx : Passes CX X E)
    (ha : PA X (e :: es) t) (hdb : (x == ("__debug__" : Str)) = false := by decide) (he : starEach (e :: es) X.env = (false, eval e X.env) :: starEach es X.env := by rfl) (hpl : (backTo pos (starEach es X.env)).any (·.1) = false := by rfl) :
    PE X (.Call (.Name x p) (e :: es) [] pos) (tMake C sp dvs E t) := by
  intro pins s σ H Q I h
  refine wpAny_Call_Name_kw (ld_glob I hg hm ?_ hdb)
  refine PySem.W.callWith_K (h₀ := X.base) I.ok.mod.kin M.kp (thn (ha pos pins s σ H _ I h) fun us s1 ⟨vs, H1, I1, r, q⟩ => ⟨I1.kIn, ?_⟩) he hpl
  exact run_make M F hr hb hd hx I1 r q
theorem pe_make0 (M : Mk X.K C f) (F : FnOk X.prog X.w X.K X.mg X.base CX k f fd ps sp) (hr : Room (k + 1) X.A) (hg : Gl X x) (hm : X.mg x = some (.ref C)) (hb : Binds X.K fd ps ds) (hd : Vals dvs ds) (hx : Passes CX X E)
    (hdb : (x == ("__debug__" : Str)) = false := by decide) : PE X (.Call (.Name x p) [] [] pos) (tMake C sp dvs E tNil) := by
  intro pins s σ H Q I h
  refine wpAny_Call_Name_kw (ld_glob I hg hm ?_ hdb)
  exact PySem.W.callWith_K0 I.kIn M.kp (run_make (us := []) M F hr hb hd hx I .nil h)
end

/-! ### keywords -/
/-- the values of the keywords, from the left -/
def PK (X : Cx) (kws : List Keyword) (t : TA) : Prop :=
  ∀ (pos : Pos) (pins : List (Addr × Obj)) (s : Shared) (σ : St) (H : Hp) (Q : List V → Hp → Prop), Inv X pins σ H s → t σ H Q → wpAny (model X.prog X.w) X.A (evalAll ((backToKw pos (keywordEach kws X.env)).map (·.2))) (AP X pins σ Q) X.xe s
section
variable {X : Cx} {CX : CXT} {k : Nat} {f C : Addr} {fd : FuncData} {ps ks : List Str} {sp : Sp} {E : XK} {x m : Str} {p pos apos kpos : Pos} {e o : Expr} {es : List Expr} {kws : List Keyword} {te ta : TE} {t tk : TA} {nm : Option Str}
theorem pk_nil : PK X [] tNil := fun _ _ _ _ H Q I h => wpAny_evalAll_nil ⟨[], H, I, .nil, h⟩
theorem pk_cons (ha : PE X e te) (hr : PK X kws t) : PK X (⟨nm, e, kpos⟩ :: kws) (tCons te t) := by
  intro pos pins s σ H Q I h
  show wpAny _ _ (evalAll ((do let v ← eval e X.env; standAt pos; pure v) :: (backToKw pos (keywordEach kws X.env)).map (·.2))) _ _ s
  refine wpAny_evalAll_cons (wpAny_bind (thn (ha pins s σ H _ I h) fun u s1 ⟨x, H1, I1, r1, q1⟩ => wpAny_bind (wpAny_standAt (wpAny_pure ?_))))
  exact thn (hr pos pins s1 σ H1 _ I1 q1) fun us s2 ⟨xs, H2, I2, r2, q2⟩ => ⟨x :: xs, H2, I2, .cons r1 r2, q2⟩

/-- how a call with keywords binds: g puts the positional values us and the keywords' values ws (names ks) in the parameters' order, defaults among them -/
structure KBinds (K : PySem.W.Frag) (fd : FuncData) (ps ks : List Str) (g : List Value → List Value → List Value) (gV : List V → List V → List V) : Prop where
  to : ∀ (s : Shared) (us ws : List Value), K.In s.heap → (g us ws).length = ps.length → BindsTo s fd ⟨us, ks.zip ws⟩ (ps.zip (g us ws))
  rel : ∀ {vs : List V} {us : List Value} {zs : List V} {ws : List Value}, Vals vs us → Vals zs ws → Vals (gV vs zs) (g us ws)
def tCallK (sp : Sp) (gV : List V → List V → List V) (E : XK) (t tk : TA) : TE := fun σ H Q => t σ H fun vs H1 => tk σ H1 fun zs H2 => sp (gV vs zs) H2 Q E
variable {g : List Value → List Value → List Value} {gV : List V → List V → List V}
theorem run_fnk {pins : List (Addr × Obj)} {σ : St} {H : Hp} {s : Shared} {Q : VK} {us ws : List Value} {vs zs : List V} (F : FnOk X.prog X.w X.K X.mg X.base CX k f fd ps sp) (hr : Room k X.A) (hb : KBinds X.K fd ps ks g gV) (hx : Passes CX X E)
    (I : Inv X pins σ H s) (r : Vals vs us) (rz : Vals zs ws) (h : sp (gV vs zs) H Q E) : wpAny (model X.prog X.w) X.A (call (.ref f) us (ks.zip ws)) (EP X pins σ Q) X.xe s := by
  have r2 := hb.rel r rz
  have hl : (g us ws).length = ps.length := by rw [← r2.length]; exact F.len _ _ _ _ h
  refine wpAny_call (codeAny_mono (F.run X.A X.stack s H ⟨us, ks.zip ws⟩ (g us ws) (gV vs zs) Q E hr I.env0 (hb.to s us ws I.kIn hl) r2 h) fun r s' hq => ?_)
  cases r with
  | error e => exact hx pins σ H s e s' I hq
  | ok fl =>
    cases fl with
    | ret u => exact I.after hq
    | next => exact False.elim hq
    | brk => exact False.elim hq
    | cont => exact False.elim hq
/-- f(e, .., k = v, ..) -/
theorem pe_callK (F : FnOk X.prog X.w X.K X.mg X.base CX k f fd ps sp) (hr : Room k X.A) (hg : Gl X x) (hm : X.mg x = some (.ref f)) (hk : PySem.W.keepIn X.K (.ref f) = true) (hb : KBinds X.K fd ps ks g gV) (hx : Passes CX X E)
    (ha : PA X (e :: es) t) (hkw : PK X kws tk) (hall : (backToKw pos (keywordEach kws X.env)).all (·.1.isSome) = true := by rfl) (hks : (backToKw pos (keywordEach kws X.env)).filterMap (·.1) = ks := by rfl)
    (hdb : (x == ("__debug__" : Str)) = false := by decide) (he : starEach (e :: es) X.env = (false, eval e X.env) :: starEach es X.env := by rfl)
    (hpl : ((backTo pos (starEach (e :: es) X.env)).any (·.1) || (backToKw pos (keywordEach kws X.env)).any (·.1.isNone)) = false := by rfl) :
    PE X (.Call (.Name x p) (e :: es) kws pos) (tCallK sp gV E t tk) := by
  intro pins s σ H Q I h
  refine wpAny_Call_Name_kw (ld_glob I hg hm ?_ hdb)
  refine PySem.W.callWith_KW (h₀ := X.base) I.ok.mod.kin hk hall (thn (ha pos pins s σ H _ I h) fun us s1 ⟨vs, H1, I1, r, q⟩ => ?_) hpl he
  refine thn (hkw pos pins s1 σ H1 _ I1 q) fun ws s2 ⟨zs, H2, I2, rz, q2⟩ => ⟨I2.kIn, ?_⟩
  rw [hks]
  exact run_fnk F hr hb hx I2 r rz q2
end

/-! ### a def's body keeps its promise -/
/-- names: the parameters first -/
structure FnScope (N P : List Str) (sc : Scope) : Prop where
  kind : sc.kind = .function
  co : sc.isCoroutine = false
  gen : sc.isGenerator = false
  nd : N.Nodup
  pre : N.take P.length = P
  par : ∀ x ∈ P, sc.names.lookup x = some .local ∨ sc.names.lookup x = some .cell
  nofree : ∀ y ∈ sc.names, y.2 ≠ .free

theorem bindL_out {kindOf : Str → Option NameKind} {x : Str} : ∀ {binds : List (Str × Value)} {m : Str → Option Value}, (∀ v, (x, v) ∉ binds) → bindL kindOf binds m x = m x
  | [], _, _ => rfl
  | (n, v) :: r, m, h => by
    unfold bindL
    rw [bindL_out fun w hw => h w (List.mem_cons_of_mem _ hw)]
    split
    · have : x ≠ n := by rintro rfl; exact h v List.mem_cons_self
      simp [this]
    · rfl
theorem bindC_out {kindOf : Str → Option NameKind} {x : Str} : ∀ {binds : List (Str × Value)} {m : Str → Option Value}, (∀ v, (x, v) ∉ binds) → bindC kindOf binds m x = m x
  | [], _, _ => rfl
  | (n, v) :: r, m, h => by
    unfold bindC
    rw [bindC_out fun w hw => h w (List.mem_cons_of_mem _ hw)]
    split
    · rfl
    · have : x ≠ n := by rintro rfl; exact h v List.mem_cons_self
      simp [this]
theorem bindL_get {kindOf : Str → Option NameKind} {x : Str} {v : Value} : ∀ {P : List Str} {vs : List Value} {i : Nat} {m : Str → Option Value}, P.Nodup → P[i]? = some x → vs[i]? = some v → kindOf x = some .local →
    bindL kindOf (P.zip vs) m x = some v
  | [], _, _, _, _, h, _, _ => by simp at h
  | _ :: _, [], _, _, _, _, h, _ => by simp at h
  | p :: P, w :: vs, 0, m, nd, h1, h2, hk => by
    simp at h1 h2; subst h1; subst h2
    show bindL kindOf ((p, w) :: P.zip vs) m p = _
    unfold bindL
    rw [bindL_out fun v hv => (List.nodup_cons.mp nd).1 (List.of_mem_zip hv).1, if_pos hk]
    simp
  | p :: P, w :: vs, i + 1, m, nd, h1, h2, hk => by
    show bindL kindOf ((p, w) :: P.zip vs) m x = _
    unfold bindL
    exact bindL_get (i := i) (List.nodup_cons.mp nd).2 (by simpa using h1) (by simpa using h2) hk
theorem bindC_get {kindOf : Str → Option NameKind} {x : Str} {v : Value} : ∀ {P : List Str} {vs : List Value} {i : Nat} {m : Str → Option Value}, P.Nodup → P[i]? = some x → vs[i]? = some v → kindOf x ≠ some .local →
    bindC kindOf (P.zip vs) m x = some v
  | [], _, _, _, _, h, _, _ => by simp at h
  | _ :: _, [], _, _, _, _, h, _ => by simp at h
  | p :: P, w :: vs, 0, m, nd, h1, h2, hk => by
    simp at h1 h2; subst h1; subst h2
    show bindC kindOf ((p, w) :: P.zip vs) m p = _
    unfold bindC
    rw [bindC_out fun v hv => (List.nodup_cons.mp nd).1 (List.of_mem_zip hv).1, if_neg hk]
    simp
  | p :: P, w :: vs, i + 1, m, nd, h1, h2, hk => by
    show bindC kindOf ((p, w) :: P.zip vs) m x = _
    unfold bindC
    exact bindC_get (i := i) (List.nodup_cons.mp nd).2 (by simpa using h1) (by simpa using h2) hk

/-- the names' values at the entry -/
def start (N : List Str) (vs : List V) : St := vs.map some ++ List.replicate (N.length - vs.length) none

/-- the context of a def's body, at its entry; an exception leaves the frame, then lies as CX says -/
def cxOf (CX : CXT) (P : Program) (w : World) (K : PySem.W.Frag) (mg : Str → Option Value) (base : Heap) (N : List Str) (qual : Str) (scope : Scope) (f : Addr) (cd : Value) (A : Around) (outer : List Env) (s : Shared) (H : Hp) (E : XK) : Cx where
  prog := P
  w := w
  K := K
  mg := mg
  base := base
  A := A.deeper (envOfC qual scope s.heap.objs.size f cd)
  N := N
  s₀ := s
  H₀ := H
  env := envOfC qual scope s.heap.objs.size f cd
  outer := outer
  stack := envOfC qual scope s.heap.objs.size f cd :: outer
  ex := []
  calm := true
  fn := fun _ => true
  pn := []
  xe := fun e s' => wpAny (model P w) (A.deeper (envOfC qual scope s.heap.objs.size f cd)) (leaving (envOfC qual scope s.heap.objs.size f cd) e) (fun _ s'' => CX outer H s E e s'') (fun e' s'' => CX outer H s E e' s'') s'

theorem cell_has {sc : Scope} {n : Nat} {x : Str} (h : sc.names.lookup x = some .cell) : ∃ c, (cellsFrom n sc.names []).lookup x = some c := by
  have q := PySem.W.cellsFrom_some sc.names n [] (.inl h)
  exact Option.isSome_iff_exists.mp q

theorem inv_start {CX : CXT} {P : Program} {w : World} {K : PySem.W.Frag} {mg : Str → Option Value} {base : Heap} {N ps : List Str} {qual : Str} {scope : Scope} {f : Addr} {cd : Value} {A : Around} {outer : List Env} {s s1 : Shared} {H : Hp} {E : XK} {us : List Value} {vs : List V}
    (S : FnScope N ps scope) (hd : A.handled = none) (e0 : Env0 P w K mg base A outer s H) (hl : vs.length = ps.length) (r : Vals vs us)
    (x : InCallC s s.heap.objs.size (bindL (envOfC qual scope s.heap.objs.size f cd).kindOf (ps.zip us) fun _ => none) (cellsFrom (s.heap.objs.size + 1) scope.names []) (bindC (envOfC qual scope s.heap.objs.size f cd).kindOf (ps.zip us) fun _ => none) s1) :
    Inv (cxOf CX P w K mg base N qual scope f cd A outer s H E) [] (start N vs) H s1 := by
  have hpl : ps.length ≤ N.length := by have := congrArg List.length S.pre; rw [List.length_take] at this; omega
  obtain ⟨h1, tk, rfl, hk⟩ := x.done
  have noA : ∀ b : Addr, b ∉ (cxOf CX P w K mg base N qual scope f cd A outer s H E).ex := fun b z => absurd (show b ∈ ([] : List Addr) from z) (by simp)
  refine ⟨⟨e0.mod, S.kind, rfl, rfl, Nat.le_refl _, fun y z c h1 h2 => ?_, fun y hy => ?_, fun y c _ h => ?_, fun _ => hd, Around.frames_deeper e0.frames, .inr ⟨rfl, rfl⟩, fun b z => absurd z (noA b), e0.bs, e0.bsz, fun b _ _ => noA b, fun b z => absurd z (noA b), e0.funs, e0.frf⟩,
    rfl, e0.bare, Un.kept hk, ⟨_, x.toInCall.ns, fun i y v h1 h2 h3 => ?_⟩, fun y c h => ⟨_, x.cell y c h⟩, e0.hok.fresh (Nat.le_refl _), fun y c h => ?_, fun p hp => absurd (show p ∈ ([] : List (Addr × Obj)) from hp) (by simp), e0.hok.kept hk, ?_⟩
  · exact name_of_addr x.apart (PySem.mem_of_lookup h1) (PySem.mem_of_lookup h2)
  · have hy : scope.names.lookup y = some .cell ∨ scope.names.lookup y = some .free := hy
    rcases hy with hy | hy
    · exact cell_has hy
    · exact absurd rfl (S.nofree _ (PySem.mem_of_lookup hy))
  · exact Nat.le_of_lt (x.above y c (PySem.mem_of_lookup h))
  · have hi : i < vs.length := by
      unfold start at h2
      by_cases hi : i < vs.length
      · exact hi
      · rw [List.getElem?_append_right (by simpa using hi)] at h2
        rw [List.getElem?_replicate] at h2
        split at h2 <;> cases h2
    have ha : vs[i]? = some v := by
      unfold start at h2
      rw [List.getElem?_append_left (by simpa using hi), List.getElem?_map] at h2
      cases e : vs[i]? with
      | none => rw [e] at h2; cases h2
      | some a => rw [e] at h2; cases h2; rfl
    obtain ⟨u, hu, rv⟩ := r.get ha
    have hp : ps[i]? = some y := by
      rw [← S.pre, List.getElem?_take_of_lt (by omega)]; exact h1
    have ndP : ps.Nodup := by rw [← S.pre]; exact S.nd.sublist (List.take_sublist _ _)
    refine ⟨u, rv, ?_⟩
    rcases S.par y (List.mem_of_getElem? hp) with k | k
    · exact .inl ⟨k, bindL_get ndP hp hu k⟩
    · obtain ⟨c, e⟩ := cell_has (n := s.heap.objs.size + 1) k
      refine .inr ⟨.inl k, c, e, ?_⟩
      have q := x.cell y c e
      rw [bindC_get ndP hp hu (by show scope.names.lookup y ≠ _; rw [k]; decide)] at q
      exact q
  · exact e0.hok.fresh (Nat.le_of_lt (x.above y c (PySem.mem_of_lookup h)))
  · unfold start
    show _ = N.length
    rw [List.length_append, List.length_map, List.length_replicate]
    omega

/-- THE RULE: a def (or a method) of the text, by its body. The body's reading t is chosen for each entry; it is run at the parameters' values -/
theorem fn_of {CX : CXT} {P : Program} {w : World} {K : PySem.W.Frag} {mg : Str → Option Value} {base : Heap} {k : Nat} {f : Addr} {name qual : Str} {params : Arguments} {body : List Stmt} {scope : Scope} {dV kV doc pm cdv ct oc : Value} {an od : Option Addr}
    {osl : Array (Option Value)} {N ps : List Str} {sp : Sp} (lk : K.lookup f = some ⟨oc, od, .func (PySem.W.fnOf name qual params body scope dV kV doc pm an cdv ct), osl⟩) (hcd : PySem.W.codeIn K cdv qual = true) (S : FnScope N ps scope)
    (len : ∀ vs H Q E, sp vs H Q E → vs.length = ps.length)
    (hbody : ∀ (A : Around) (outer : List Env) (s : Shared) (H : Hp) (vs : List V) (Q : VK) (E : XK), Room k (A.deeper (envOfC qual scope s.heap.objs.size f cdv)) → sp vs H Q E →
      ∃ t, PSs (cxOf CX P w K mg base N qual scope f cdv A outer s H E) body t ∧ t { nx := fun _ H' => Q .non H', rt := Q } (start N vs) H) :
    FnOk P w K mg base CX (k + 1) f (PySem.W.fnOf name qual params body scope dV kV doc pm an cdv ct) ps sp := by
  refine ⟨len, fun A outer s H args us vs Q E hr e0 hb r hsp => ?_⟩
  have hl := len _ _ _ _ hsp
  have KX : K.In s.heap := e0.mod.kin.keeps fun b o e => (e0.bs b o e).1
  have lim : s.heap.NoLimit := e0.mod.nolimit.keeps fun b o e => (e0.bs b o e).1
  have hkind : ∀ y ∈ ps.zip us, scope.names.lookup y.1 = some .local ∨ (scope.names.lookup y.1 = some .cell ∧ ((cellsFrom (s.heap.objs.size + 1) scope.names []).lookup y.1).isSome = true) := fun ⟨n, v⟩ hy => by
    rcases S.par n (List.of_mem_zip hy).1 with q | q
    · exact .inl q
    · exact .inr ⟨q, PySem.W.cellsFrom_some _ _ _ (.inl q)⟩
  refine codeAny_call_function hr.depth (KX _ _ lk) rfl S.co S.gen rfl (PySem.W.codeRec_of KX hcd) (hb _ _ _ _ ?_)
  refine wpAny_newFunctionEnv_cells S.kind hkind fun env he s1 x => ?_
  subst he
  refine ⟨lim.keeps x.toInCall.keep, codeAny_func ?_⟩
  obtain ⟨t, ht, hq⟩ := hbody A outer s H vs Q E (hr.deeper _) hsp
  have I : Inv (cxOf CX P w K mg base N qual scope f cdv A outer s H E) [] (start N vs) H s1 := inv_start S hr.hd e0 hl r x
  refine wpAny_mono (ht [] s1 (start N vs) H _ I hq) (fun fl s' hs => ?_) fun e s' hs => hs
  have fin : ∀ {σ' : St} {H' : Hp} {v : V} {u : Value}, Inv (cxOf CX P w K mg base N qual scope f cdv A outer s H E) [] σ' H' s' → RelV v u → Q v H' → CE outer P w H s Q u s' :=
    fun {σ' H' v u} J rv q => ⟨v, H', J.os, J.bare, J.base, J.hok, rv, q⟩
  cases fl with
  | ret u =>
    obtain ⟨v, σ', H', J, rv, q⟩ := hs
    exact fin J rv q
  | next =>
    obtain ⟨σ', H', J, q⟩ := hs
    exact fin (v := V.non) (u := Value.none) J rfl q
  | brk =>
    obtain ⟨_, _, _, q⟩ := hs
    exact False.elim q
  | cont =>
    obtain ⟨_, _, _, q⟩ := hs
    exact False.elim q
end L2

namespace L2
open PySem PySem.Spec PyProof.Rows
section
variable {X : Cx} {x : Str} {p pos : Pos} {e : Expr} {es : List Expr} {t : TA} {id T : String} {r : List V → Hp → VK → Prop}

def tCB (r : List V → Hp → VK → Prop) (t : TA) : TE := fun σ H Q => t σ H fun vs H1 => r vs H1 Q
/-- f(e, ..), f a built-in function -/
theorem pe_callB (hc : CallR X (.builtin id) r) (hg : Gl X x) (hm : X.mg x = none) (hv : bootBuiltins x = some (.builtin id)) (ha : PA X (e :: es) t) (hn : x ≠ "__name__" := by decide) (hdb : (x == ("__debug__" : Str)) = false := by decide)
    (he : starEach (e :: es) X.env = (false, eval e X.env) :: starEach es X.env := by rfl) (hpl : (backTo pos (starEach es X.env)).any (·.1) = false := by rfl) : PE X (.Call (.Name x p) (e :: es) [] pos) (tCB r t) := by
  intro pins s σ H Q I h
  refine wpAny_Call_Name_kw (ld_blt I hg hm hv ?_ hn hdb)
  exact PyProof.Rows.callWith_builtin1 (thn (ha pos pins s σ H _ I h) fun us s1 ⟨vs, H1, I1, r1, q1⟩ => hc pins s1 σ H1 vs us Q I1 r1 q1) he hpl
/-- T(e, ..), T a built-in type -/
theorem pe_callTy (hc : CallR X (.type T) r) (hg : Gl X x) (hm : X.mg x = none) (hv : bootBuiltins x = some (.type T)) (ha : PA X (e :: es) t) (hn : x ≠ "__name__" := by decide) (hdb : (x == ("__debug__" : Str)) = false := by decide)
    (he : starEach (e :: es) X.env = (false, eval e X.env) :: starEach es X.env := by rfl) (hpl : (backTo pos (starEach es X.env)).any (·.1) = false := by rfl) : PE X (.Call (.Name x p) (e :: es) [] pos) (tCB r t) := by
  intro pins s σ H Q I h
  refine wpAny_Call_Name_kw (ld_blt I hg hm hv ?_ hn hdb)
  exact PyProof.Rows.callWith_type1 (thn (ha pos pins s σ H _ I h) fun us s1 ⟨vs, H1, I1, r1, q1⟩ => hc pins s1 σ H1 vs us Q I1 r1 q1) he hpl
/-- T() -/
theorem pe_callTy0 (hc : CallR X (.type T) r) (hg : Gl X x) (hm : X.mg x = none) (hv : bootBuiltins x = some (.type T)) (hn : x ≠ "__name__" := by decide) (hdb : (x == ("__debug__" : Str)) = false := by decide) :
    PE X (.Call (.Name x p) [] [] pos) (tCB r tNil) := by
  intro pins s σ H Q I h
  refine wpAny_Call_Name_kw (ld_blt I hg hm hv ?_ hn hdb)
  exact PyProof.Rows.callWith_type0 (hc pins s σ H [] [] Q I .nil h)
end
end L2

namespace HT
open PySem PyProof.Rows

/-- t < u of tuples of ints -/
def lexLt : List Int → List Int → Bool
  | [], [] => false
  | [], _ :: _ => true
  | _ :: _, [] => false
  | x :: xs, y :: ys => if x = y then lexLt xs ys else decide (x < y)
theorem lexLt_cons (x y : Int) (xs ys : List Int) : lexLt (x :: xs) (y :: ys) = if x = y then lexLt xs ys else decide (x < y) := rfl
theorem lexLt_nil_nil : lexLt [] [] = false := rfl
theorem lexLt_nil_cons (y : Int) (ys : List Int) : lexLt [] (y :: ys) = true := rfl
theorem lexLt_cons_nil (x : Int) (xs : List Int) : lexLt (x :: xs) [] = false := rfl

theorem eqAt_int (A : Around) (s : Shared) (a : Int) (t : Tok) (c : Int) (u : Tok) : ∃ e, SeqAt.EqAt A s (.int a t) (.int c u) e ∧ (e = true ↔ a = c) :=
  ⟨(a == c), SeqAt.EqAt.int_int a t c u, by simp⟩
theorem rcLt_int (A : Around) (s : Shared) (a : Int) (t : Tok) (c : Int) (u : Tok) (prog : Program) (w : World) (E : Value → Shared → Prop) (Q : Value → Shared → Prop) (h : Q (.bool (decide (a < c))) s) :
    wpAny (model prog w) A (richCompare .Lt (.int a t) (.int c u)) Q E s :=
  (PyProof.Rows.lt_int h : wpAny (model prog w) A (compareOp .Lt (.int a t) (.int c u)) Q E s)

section
open PySem.SeqAt
open PySem.AutoSeq1 (wpAny_loadPart')
open PySem.MeetsSeq PySem.MeetsSeq2 PySem.MeetsSeq3

theorem tuple_lt_ints (l b : Addr) (items items2 : Array Value) (n n2 : Nat) (dd dd2 : Option Addr) (sl sl2 : Array (Option Value)) (ns ms : List Int) (hi : IntsAre items.toList ns) (hj : IntsAre items2.toList ms) :
    Meets (Builtin.«tuple.__lt__» ⟨[.ref l, .ref b], []⟩)
      (fun _ R s => s.heap.get? l = some { cls := .type "tuple", dict := dd, data := .seq items n, slots := sl } ∧ s.heap.get? b = some { cls := .type "tuple", dict := dd2, data := .seq items2 n2, slots := sl2 } ∧
        R (.ok (.ret (.bool (lexLt ns ms)))) s) :=
  .of_wp fun prog w A R s h => by
    obtain ⟨hp, g, d, tk, os⟩ := s; obtain ⟨hl, hb, h⟩ := h
    have f2 := AutoSeq1.sub_tuple_tuple
    have z1 : items.size = ns.length := by rw [← hi.length]; simp
    have z2 : items2.size = ms.length := by rw [← hj.length]; simp
    wp_walk using wpAny_loadPart' hl, wpAny_loadPart' hb, wpAny_forIn_list _ (fun rest b s' => b.1 = none ∧ s' = ⟨hp, g, d, tk, os⟩ ∧ ∃ (vs ws : List Value) (ns' ms' : List Int), rest = vs.zip ws ∧
      IntsAre vs ns' ∧ IntsAre ws ms' ∧ ns'.length + items2.size = ms'.length + items.size ∧ R (.ok (.ret (.bool (lexLt ns' ms')))) ⟨hp, g, d, tk, os⟩) _
    case turn =>
      rintro ⟨y, x⟩ rest b s' ⟨hb', rfl, vs, ws, ns', ms', hz, hvi, hwi, hlen, hR⟩
      cases hvi with
      | nil => rw [List.zip_nil_left] at hz; cases hz
      | cons a t hvi' =>
        cases hwi with
        | nil => rw [List.zip_nil_right] at hz; cases hz
        | cons c u hwi' =>
          rw [List.zip_cons_cons] at hz
          injection hz with hyx hrest
          injection hyx with hy hx
          subst hy hx
          rw [lexLt_cons] at hR
          simp only [List.length_cons] at hlen
          obtain ⟨e, he, hiff⟩ := eqAt_int A.in1 ⟨hp, g, d, tk, os⟩ a t c u
          refine wpAny_bind (he prog w _ _ ?_)
          cases e with
          | true =>
            rw [if_pos (hiff.mp rfl)] at hR
            wp_walk
            exact ⟨rfl, rfl, _, _, _, _, hrest, hvi', hwi', by omega, hR⟩
          | false =>
            rw [if_neg (fun q => absurd (hiff.mpr q) Bool.false_ne_true)] at hR
            have hri := rcLt_int A.in1 ⟨hp, g, d, tk, os⟩ a t c u prog w
            wp_walk using hri
            exact ⟨_, rfl, by simpa using hR⟩
    case fin =>
      rintro ⟨b1, b2⟩ s' ⟨hb', rfl, vs, ws, ns', ms', hz, hvi, hwi, hlen, hR⟩
      simp only at hb'
      subst hb'
      have hv : lexLt ns' ms' = decide (items.size < items2.size) := by
        cases hvi with
        | nil =>
          cases hwi with
          | nil =>
            simp only [List.length_nil] at hlen
            rw [lexLt_nil_nil]
            exact (decide_eq_false (by omega)).symm
          | cons c u hw =>
            simp only [List.length_nil, List.length_cons] at hlen
            rw [lexLt_nil_cons]
            exact (decide_eq_true (by omega)).symm
        | cons a t hv =>
          cases hwi with
          | nil =>
            simp only [List.length_nil, List.length_cons] at hlen
            rw [lexLt_cons_nil]
            exact (decide_eq_false (by omega)).symm
          | cons c u hw =>
            rw [List.zip_cons_cons] at hz
            cases hz
      rw [hv] at hR
      wp_walk
      exact ⟨_, rfl, by simpa [Builtin.Tuple.tupleCompareSizes] using hR⟩
    case h =>
      exact ⟨rfl, rfl, items.toList, items2.toList, ns, ms, rfl, hi, hj, by omega, h⟩
end

section
variable {prog : Program} {w : World} {A : Around} {E : Value → Shared → Prop} {s : Shared}

theorem lt_tupInts {l b : Addr} {items items2 : Array Value} {ns ms : List Int} {Q : Value → Shared → Prop} (hl : IsTup s.heap l items) (hb : IsTup s.heap b items2) (hi : IntsAre items.toList ns) (hj : IntsAre items2.toList ms)
    (hu : A.units < cLine) (h : Q (.bool (lexLt ns ms)) s) : wpAny (model prog w) A (compareOp .Lt (.ref l) (.ref b)) Q E s := by
  obtain ⟨⟨cls, dd, data, sl⟩, ho, hc, n, hd⟩ := id hl
  obtain ⟨⟨cls2, dd2, data2, sl2⟩, ho2, hc2, n2, hd2⟩ := id hb
  simp only at hc hd hc2 hd2
  subst hc hd hc2 hd2
  exact richCompare_meets_room (op := .Lt) ⟨_, ho, rfl⟩ ⟨_, ho2, rfl⟩ PySem.F.slot_tuple_lt PySem.F.entry_tuple_lt (PySem.F.args_tuple_lt_2 _ _) (tuple_lt_ints l b items items2 n n2 dd dd2 sl sl2 ns ms hi hj)
    ⟨ho, ho2, show Value.bool (lexLt ns ms) ≠ Value.notImplemented ∧ Q (.bool (lexLt ns ms)) s from ⟨(fun x => nomatch x), h⟩⟩ hu

/-- t + u, t not empty -/
theorem cat_tup {t b : Addr} {vs ws : List Value} {Q : Value → Shared → Prop} (ht : IsTup s.heap t vs.toArray) (hb : IsTup s.heap b ws.toArray) (hv : vs ≠ [])
    (h1 : ws = [] → Q (.ref t) s) (h2 : ws ≠ [] → Q (.ref s.heap.objs.size) { s with heap := s.heap.push { cls := .type "tuple", data := .seq (vs ++ ws).toArray } })
    (hsz : vs.length + ws.length ≤ sizeLine) : wpAny (model prog w) A (binaryOp .Add (.ref t) (.ref b)) Q E s := by
  obtain ⟨⟨cls, dd, data, sl⟩, ho, hc, n, hd⟩ := id ht
  obtain ⟨⟨cls2, dd2, data2, sl2⟩, ho2, hc2, n2, hd2⟩ := id hb
  simp only at hc hd hc2 hd2
  subst hc hd hc2 hd2
  have e : vs.toArray ++ ws.toArray = (vs ++ ws).toArray := by simp
  by_cases hw : ws = []
  · exact concat_meets ⟨_, ho, rfl⟩ ⟨_, ho2, rfl⟩ noFill_tuple_add seq_tuple_add PySem.F.slot_tuple_add PySem.F.entry_tuple_add (PySem.F.args_tuple_add_2 _ _)
      (tuple_addW1 t b vs.toArray ws.toArray n n2 dd dd2 sl sl2 (by simpa using hv) (by simp [hw])) ⟨ho, ho2, h1 hw⟩
  · refine concat_meets ⟨_, ho, rfl⟩ ⟨_, ho2, rfl⟩ noFill_tuple_add seq_tuple_add PySem.F.slot_tuple_add PySem.F.entry_tuple_add (PySem.F.args_tuple_add_2 _ _)
      (tuple_addW2 t b vs.toArray ws.toArray n n2 dd dd2 sl sl2 (by simpa using hv) (by simpa using hw) (by rw [List.size_toArray, List.size_toArray]; exact hsz)) ⟨ho, ho2, ?_⟩
    rw [e]
    exact h2 hw

/-! ### t[a:b], not the whole -/
/-- a slice's bound as a place among n (d where it is left out) -/
def sIx (n d : Nat) : Option Int → Nat
  | none => d
  | some v => if v < 0 then (v + (n : Int)).toNat else min v.toNat n
theorem sIx_none (n d : Nat) : sIx n d none = d := rfl
theorem sIx_nat (n d k : Nat) : sIx n d (some (k : Int)) = min k n := by
  show (if (k : Int) < 0 then ((k : Int) + (n : Int)).toNat else min (k : Int).toNat n) = min k n
  rw [if_neg (by omega), Int.toNat_natCast]
theorem sIx_le (n d : Nat) (hd : d ≤ n) (o : Option Int) : sIx n d o ≤ n := by
  cases o with
  | none => exact hd
  | some v =>
    show (if v < 0 then (v + (n : Int)).toNat else min v.toNat n) ≤ n
    by_cases hv : v < 0
    · rw [if_pos hv]; omega
    · rw [if_neg hv]; exact Nat.min_le_right _ _
theorem clip_eq (v : Int) (n d : Nat) : (if v < 0 then max (v + (n : Int)) 0 else min v (n : Int)) = ((sIx n d (some v) : Nat) : Int) := by
  show (if v < 0 then max (v + (n : Int)) 0 else min v (n : Int)) = (((if v < 0 then (v + (n : Int)).toNat else min v.toNat n) : Nat) : Int)
  by_cases hv : v < 0
  · simp only [if_pos hv]; omega
  · simp only [if_neg hv]; omega
theorem adjust_gen (lo hi : Option Int) (n : Nat) : Builtin.Slice.sliceAdjust lo hi 1 (n : Int) = (((sIx n 0 lo : Nat) : Int), ((sIx n n hi : Nat) : Int)) := by
  have h1 : ¬ ((1 : Int) < 0) := by omega
  unfold Builtin.Slice.sliceAdjust
  simp only [h1, if_false]
  refine Prod.ext ?_ ?_
  · cases lo with
    | none => rfl
    | some v => exact clip_eq v n 0
  · cases hi with
    | none => rfl
    | some v => exact clip_eq v n n
theorem places_gen (i j : Nat) : Builtin.Slice.slicePlaces (i : Int) (j : Int) 1 = j - i := by
  unfold Builtin.Slice.slicePlaces
  have h1 : (1 : Int) > 0 := by omega
  simp only [h1, if_true, Int.ediv_one]
  split <;> omega
theorem slicePart_ {v : Value} {o : Option Int} {Q : Option Int → Shared → Prop} (p : IsPart v o) (h : Q o s) : wpAny (model prog w) A (Builtin.Slice.slicePartIndex v) Q E s := by
  cases p with
  | none => exact slicePart_none h
  | int i t => exact slicePart_int h
theorem sliceApplied_gen {sl : Addr} {vl vu : Value} {lo hi : Option Int} {n : Nat} {Q : Int × Int × Nat → Shared → Prop} (hs : s.heap.IsSliceOf sl vl vu .none) (pl : IsPart vl lo) (pu : IsPart vu hi)
    (h : Q (((sIx n 0 lo : Nat) : Int), 1, sIx n n hi - sIx n 0 lo) s) : wpAny (model prog w) A (Builtin.Slice.sliceApplied (.ref sl) (pure (n : Int))) Q E s := by
  obtain ⟨os, hos, hcs, hds⟩ := id hs
  unfold Builtin.Slice.sliceApplied Builtin.Slice.sliceFields
  refine wpAny_bind (wpAny_bind (wpAny_field hos hds (x := vl) rfl (wpAny_bind (wpAny_field hos hds (x := vu) rfl (wpAny_bind (wpAny_field hos hds (x := .none) rfl (wpAny_pure ?_)))))))
  refine wpAny_bind (slicePart_none ?_)
  show wpAny _ _ (if ((1 : Int) == 0) = true then _ else _) _ _ s
  rw [if_neg (by decide)]
  refine wpAny_bind (slicePart_ pl (wpAny_bind (slicePart_ pu (wpAny_bind (wpAny_pure ?_)))))
  show wpAny _ _ (match Builtin.Slice.sliceAdjust lo hi 1 (n : Int) with | (lo, hi) => pure (lo, (1 : Int), Builtin.Slice.slicePlaces lo hi 1)) _ _ s
  rw [adjust_gen lo hi n]
  show wpAny _ _ (pure (((sIx n 0 lo : Nat) : Int), (1 : Int), Builtin.Slice.slicePlaces ((sIx n 0 lo : Nat) : Int) ((sIx n n hi : Nat) : Int) 1)) _ _ s
  rw [places_gen]
  exact wpAny_pure h
theorem pick_gen (xs : Array Value) (i k : Nat) : ((List.range k).filterMap fun (m : Nat) => xs[((i : Int) + (m : Int) * 1).toNat]?).toArray = ((xs.toList.drop i).take k).toArray := by
  have e : (fun (m : Nat) => xs[((i : Int) + (m : Int) * 1).toNat]?) = fun m => xs[i + m]? := by
    funext m
    have : ((i : Int) + (m : Int) * 1).toNat = i + m := by omega
    rw [this]
  rw [e]
  have := pick_run xs i k
  rw [List.filterMap_map] at this
  have e2 : ((fun x => xs[x]?) ∘ fun x => i + x) = fun m => xs[i + m]? := rfl
  rw [e2] at this
  rw [this]

theorem getItem_tuple_cut {t sl : Addr} {items : Array Value} {vl vu : Value} {lo hi : Option Int} {Q : Value → Shared → Prop} (ht : IsTup s.heap t items) (hs : s.heap.IsSliceOf sl vl vu .none) (pl : IsPart vl lo) (pu : IsPart vu hi)
    (hw : ¬ (sIx items.size 0 lo = 0 ∧ sIx items.size items.size hi = items.size))
    (h : Q (.ref s.heap.objs.size) { s with heap := s.heap.push { cls := .type "tuple", data := .seq ((items.toList.drop (sIx items.size 0 lo)).take (sIx items.size items.size hi - sIx items.size 0 lo)).toArray } })
    (hsz : items.size ≤ sizeLine) : wpAny (model prog w) A (getItem (.ref t) (.ref sl)) Q E s := by
  have htake : sizeOk (.seq ((items.toList.drop (sIx items.size 0 lo)).take (sIx items.size items.size hi - sIx items.size 0 lo)).toArray) := by
    show ((items.toList.drop (sIx items.size 0 lo)).take (sIx items.size items.size hi - sIx items.size 0 lo)).toArray.size ≤ sizeLine
    rw [List.size_toArray, List.length_take, List.length_drop, Array.length_toList]
    omega
  have hj : sIx items.size items.size hi ≤ items.size := sIx_le _ _ (Nat.le_refl _) hi
  obtain ⟨os, hos, hcs, hds⟩ := id hs
  have hTs : s.TypeIs (.ref sl) "slice" := ⟨os, hos, hcs⟩
  unfold getItem
  try with_reducible refine wpAny_holding ?_
  first | refine wpAny_bind (wpAny_pure ?_) | skip
  refine wpAny_bind (wpAny_sequenceKey ht.typeIs (by decide) ?_)
  refine wpAny_bind (wpAny_callSpecial?_slot (name := Str.ofString "__getitem__") ht.typeIs PyProof.Rows.slot_tuple_getitem
    (wpAny_call_entry PyProof.Rows.slot_tuple_getitem ht.typeIs entry_tuple_getitem ?_ (args_tuple_getitem _ _)))
  show wpAny _ _ (Builtin.Tuple.tupleItemsOf (.ref t) >>= _) _ _ s
  refine wpAny_bind (tupleItemsOf_ ht ?_)
  refine wpAny_bind (wpAny_typeOf hTs ?_)
  rw [if_pos (by decide)]
  refine wpAny_bind (sliceApplied_gen hs pl pu ?_)
  have hno : ¬ ((((sIx items.size 0 lo : Nat) : Int) == 0 && (1 : Int) == 1 && (sIx items.size items.size hi - sIx items.size 0 lo) == items.size) = true) := by
    intro q
    rw [Bool.and_eq_true, Bool.and_eq_true] at q
    have q1 : ((sIx items.size 0 lo : Nat) : Int) = 0 := eq_of_beq q.1.1
    have q2 : sIx items.size items.size hi - sIx items.size 0 lo = items.size := eq_of_beq q.2
    exact hw ⟨by omega, by omega⟩
  show wpAny _ _ (if (((sIx items.size 0 lo : Nat) : Int) == 0 && (1 : Int) == 1 && (sIx items.size items.size hi - sIx items.size 0 lo) == items.size) = true then _ else _) _ _ s
  rw [if_neg hno, pick_gen]
  first
    | exact wpAny_bind (m := Builtin.Tuple.tupleExact _) (wpAny_newObj_type (wpAny_pure ⟨_, rfl, wpAny_pure h⟩) htake)
    | exact wpAny_bind (m := Builtin.Tuple.tupleExact _) (wpAny_newObj_type (wpAny_bind (wpAny_pure (wpAny_pure ⟨_, rfl, wpAny_pure h⟩))) htake)
    | exact wpAny_bind (wpAny_bind (m := Builtin.Tuple.tupleExact _) (wpAny_newObj_type (wpAny_pure (wpAny_pure ⟨_, rfl, wpAny_pure h⟩)) htake))
    | exact wpAny_bind (wpAny_bind (m := Builtin.Tuple.tupleExact _) (wpAny_newObj_type (wpAny_pure ⟨_, rfl, wpAny_pure h⟩) htake))
end
end HT

namespace L2
open PySem PySem.Spec PyProof.Rows

/-! ### the parts of a slice -/
abbrev TO := St → Hp → (Option Int → Hp → Prop) → Prop
/-- a slice's part (left out, or an int) -/
def PO (X : Cx) (e : Option Expr) (t : TO) : Prop :=
  ∀ (pins : List (Addr × Obj)) (s : Shared) (σ : St) (H : Hp) (Q : Option Int → Hp → Prop), Inv X pins σ H s → t σ H Q →
    wpAny (model X.prog X.w) X.A (evalPart e X.env) (fun u s' => ∃ o H', Inv X pins σ H' s' ∧ IsPart u o ∧ Q o H') X.xe s
def tNoPart : TO := fun _ H Q => Q none H
def tPart (t : TE) : TO := fun σ H Q => t σ H fun x H1 => ∃ i, x = .int i ∧ Q (some i) H1

theorem intsAre_of {ns : List Int} : ∀ {us : List Value}, Vals (ns.map V.int) us → IntsAre us ns := by
  induction ns with
  | nil => intro us r; rw [List.map_nil] at r; cases r; exact .nil
  | cons n ns ih =>
    intro us r
    rw [List.map_cons] at r
    cases r with
    | cons r1 r2 =>
      obtain ⟨t, e⟩ := r1
      subst e
      exact .cons n t (ih r2)

section
variable {X : Cx} {e : Expr} {te : TE} {lo hi : Option Expr} {tl th : TO} {pos p2 : Pos}

theorem po_none : PO X none tNoPart := by
  intro pins s σ H Q I h
  rw [evalPart_none]
  exact wpAny_pure ⟨none, H, I, .none, h⟩
theorem po_some (h : PE X e te) : PO X (some e) (tPart te) := by
  intro pins s σ H Q I hw
  rw [evalPart_some]
  refine thn (h pins s σ H _ I hw) fun u s1 ⟨x, H1, I1, r1, q1⟩ => ?_
  obtain ⟨i, rfl, q⟩ := q1
  obtain ⟨t, rfl⟩ := r1
  exact ⟨some i, H1, I1, .int i t, q⟩

/-- what a slice of a value is, by values: the slice object stands at sl -/
def SlR (X : Cx) (r : V → Option Int → Option Int → Hp → VK → Prop) : Prop :=
  ∀ (pins : List (Addr × Obj)) (s : Shared) (σ : St) (H : Hp) (x : V) (v vl vu : Value) (lo hi : Option Int) (sl : Addr) (Q : VK), Inv X pins σ H s → RelV x v → s.heap.IsSliceOf sl vl vu .none → IsPart vl lo → IsPart vu hi → r x lo hi H Q →
    ∃ T id, typeLookup (.type T) "__getitem__" = pure (some (.builtin id)) ∧ s.TypeIs v T ∧ wpAny (model X.prog X.w) X.A (getItem v (.ref sl)) (EP X pins σ Q) X.xe s
theorem SlR.or {r r' : V → Option Int → Option Int → Hp → VK → Prop} (h : SlR X r) (h' : SlR X r') : SlR X (fun x lo hi H Q => r x lo hi H Q ∨ r' x lo hi H Q) := by
  intro pins s σ H x v vl vu lo hi sl Q I rx hs pl pu q
  rcases q with q | q
  · exact h pins s σ H x v vl vu lo hi sl Q I rx hs pl pu q
  · exact h' pins s σ H x v vl vu lo hi sl Q I rx hs pl pu q
def tSl (r : V → Option Int → Option Int → Hp → VK → Prop) (te : TE) (tl th : TO) : TE := fun σ H Q => te σ H fun x H1 => tl σ H1 fun l H2 => th σ H2 fun u H3 => r x l u H3 Q
/-- a[lo:hi], any a -/
theorem pe_slice {r : V → Option Int → Option Int → Hp → VK → Prop} (hr : SlR X r) (he : PE X e te) (hl : PO X lo tl) (hu : PO X hi th) : PE X (.Subscript e (.Slice lo hi none p2) pos) (tSl r te tl th) := by
  intro pins s σ H Q I h
  refine Subscript_ (thn (he pins s σ H _ I h) fun v s1 ⟨x, H1, I1, r1, q1⟩ => ?_)
  refine wpAny_Slice (thn (hl pins s1 σ H1 _ I1 q1) fun vl s2 ⟨l, H2, I2, pl, q2⟩ => thn (hu pins s2 σ H2 _ I2 q2) fun vu s3 ⟨u, H3, I3, pu, q3⟩ => ?_)
  rw [evalPart_none]
  refine wpAny_pure ?_
  have I4 : Inv X pins σ H3 { s3 with heap := s3.heap.push { cls := .type "slice", data := .fields #[vl, vu, .none] } } := I3.kept (t' := s3.toks) fun b ob q => Heap.get?_push_of_some _ q
  obtain ⟨T, id, hT, ht, hg⟩ := hr pins { s3 with heap := s3.heap.push { cls := .type "slice", data := .fields #[vl, vu, .none] } } σ H3 x v vl vu l u s3.heap.objs.size Q I4 r1 (Heap.IsSliceOf.new ..) pl pu q3
  show wpAny (model X.prog X.w) X.A (subscriptTail e (.Slice lo hi none p2) v (.ref s3.heap.objs.size)) (EP X pins σ Q) X.xe { s3 with heap := s3.heap.push { cls := .type "slice", data := .fields #[vl, vu, .none] } }
  exact tail_any (ops := [.ref s3.heap.objs.size, v]) ht hT hg (by with_unfolding_all rfl)

/-- the items of xs[lo:hi] -/
def cutV (xs : List V) (lo hi : Option Int) : List V := (xs.drop (HT.sIx xs.length 0 lo)).take (HT.sIx xs.length xs.length hi - HT.sIx xs.length 0 lo)
theorem cutV_length (xs : List V) (lo hi : Option Int) : (cutV xs lo hi).length ≤ xs.length := by
  unfold cutV
  rw [List.length_take, List.length_drop]
  omega
/-- t[lo:hi], not the whole of it (the whole would be t itself) -/
def rSlT (K : PySem.W.Frag) : V → Option Int → Option Int → Hp → VK → Prop := fun x lo hi H Q => ∃ a xs, x = .ref a ∧ SqT K H a xs ∧
  ¬ (HT.sIx xs.length 0 lo = 0 ∧ HT.sIx xs.length xs.length hi = xs.length) ∧ ∀ p, H p = none → Q (.ref p) (upd H p (.tup (cutV xs lo hi)))
theorem sl_tup : SlR X (rSlT X.K) := by
  intro pins s σ H x v vl vu lo hi sl Q I rx hs pl pu h
  obtain ⟨a, xs, rfl, hx, hw, q⟩ := h
  cases rx
  obtain ⟨its, r, ht, hz⟩ := I.tuple hx
  have hlen : its.toArray.size = xs.length := by rw [List.size_toArray]; exact r.length.symm
  refine ⟨"tuple", _, PyProof.Rows.slot_tuple_getitem.lookup, ht.typeIs, ?_⟩
  refine HT.getItem_tuple_cut ht hs pl pu (by rw [hlen]; exact hw) ?_ (by rw [hlen]; exact hz)
  rw [hlen]
  refine ⟨.ref s.heap.objs.size, _, I.laid (t' := s.toks) (o := .tup (cutV xs lo hi)) (fun b ob q => Heap.get?_push_of_some _ q) (Nat.le_refl _) ?_, rfl, q _ (I.hok.fresh (Nat.le_refl _))⟩
  exact ⟨Nat.le_trans (cutV_length xs lo hi) hz, _, (r.drop (HT.sIx xs.length 0 lo)).take (HT.sIx xs.length xs.length hi - HT.sIx xs.length 0 lo), IsTup.new _ _⟩

/-! ### t < u, t + u -/
def rLtT (K : PySem.W.Frag) : R2 := fun x y H Q => ∃ a b ns ms, x = .ref a ∧ y = .ref b ∧ SqT K H a (ns.map V.int) ∧ SqT K H b (ms.map V.int) ∧ Q (.bl (HT.lexLt ns ms)) H
theorem op_ltT (hu : X.A.units < cLine) : OpR X (compareOp .Lt) (rLtT X.K) := by
  intro pins s σ H x y v u Q I rx ry h
  obtain ⟨a, b, ns, ms, rfl, rfl, ha, hb, q⟩ := h
  cases rx
  cases ry
  obtain ⟨its, r1, p1, _⟩ := I.tuple ha
  obtain ⟨its2, r2, p2, _⟩ := I.tuple hb
  have i1 : IntsAre its.toArray.toList ns := intsAre_of r1
  have i2 : IntsAre its2.toArray.toList ms := intsAre_of r2
  exact HT.lt_tupInts p1 p2 i1 i2 hu ⟨.bl (HT.lexLt ns ms), H, I, rfl, q⟩
/-- t + u, t not empty: u empty gives t itself -/
def rCatT (K : PySem.W.Frag) : R2 := fun x y H Q => ∃ a b xs ys, x = .ref a ∧ y = .ref b ∧ SqT K H a xs ∧ SqT K H b ys ∧ xs ≠ [] ∧ xs.length + ys.length ≤ sizeLine ∧
  (ys = [] → Q (.ref a) H) ∧ (ys ≠ [] → ∀ p, H p = none → Q (.ref p) (upd H p (.tup (xs ++ ys))))
theorem Vals.nil_iff {xs : List V} {us : List Value} (r : Vals xs us) : us = [] ↔ xs = [] := by
  cases r with
  | nil => simp
  | cons _ _ => simp
theorem op_catT : OpR X (binaryOp .Add) (rCatT X.K) := by
  intro pins s σ H x y v u Q I rx ry h
  obtain ⟨a, b, xs, ys, rfl, rfl, ha, hb, hx, hz, q1, q2⟩ := h
  cases rx
  cases ry
  obtain ⟨its, r1, p1, _⟩ := I.tuple ha
  obtain ⟨its2, r2, p2, _⟩ := I.tuple hb
  refine HT.cat_tup p1 p2 (fun z => hx (r1.nil_iff.mp z)) (fun z => ⟨.ref a, H, I, rfl, q1 (r2.nil_iff.mp z)⟩) (fun z => ?_) (by rw [← r1.length, ← r2.length]; exact hz)
  refine ⟨.ref s.heap.objs.size, _, I.laid (t' := s.toks) (o := .tup (xs ++ ys)) (fun b ob q => Heap.get?_push_of_some _ q) (Nat.le_refl _) ?_, rfl, q2 (fun w => z (r2.nil_iff.mpr w)) _ (I.hok.fresh (Nat.le_refl _))⟩
  exact ⟨by rw [List.length_append]; exact hz, _, r1.append r2, IsTup.new _ _⟩
/-- tuple(t) -/
theorem call_tupleT : CallR X (.type "tuple") (fun xs H Q => ∃ a ys, xs = [.ref a] ∧ SqT X.K H a ys ∧ Q (.ref a) H) := by
  intro pins s σ H xs us Q I r h
  obtain ⟨a, ys, rfl, ha, q⟩ := h
  obtain ⟨u, rfl, ru⟩ := vals1 r
  cases ru
  obtain ⟨its, _, p1, _⟩ := I.tuple ha
  exact call_tuple_same (items := its.toArray) p1 ⟨.ref a, H, I, rfl, q⟩
end
end L2

namespace L2
open PySem PySem.Spec PyProof.Rows

/-! ### places -/
/-- the place that an index of any sign means -/
def ixN (n : Nat) (i : Int) : Option Nat := if 0 ≤ i then (if i < n then some i.toNat else none) else if -(n : Int) ≤ i then some (i + n).toNat else none
def atI {α : Type} (xs : List α) (i : Int) : Option α := (ixN xs.length i).bind fun j => xs[j]?
theorem ixN_seq {n : Nat} {i : Int} {j : Nat} (h : ixN n i = some j) : seqIndex? i n = some j ∧ j < n ∧ -(n : Int) ≤ i ∧ i < n := by
  unfold ixN at h
  by_cases h0 : 0 ≤ i
  · rw [if_pos h0] at h
    by_cases h1 : i < n
    · rw [if_pos h1] at h
      have e : i.toNat = j := Option.some.inj h
      exact ⟨by rw [seqIndex_of h0 h1, e], by omega, by omega, h1⟩
    · rw [if_neg h1] at h; cases h
  · rw [if_neg h0] at h
    by_cases h1 : -(n : Int) ≤ i
    · rw [if_pos h1] at h
      have e : (i + n).toNat = j := Option.some.inj h
      exact ⟨by rw [seqIndex_neg (by omega) h1, e], by omega, h1, by omega⟩
    · rw [if_neg h1] at h; cases h
theorem atI_get {α : Type} {xs : List α} {i : Int} {v : α} (h : atI xs i = some v) : ∃ j, seqIndex? i xs.length = some j ∧ xs[j]? = some v ∧ j < xs.length ∧ -(xs.length : Int) ≤ i ∧ i < xs.length := by
  unfold atI at h
  cases e : ixN xs.length i with
  | none => rw [e] at h; cases h
  | some j =>
    rw [e] at h
    obtain ⟨h1, h2, h3, h4⟩ := ixN_seq e
    exact ⟨j, h1, h, h2, h3, h4⟩
theorem atI_nat {α : Type} {xs : List α} {j : Nat} {v : α} (h : xs[j]? = some v) : atI xs (j : Int) = some v := by
  have hj : j < xs.length := (List.getElem?_eq_some_iff.mp h).1
  have e : ixN xs.length (j : Int) = some j := by
    unfold ixN
    rw [if_pos (by omega), if_pos (by omega)]; simp
  unfold atI; rw [e]; exact h
theorem atI_last {α : Type} (xs : List α) (v : α) : atI (xs ++ [v]) (-1) = some v := by
  have hl : (xs ++ [v]).length = xs.length + 1 := by simp
  have e : ixN (xs ++ [v]).length (-1) = some xs.length := by
    unfold ixN
    rw [hl, if_neg (by decide), if_pos (by omega)]
    congr 1
    omega
  unfold atI
  rw [e]
  show (xs ++ [v])[xs.length]? = some v
  simp

/-! ### what may be subscripted -/
/-- what stands as an index of a plain subscript -/
def PlainIx (b : Expr) : Prop := ∀ o i, subscripted b false o i = operate [o, i] (getItem o i)
/-- a subscript by values -/
def IxR (X : Cx) (r : R2) : Prop :=
  ∀ (value slice : Expr) (pins : List (Addr × Obj)) (s : Shared) (σ : St) (H : Hp) (x y : V) (v u : Value) (Q : VK), Inv X pins σ H s → RelV x v → RelV y u → r x y H Q →
    subscripted slice false v u = operate [v, u] (getItem v u) → wpAny (model X.prog X.w) X.A (subscriptTail value slice v u) (EP X pins σ Q) X.xe s
/-- a call of a builtin's method by values: the receiver, the arguments -/
def MtR (X : Cx) (id : String) (r : V → List V → Hp → VK → Prop) : Prop :=
  ∀ (pins : List (Addr × Obj)) (s : Shared) (σ : St) (H : Hp) (x : V) (xs : List V) (v : Value) (us : List Value) (Q : VK), Inv X pins σ H s → RelV x v → Vals xs us → r x xs H Q →
    wpAny (model X.prog X.w) X.A (call (.builtin id) (v :: us)) (EP X pins σ Q) X.xe s
section
variable {X : Cx} {a b : Expr} {ta tb : TE} {pos : Pos}
theorem IxR.or {r r' : R2} (h : IxR X r) (h' : IxR X r') : IxR X (fun x y H Q => r x y H Q ∨ r' x y H Q) := by
  intro value slice pins s σ H x y v u Q I rx ry q hs
  rcases q with q | q
  · exact h value slice pins s σ H x y v u Q I rx ry q hs
  · exact h' value slice pins s σ H x y v u Q I rx ry q hs
theorem MtR.or {id : String} {r r' : V → List V → Hp → VK → Prop} (h : MtR X id r) (h' : MtR X id r') : MtR X id (fun x xs H Q => r x xs H Q ∨ r' x xs H Q) := by
  intro pins s σ H x xs v us Q I rx rs q
  rcases q with q | q
  · exact h pins s σ H x xs v us Q I rx rs q
  · exact h' pins s σ H x xs v us Q I rx rs q
/-- a[b] -/
theorem pe_ix {r : R2} (hr : IxR X r) (ha : PE X a ta) (hb : PE X b tb) (hs : PlainIx b) : PE X (.Subscript a b pos) (tOp r ta tb) := by
  intro pins s σ H Q I h
  exact Subscript_ (binT ha hb I h fun v u s2 x y H2 I2 rx ry q => hr a b pins s2 σ H2 x y v u Q I2 rx ry q (hs _ _))

def rIxL (K : PySem.W.Frag) : R2 := fun x y H Q => ∃ p xs i v, x = .ref p ∧ y = .int i ∧ SqL K H p xs ∧ atI xs i = some v ∧ Q v H
def rIxT (K : PySem.W.Frag) : R2 := fun x y H Q => ∃ p xs i v, x = .ref p ∧ y = .int i ∧ SqT K H p xs ∧ atI xs i = some v ∧ Q v H
def rIxS : R2 := fun x y H Q => ∃ z i c, x = .str z ∧ y = .int i ∧ z.length ≤ sizeLine ∧ atI z.cps.toList i = some c ∧ Q (.str ⟨#[c]⟩) H
theorem ix_list : IxR X (rIxL X.K) := by
  intro value slice pins s σ H x y v u Q I rx ry h hs
  obtain ⟨p, xs, i, z, rfl, rfl, hq, he, q⟩ := h
  cases rx
  obtain ⟨t, rfl⟩ := ry
  obtain ⟨its, r, pl, hz⟩ := I.list hq
  obtain ⟨j, h1, h2, h3, h4, h5⟩ := atI_get he
  obtain ⟨w, ew, rw'⟩ := r.get h2
  have hl := r.length
  have hn := line63
  have fin : EP X pins σ Q w s := ⟨z, H, I, rw', q⟩
  by_cases h0 : 0 ≤ i
  · have hj : i.toNat = j := by
      rw [seqIndex_of h0 h5] at h1
      exact Option.some.inj h1
    exact item_listR pl.isList h0 (by omega) (by rw [hj]; simpa using ew) fin hs
  · have hj : (i + (its.toArray.size : Int)).toNat = j := by
      rw [seqIndex_neg (by omega) h4] at h1
      rw [List.size_toArray, ← hl]
      exact Option.some.inj h1
    exact subscriptTail_builtinR (x := w) pl.isList.typeIs slot_list_getitem.lookup
      (wpAny_getItem_list_neg (Q := fun r s' => r = w ∧ EP X pins σ Q r s') pl.isList (by omega) (by rw [List.size_toArray] <;> omega) (by omega) (by rw [hj]; simpa using ew) ⟨rfl, fin⟩) hs
theorem ix_tup : IxR X (rIxT X.K) := by
  intro value slice pins s σ H x y v u Q I rx ry h hs
  obtain ⟨p, xs, i, z, rfl, rfl, hq, he, q⟩ := h
  cases rx
  obtain ⟨t, rfl⟩ := ry
  obtain ⟨its, r, pl, hz⟩ := I.tuple hq
  obtain ⟨j, h1, h2, h3, h4, h5⟩ := atI_get he
  obtain ⟨w, ew, rw'⟩ := r.get h2
  have hl := r.length
  have hn := line63
  have fin : EP X pins σ Q w s := ⟨z, H, I, rw', q⟩
  exact subscriptTail_builtinR (x := w) pl.typeIs slot_tuple_getitem.lookup
    (getItem_tuple (j := j) (Q := fun r s' => r = w ∧ EP X pins σ Q r s') pl (by omega) (by omega) (by rw [List.size_toArray, ← hl]; exact h1) (by simpa using ew) ⟨rfl, fin⟩) hs
theorem ix_str : IxR X rIxS := by
  intro value slice pins s σ H x y v u Q I rx ry h hs
  obtain ⟨z, i, c, rfl, rfl, hz, he, q⟩ := h
  obtain ⟨t, rfl⟩ := rx
  obtain ⟨t', rfl⟩ := ry
  obtain ⟨j, h1, h2, h3, h4, h5⟩ := atI_get he
  have hl : z.cps.toList.length = z.length := by simp [Str.length]
  rw [hl] at h1 h4 h5
  have hn := line63
  exact tail_any (typeIs_str s z t) slot_str_getitem.lookup (getItem_str (c := c) (by
    have e1 : decide (i < -(2 ^ 63 : Int)) = false := decide_eq_false (by omega)
    have e2 : decide (i ≥ 2 ^ 63) = false := decide_eq_false (by omega)
    rw [e1, e2, Bool.or_false]) (by rw [h1]; simpa using h2) ⟨.str ⟨#[c]⟩, H, I.tok _, ⟨_, rfl⟩, q⟩) hs
/-- list, tuple or str -/
def rIx (K : PySem.W.Frag) : R2 := fun x y H Q => rIxL K x y H Q ∨ rIxT K x y H Q ∨ rIxS x y H Q
theorem ix_seq : IxR X (rIx X.K) := ix_list.or (ix_tup.or ix_str)

/-! ### xs[i] = v, any sign -/
/-- the list's object behind a store -/
theorem mapSeq_set (its : List Value) (n j : Nat) (u : Value) : Obj.mapSeq (·.setIfInBounds j u) { cls := .type "list", data := .seq its.toArray n } = { cls := .type "list", data := .seq (its.set j u).toArray n } := by
  simp [Obj.mapSeq]
theorem Inv.lst {pins : List (Addr × Obj)} {σ : St} {H : Hp} {s : Shared} {p : Addr} {xs : List V} (I : Inv X pins σ H s) (h : H p = some (.lst xs)) :
    ∃ (its : List Value) (n : Nat), Vals xs its ∧ s.heap.get? p = some { cls := .type "list", data := .seq its.toArray n } ∧ xs.length ≤ sizeLine := by
  obtain ⟨z, its, n, r, e⟩ := I.hok p _ h
  exact ⟨its, n, r, e, z⟩
/-- the list at p is written by an update of its object -/
theorem Inv.lstUpd {pins : List (Addr × Obj)} {σ : St} {H : Hp} {s : Shared} {p : Addr} {xs ys : List V} {its its' : List Value} {n n' : Nat} {f : Obj → Obj} (I : Inv X pins σ H s) (h : H p = some (.lst xs))
    (ho : s.heap.get? p = some { cls := .type "list", data := .seq its.toArray n }) (hf : f { cls := .type "list", data := .seq its.toArray n } = { cls := .type "list", data := .seq its'.toArray n' }) (r : Vals ys its') (hz : ys.length ≤ sizeLine) (t : Nat) :
    Inv X pins σ (upd H p (.lst ys)) { s with heap := s.heap.update p f, toks := t } := by
  have e : (s.heap.update p f).get? p = some { cls := .type "list", data := .seq its'.toArray n' } := by
    rw [Heap.get?_update_self f ho (by rw [hf] <;> rfl), hf]
  refine I.write (x := p) (e := p) (by rw [h]; trivial) (.inl rfl) (fun b u hb q => (Heap.get?_update_other _ _ (Ne.symm hb)).trans q) ⟨_, e⟩ ?_
  exact ⟨hz, its', n', r, e⟩
def rSetL : V → V → V → Hp → (Hp → Prop) → Prop := fun o i v H Q => ∃ p xs k j, o = .ref p ∧ i = .int k ∧ H p = some (.lst xs) ∧ ixN xs.length k = some j ∧ Q (upd H p (.lst (xs.set j v)))
theorem set_list : PSet X rSetL := by
  intro pins s σ H o i v ov iv u Q I ro ri rv h
  obtain ⟨p, xs, k, j, rfl, rfl, hp, hj, q⟩ := h
  cases ro
  obtain ⟨t, rfl⟩ := ri
  obtain ⟨its, n, r, ho, hz⟩ := I.lst hp
  obtain ⟨h1, h2, h3, h4⟩ := ixN_seq hj
  have hl := r.length
  have hn := line63
  have I' : Inv X pins σ (upd H p (.lst (xs.set j v))) { s with heap := s.heap.update p (Obj.mapSeq (·.setIfInBounds j u)) } :=
    I.lstUpd hp ho (mapSeq_set its n j u) (r.set rv j) (by rw [List.length_set]; exact hz) s.toks
  by_cases h0 : 0 ≤ k
  · have hk : k.toNat = j := by
      rw [seqIndex_of h0 h4] at h1
      exact Option.some.inj h1
    exact PySem.W.ki_setAt ho h0 (by omega) (by rw [List.size_toArray, ← hl]; exact h4) (by rw [hk]; exact ⟨_, I', q⟩)
  · have hk : (k + (its.toArray.size : Int)).toNat = j := by
      rw [seqIndex_neg (by omega) h3] at h1
      rw [List.size_toArray, ← hl]
      exact Option.some.inj h1
    exact PySem.W.ki_setBack ho (by omega) (by rw [List.size_toArray, ← hl]; exact h3) (by omega) (by rw [hk]; exact ⟨_, I', q⟩)

/-! ### slices -/
theorem slice_bounds (lo hi : Option Int) (n : Nat) : (sliceBounds lo hi none n).1 = ((HT.sIx n 0 lo : Nat) : Int) ∧ (sliceBounds lo hi none n).2.1 = ((HT.sIx n n hi : Nat) : Int) ∧ (sliceBounds lo hi none n).2.2 = 1 := by
  refine ⟨?_, ?_, rfl⟩
  · cases lo with
    | none => simp [sliceBounds, HT.sIx]
    | some i =>
      simp only [sliceBounds, HT.sIx, Option.getD_none, show (1 : Int) > 0 by decide, if_true]
      by_cases h : i < 0
      · simp only [h, if_true] <;> omega
      · simp only [h, if_false] <;> omega
  · cases hi with
    | none => simp [sliceBounds, HT.sIx]
    | some i =>
      simp only [sliceBounds, HT.sIx, Option.getD_none, show (1 : Int) > 0 by decide, if_true]
      by_cases h : i < 0
      · simp only [h, if_true] <;> omega
      · simp only [h, if_false] <;> omega
theorem slicePick_cut (its : List Value) (lo hi : Option Int) : slicePick its.toArray lo hi none = ((its.drop (HT.sIx its.length 0 lo)).take (HT.sIx its.length its.length hi - HT.sIx its.length 0 lo)).toArray := by
  obtain ⟨h1, h2, h3⟩ := slice_bounds lo hi its.toArray.size
  unfold slicePick
  rw [h1, h2, h3]
  simp only [sliceRange_one, pick_run, List.size_toArray] <;> rfl
/-- xs[lo:hi] of a list: a new list -/
def rSlL (K : PySem.W.Frag) : V → Option Int → Option Int → Hp → VK → Prop := fun x lo hi H Q => ∃ a xs, x = .ref a ∧ SqL K H a xs ∧ ∀ p, H p = none → Q (.ref p) (upd H p (.lst (cutV xs lo hi)))
theorem sl_list : SlR X (rSlL X.K) := by
  intro pins s σ H x v vl vu lo hi sl Q I rx hs pl pu h
  obtain ⟨a, xs, rfl, hx, q⟩ := h
  cases rx
  obtain ⟨its, r, ht, hz⟩ := I.list hx
  have hlen := r.length
  refine ⟨"list", _, slot_list_getitem.lookup, ht.isList.typeIs, ?_⟩
  refine wpAny_getItem_list_slice ht.isList hs pl pu .none (by simp) ?_ (by rw [List.size_toArray] <;> omega)
  rw [slicePick_cut, ← hlen]
  refine ⟨.ref s.heap.objs.size, _, I.laid (t' := s.toks) (o := .lst (cutV xs lo hi)) (fun b ob q => Heap.get?_push_of_some _ q) (Nat.le_refl _) ?_, rfl, q _ (I.hok.fresh (Nat.le_refl _))⟩
  exact ⟨Nat.le_trans (cutV_length xs lo hi) hz, _, 0, (r.drop (HT.sIx xs.length 0 lo)).take (HT.sIx xs.length xs.length hi - HT.sIx xs.length 0 lo), Heap.get?_push_size _ rfl⟩

/-! ### in, not in: flat items -/
def flatV : V → Bool
  | .non => true
  | .bl _ => true
  | .int _ => true
  | .str _ => true
  | _ => false
/-- == of flat values -/
def eqV : V → V → Bool
  | .non, .non => true
  | .bl a, .bl b => a == b
  | .bl a, .int b => (if a then 1 else 0) == b
  | .int a, .bl b => a == (if b then 1 else 0)
  | .int a, .int b => a == b
  | .str a, .str b => a == b
  | _, _ => false
theorem eqAt_V {A : Around} {s : Shared} {y x : V} {u v : Value} (ry : RelV y u) (rx : RelV x v) (fy : flatV y = true) (fx : flatV x = true) : SeqAt.EqAt A s u v (eqV y x) := by
  cases y with
  | non =>
    cases ry
    cases x with
    | non => cases rx; exact SeqAt.EqAt.same _
    | bl b => cases rx; exact SeqAt.EqAt.none_bool b
    | int b => obtain ⟨t, rfl⟩ := rx; exact SeqAt.EqAt.none_int b t
    | str b => obtain ⟨t, rfl⟩ := rx; exact SeqAt.EqAt.none_str b t
    | _ => exact absurd (show false = true from fx) Bool.false_ne_true
  | bl a =>
    cases ry
    cases x with
    | non => cases rx; exact SeqAt.EqAt.bool_none a
    | bl b => cases rx; exact SeqAt.EqAt.bool_bool a b
    | int b => obtain ⟨t, rfl⟩ := rx; exact SeqAt.EqAt.bool_int a b t
    | str b => obtain ⟨t, rfl⟩ := rx; exact SeqAt.EqAt.bool_str a b t
    | _ => exact absurd (show false = true from fx) Bool.false_ne_true
  | int a =>
    obtain ⟨t', rfl⟩ := ry
    cases x with
    | non => cases rx; exact SeqAt.EqAt.int_none a t'
    | bl b => cases rx; exact SeqAt.EqAt.int_bool a t' b
    | int b => obtain ⟨t, rfl⟩ := rx; exact SeqAt.EqAt.int_int a t' b t
    | str b => obtain ⟨t, rfl⟩ := rx; exact SeqAt.EqAt.int_str a t' b t
    | _ => exact absurd (show false = true from fx) Bool.false_ne_true
  | str a =>
    obtain ⟨t', rfl⟩ := ry
    cases x with
    | non => cases rx; exact SeqAt.EqAt.str_none a t'
    | bl b => cases rx; exact SeqAt.EqAt.str_bool a t' b
    | int b => obtain ⟨t, rfl⟩ := rx; exact SeqAt.EqAt.str_int a t' b t
    | str b => obtain ⟨t, rfl⟩ := rx; exact SeqAt.EqAt.str_str a t' b t
    | _ => exact absurd (show false = true from fx) Bool.false_ne_true
  | _ => exact absurd (show false = true from fy) Bool.false_ne_true
/-- the items' answers, read off the values (a value's own answer does not lean on its token) -/
def eqU (x : V) (u : Value) : Bool := match u with
  | .none => eqV .non x
  | .bool b => eqV (.bl b) x
  | .int i _ => eqV (.int i) x
  | .str z _ => eqV (.str z) x
  | _ => false
theorem eqU_of {x y : V} {u : Value} (r : RelV y u) (f : flatV y = true) : eqU x u = eqV y x := by
  cases y with
  | non => cases r; rfl
  | bl b => cases r; rfl
  | int i => obtain ⟨t, rfl⟩ := r; rfl
  | str z => obtain ⟨t, rfl⟩ := r; rfl
  | _ => exact absurd (show false = true from f) Bool.false_ne_true
theorem any_eqU {x : V} : ∀ {xs : List V} {us : List Value}, Vals xs us → xs.all flatV = true → us.any (eqU x) = xs.any fun y => eqV y x
  | _, _, .nil, _ => rfl
  | y :: xs, u :: us, .cons r t, f => by
    rw [List.all_cons, Bool.and_eq_true] at f
    rw [List.any_cons, List.any_cons, eqU_of r f.1, any_eqU t f.2]
theorem mem_eqAt {A : Around} {s : Shared} {x : V} {v : Value} (rx : RelV x v) (fx : flatV x = true) : ∀ {xs : List V} {us : List Value}, Vals xs us → xs.all flatV = true → ∀ u ∈ us, SeqAt.EqAt A s u v (eqU x u)
  | _, _, .nil, _ => fun u hu => by cases hu
  | y :: xs, u :: us, .cons r t, f => fun u' hu => by
    rw [List.all_cons, Bool.and_eq_true] at f
    rcases List.mem_cons.mp hu with rfl | hu
    · rw [eqU_of r f.1]; exact eqAt_V r rx f.1 fx
    · exact mem_eqAt rx fx t f.2 u' hu
def inV (x : V) (xs : List V) : Bool := xs.any fun y => eqV y x
/-- x in a list or tuple of flat items -/
def rIn (K : PySem.W.Frag) (neg : Bool) : R2 := fun x y H Q => ∃ p xs, y = .ref p ∧ (SqL K H p xs ∨ SqT K H p xs) ∧ flatV x = true ∧ xs.all flatV = true ∧ Q (.bl (if neg then !inV x xs else inV x xs)) H
theorem op_in_seq : OpR X (compareOp .In) (rIn X.K false) := by
  intro pins s σ H x y v u Q I rx ry h
  obtain ⟨p, xs, rfl, hq, fx, fs, q⟩ := h
  cases ry
  rcases hq with hq | hq
  · obtain ⟨its, r, pl, hz⟩ := I.list hq
    refine SeqAt.in_listAt (eqU x) pl.isList (fun w hw => mem_eqAt rx fx r fs w (by simpa using hw)) ⟨.bl _, H, I, rfl, ?_⟩
    rw [show its.toArray.any (eqU x) = its.any (eqU x) by simp, any_eqU r fs]
    exact q
  · obtain ⟨its, r, pl, hz⟩ := I.tuple hq
    refine SeqAt.in_tupleAt (eqU x) pl (fun w hw => mem_eqAt rx fx r fs w (by simpa using hw)) ⟨.bl _, H, I, rfl, ?_⟩
    rw [show its.toArray.any (eqU x) = its.any (eqU x) by simp, any_eqU r fs]
    exact q
theorem op_notIn_seq : OpR X (compareOp .NotIn) (rIn X.K true) := by
  intro pins s σ H x y v u Q I rx ry h
  obtain ⟨p, xs, rfl, hq, fx, fs, q⟩ := h
  cases ry
  rcases hq with hq | hq
  · obtain ⟨its, r, pl, hz⟩ := I.list hq
    refine SeqAt.notIn_listAt (eqU x) pl.isList (fun w hw => mem_eqAt rx fx r fs w (by simpa using hw)) ⟨.bl _, H, I, rfl, ?_⟩
    rw [show its.toArray.any (eqU x) = its.any (eqU x) by simp, any_eqU r fs]
    exact q
  · obtain ⟨its, r, pl, hz⟩ := I.tuple hq
    refine SeqAt.notIn_tupleAt (eqU x) pl (fun w hw => mem_eqAt rx fx r fs w (by simpa using hw)) ⟨.bl _, H, I, rfl, ?_⟩
    rw [show its.toArray.any (eqU x) = its.any (eqU x) by simp, any_eqU r fs]
    exact q
theorem op_notIn_str : OpR X (compareOp .NotIn) (fun x y H Q => ∃ i j, x = .str i ∧ y = .str j ∧ Q (.bl (!(!(Builtin.Str.occurrences j i 0 j.length 1).isEmpty))) H) := by
  intro pins s σ H x y v u Q I rx ry h
  obtain ⟨i, j, rfl, rfl, q⟩ := h
  obtain ⟨t, rfl⟩ := rx
  obtain ⟨t', rfl⟩ := ry
  exact notIn_str ⟨.bl _, H, I, rfl, q⟩

/-! ### len, list(x), tuple(x) of any list or tuple that is read -/
theorem call_len_seq : CallR X (.builtin "len") (fun xs H Q => ∃ p ys, xs = [.ref p] ∧ (SqL X.K H p ys ∨ SqT X.K H p ys) ∧ Q (.int ys.length) H) := by
  intro pins s σ H xs us Q I r h
  obtain ⟨p, ys, rfl, hq, q⟩ := h
  obtain ⟨u, rfl, rx⟩ := vals1 r
  cases rx
  have hn := line63
  rcases hq with hq | hq
  · obtain ⟨its, r', pl, hz⟩ := I.list hq
    have hlen := r'.length
    exact Calls.call_len_list pl.isList (by simp only [List.size_toArray] <;> omega) ⟨.int ys.length, H, I.tok _, ⟨s.toks + 1, by rw [List.size_toArray, hlen]⟩, q⟩
  · obtain ⟨its, r', pl, hz⟩ := I.tuple hq
    have hlen := r'.length
    exact len_tuple pl (by simp only [List.size_toArray] <;> omega) ⟨.int ys.length, H, I.tok _, ⟨s.toks + 1, by rw [List.size_toArray, hlen]⟩, q⟩
theorem call_len_str : CallR X (.builtin "len") (fun xs H Q => ∃ z, xs = [.str z] ∧ z.length ≤ sizeLine ∧ Q (.int z.length) H) := by
  intro pins s σ H xs us Q I r h
  obtain ⟨z, rfl, hz, q⟩ := h
  obtain ⟨u, rfl, t, rfl⟩ := vals1 r
  have hn := line63
  exact len_str (by omega) ⟨.int z.length, H, I.tok _, ⟨_, rfl⟩, q⟩
theorem CallR.or {f : Value} {r r' : List V → Hp → VK → Prop} (h : CallR X f r) (h' : CallR X f r') : CallR X f (fun xs H Q => r xs H Q ∨ r' xs H Q) := by
  intro pins s σ H xs us Q I rs q
  rcases q with q | q
  · exact h pins s σ H xs us Q I rs q
  · exact h' pins s σ H xs us Q I rs q
theorem call_list_of : CallR X (.type "list") (fun xs H Q => ∃ p ys, xs = [.ref p] ∧ (SqL X.K H p ys ∨ SqT X.K H p ys) ∧ ∀ l, H l = none → Q (.ref l) (upd H l (.lst ys))) := by
  intro pins s σ H xs us Q I r h
  obtain ⟨p, ys, rfl, hq, q⟩ := h
  obtain ⟨u, rfl, rx⟩ := vals1 r
  cases rx
  have fin : ∀ (its : List Value), Vals ys its → ys.length ≤ sizeLine → ∀ (h' : Heap) (c' : Nat), (∀ b o', s.heap.get? b = some o' → h'.get? b = some o') →
      h'.get? s.heap.objs.size = some { cls := .type "list", dict := none, data := .seq its.toArray c', slots := #[] } → EP X pins σ Q (.ref s.heap.objs.size) { s with heap := h' } := fun its r' hz h' c' kp e =>
    ⟨.ref s.heap.objs.size, _, I.laid (t' := s.toks) kp (Nat.le_refl _) (show ObjOk X.prog X.w _ h' _ (.lst ys) from ⟨hz, its, c', r', e⟩), rfl, q _ (I.hok.fresh (Nat.le_refl _))⟩
  rcases hq with hq | hq
  · obtain ⟨its, r', pl, hz⟩ := I.list hq
    have hlen := r'.length
    obtain ⟨o, ho, hc, n, hd⟩ := pl.isList
    exact call_list_seq p (.inl rfl) ho hc hd (fun h' c' kp e => fin its r' hz h' c' kp e) (by simp only [List.size_toArray] <;> omega)
  · obtain ⟨its, r', pl, hz⟩ := I.tuple hq
    have hlen := r'.length
    obtain ⟨o, ho, hc, n, hd⟩ := pl
    exact call_list_seq p (.inr rfl) ho hc hd (fun h' c' kp e => fin its r' hz h' c' kp e) (by simp only [List.size_toArray] <;> omega)
theorem call_tuple_of : CallR X (.type "tuple") (fun xs H Q => ∃ p ys, xs = [.ref p] ∧ ((SqL X.K H p ys ∧ ∀ l, H l = none → Q (.ref l) (upd H l (.tup ys))) ∨ (SqT X.K H p ys ∧ Q (.ref p) H))) := by
  intro pins s σ H xs us Q I r h
  obtain ⟨p, ys, rfl, h⟩ := h
  obtain ⟨u, rfl, rx⟩ := vals1 r
  cases rx
  rcases h with ⟨hq, q⟩ | ⟨hq, q⟩
  · obtain ⟨its, r', pl, hz⟩ := I.list hq
    have hlen := r'.length
    refine call_tuple_list pl.isList (fun h' kp => ?_) (by simp only [List.size_toArray] <;> omega)
    have I1 : Inv X pins σ H { s with heap := h' } := I.kept (t' := s.toks) kp
    have I2 : Inv X pins σ (upd H h'.objs.size (.tup ys)) { s with heap := h'.push { cls := .type "tuple", data := .seq its.toArray } } :=
      I1.laid (t' := s.toks) (fun b o e => Heap.get?_push_of_some _ e) (Nat.le_refl _) (show ObjOk X.prog X.w _ _ _ (.tup ys) from ⟨hz, its, r', IsTup.new _ _⟩)
    exact ⟨.ref h'.objs.size, _, I2, rfl, q _ (I1.hok.fresh (Nat.le_refl _))⟩
  · obtain ⟨its, r', pl, hz⟩ := I.tuple hq
    exact call_tuple_same pl ⟨.ref p, H, I, rfl, q⟩

/-! ### the call of a builtin's method: o.m(..) -/
/-- the value is of that builtin type -/
def tyV (K : PySem.W.Frag) (T : String) (x : V) (H : Hp) : Prop := match x with
  | .str _ => T = "str"
  | .int _ => T = "int"
  | .ref p => (T = "list" ∧ ∃ xs, SqL K H p xs) ∨ (T = "tuple" ∧ ∃ o, K.lookup p = some o ∧ o.cls = .type "tuple" ∧ o.dict = none) ∨
      (T = "dict" ∧ ((∃ kvs, H p = some (.dK kvs)) ∨ ∃ kvs, H p = some (.dT kvs))) ∨ (T = "set" ∧ ∃ S n, H p = some (.set S n))
  | _ => False
theorem tyV_is {pins : List (Addr × Obj)} {σ : St} {H : Hp} {s : Shared} {T : String} {x : V} {v : Value} (I : Inv X pins σ H s) (r : RelV x v) (ty : tyV X.K T x H) :
    s.TypeIs v T ∧ ∀ a, v = .ref a → ∃ ob, s.heap.get? a = some ob ∧ ob.dict = none := by
  cases x with
  | str z =>
    obtain ⟨t, rfl⟩ := r
    cases (show T = "str" from ty)
    exact ⟨typeIs_str s z t, fun _ e => nomatch e⟩
  | int i =>
    obtain ⟨t, rfl⟩ := r
    cases (show T = "int" from ty)
    exact ⟨typeIs_int s i t, fun _ e => nomatch e⟩
  | ref p =>
    cases r
    rcases ty with ⟨rfl, xs, hq⟩ | ⟨rfl, o, hk, hc, hd⟩ | ⟨rfl, hk⟩ | ⟨rfl, S, n, hk⟩
    · obtain ⟨its, _, pl, _⟩ := I.list hq
      refine ⟨pl.isList.typeIs, fun a e => ?_⟩
      cases e
      obtain ⟨o, n, e, c, hd, _⟩ := pl
      exact ⟨o, e, hd⟩
    · refine ⟨⟨o, I.kIn p o hk, hc⟩, fun a e => ?_⟩
      cases e
      exact ⟨o, I.kIn _ o hk, hd⟩
    · have z : ∃ o, s.heap.get? p = some o ∧ o.ExactDict := by
        rcases hk with ⟨kvs, hk⟩ | ⟨kvs, hk⟩
        · obtain ⟨_, _, _, _, o, _, _, e, ex, _⟩ := I.hok p _ hk
          exact ⟨o, e, ex⟩
        · obtain ⟨_, _, _, _, o, _, _, e, ex, _⟩ := I.hok p _ hk
          exact ⟨o, e, ex⟩
      obtain ⟨o, e, ex⟩ := z
      refine ⟨⟨o, e, ex.1⟩, fun a e2 => ?_⟩
      cases e2
      exact ⟨o, e, ex.2.1⟩
    · obtain ⟨o, _, _, _, e, ex, _⟩ := I.hok p _ hk
      refine ⟨⟨o, e, ex.1⟩, fun a e2 => ?_⟩
      cases e2
      exact ⟨o, e, ex.2.1⟩
  | _ => exact False.elim ty
def tBM0 (K : PySem.W.Frag) (T : String) (r : V → List V → Hp → VK → Prop) (to : TE) : TE := fun σ H Q => to σ H fun x H1 => tyV K T x H1 ∧ r x [] H1 Q
def tBM (K : PySem.W.Frag) (T : String) (r : V → List V → Hp → VK → Prop) (to : TE) (t : TA) : TE := fun σ H Q => to σ H fun x H1 => tyV K T x H1 ∧ t σ H1 fun xs H2 => r x xs H2 Q
variable {o e : Expr} {es : List Expr} {to : TE} {t : TA} {name : Str} {apos cpos : Pos} {T id : String} {r : V → List V → Hp → VK → Prop}
theorem pe_bm0 (pa : PlainAttrs T) (slot : Slot T name id) (hty : typeOf (.builtin id) = pure (.type "method_descriptor")) (hm : MtR X id r) (ho : PE X o to)
    (hbase : attributeBase o name X.env (eval o X.env) = eval o X.env := by rfl) (hline : (apos.endLine == cpos.line) = true := by rfl) : PE X (.Call (.Attribute o name apos) [] [] cpos) (tBM0 X.K T r to) := by
  intro pins s σ H Q I h
  refine wpAny_Call_method0_late hbase hline (thn (ho pins s σ H _ I h) fun v s1 ⟨x, H1, I1, r1, ty, q1⟩ => ?_)
  obtain ⟨h1, h2⟩ := tyV_is I1 r1 ty
  exact ⟨T, id, pa, slot, hty, h1, h2, Calls.callWith_builtin rfl (PySem.evalArgs_none (hm pins s1 σ H1 x [] v [] Q I1 r1 .nil q1))⟩
theorem pe_bm (pa : PlainAttrs T) (slot : Slot T name id) (hty : typeOf (.builtin id) = pure (.type "method_descriptor")) (hm : MtR X id r) (ho : PE X o to) (ha : PA X (e :: es) t)
    (hbase : attributeBase o name X.env (eval o X.env) = eval o X.env := by rfl)
    (hfew : ((backTo cpos (starEach (e :: es) X.env)).all (fun x => !x.1) && (backToKw cpos (keywordEach [] X.env)).all (fun x => x.1.isSome)
      && decide ((e :: es).length + ([] : List Keyword).length + (if ([] : List Keyword).isEmpty then 0 else 1) < 30)) = true := by rfl)
    (hline : (apos.endLine == cpos.line) = true := by rfl) (hs : starEach (e :: es) X.env = (false, eval e X.env) :: starEach es X.env := by rfl) (hplain : (backTo cpos (starEach es X.env)).any (·.1) = false := by rfl) :
    PE X (.Call (.Attribute o name apos) (e :: es) [] cpos) (tBM X.K T r to t) := by
  intro pins s σ H Q I h
  refine wpAny_Call_method_late hbase hfew hline rfl (thn (ho pins s σ H _ I h) fun v s1 ⟨x, H1, I1, r1, ty, q1⟩ => ?_)
  obtain ⟨h1, h2⟩ := tyV_is I1 r1 ty
  refine ⟨T, id, pa, slot, hty, h1, h2, ?_⟩
  have hA := ha cpos pins s1 σ H1 _ I1 q1
  rw [hs] at hA ⊢
  refine Calls.callWith_builtin (by show (false || (backTo cpos (starEach es X.env)).any (·.1)) = false; rw [hplain] <;> rfl) (Calls.evalArgs_plain ?_)
  exact thn hA fun us s2 ⟨vs, H2, I2, r2, q2⟩ => hm pins s2 σ H2 x vs v us Q I2 r1 r2 q2
/- xs.append(e), list.index on a module's tuple .. are MtR facts of 06m -/
end
end L2

namespace L2
open PySem PySem.Spec PyProof.Rows

def MtM (X : Cx) (id : String) (r : V → List V → Hp → VK → Prop) : Prop :=
  ∀ (pins : List (Addr × Obj)) (s : Shared) (σ : St) (H : Hp) (x : V) (xs : List V) (v : Value) (us : List Value) (Q : VK), Inv X pins σ H s → RelV x v → Vals xs us → r x xs H Q →
    wpAny (model X.prog X.w) X.A (call (.builtin id) (v :: us)) (EP X pins σ Q) X.xe s

/-! ### lists of values -/
theorem Vals.one : ∀ {x : V} {us : List Value}, Vals [x] us → ∃ u, us = [u] ∧ RelV x u
  | _, _, .cons r .nil => ⟨_, rfl, r⟩
theorem Vals.two : ∀ {x y : V} {us : List Value}, Vals [x, y] us → ∃ u v, us = [u, v] ∧ RelV x u ∧ RelV y v
  | _, _, _, .cons r (.cons q .nil) => ⟨_, _, rfl, r, q⟩
theorem Vals.zero : ∀ {us : List Value}, Vals [] us → us = []
  | _, .nil => rfl
theorem Vals.dropLast {xs : List V} {us : List Value} (h : Vals xs us) : Vals xs.dropLast us.dropLast := by
  induction h with
  | nil => exact .nil
  | cons r t ih =>
    cases t with
    | nil => exact .nil
    | cons q t' => exact .cons r ih
theorem Vals.eraseIdx : ∀ {xs : List V} {us : List Value} (i : Nat), Vals xs us → Vals (xs.eraseIdx i) (us.eraseIdx i)
  | _, _, _, .nil => .nil
  | _, _, 0, .cons _ t => t
  | _, _, i + 1, .cons r t => .cons r (Vals.eraseIdx i t)
theorem Vals.reverse {xs : List V} {us : List Value} (h : Vals xs us) : Vals xs.reverse us.reverse := by
  induction h with
  | nil => exact .nil
  | cons r t ih => rw [List.reverse_cons, List.reverse_cons]; exact Vals.append ih (.cons r .nil)
theorem Vals.rep {xs : List V} {us : List Value} (h : Vals xs us) : ∀ k : Nat, Vals (List.replicate k xs).flatten (List.replicate k us).flatten
  | 0 => .nil
  | k + 1 => by
    rw [List.replicate_succ, List.replicate_succ, List.flatten_cons, List.flatten_cons]
    exact Vals.append h (Vals.rep h k)
theorem erase_last {α : Type} (l : List α) : l.eraseIdx (l.length - 1) = l.dropLast := by
  induction l with
  | nil => rfl
  | cons a r ih =>
    cases r with
    | nil => rfl
    | cons b r =>
      have e : (a :: b :: r).length - 1 = ((b :: r).length - 1) + 1 := by
        have h1 : (a :: b :: r).length = r.length + 2 := rfl
        have h2 : (b :: r).length = r.length + 1 := rfl
        omega
      rw [e, List.eraseIdx_cons_succ, ih]
      all_goals rfl
theorem len_erase {α : Type} : ∀ (l : List α) (i : Nat), (l.eraseIdx i).length ≤ l.length
  | [], _ => Nat.le_refl _
  | _ :: _, 0 => Nat.le_succ _
  | _ :: r, i + 1 => Nat.succ_le_succ (len_erase r i)
theorem foldl_rep (its : List Value) : ∀ (k : Nat) (acc : List Value),
    List.foldl (fun x1 x2 => x1 ++ x2) acc.toArray (List.replicate k its.toArray) = (acc ++ (List.replicate k its).flatten).toArray
  | 0, acc => by simp
  | k + 1, acc => by
    have e : acc.toArray ++ its.toArray = (acc ++ its).toArray := by simp
    have e2 : (acc ++ its) ++ (List.replicate k its).flatten = acc ++ (List.replicate (k + 1) its).flatten := by
      rw [List.replicate_succ, List.flatten_cons, List.append_assoc]
    rw [← e2, ← foldl_rep its k (acc ++ its), ← e, List.replicate_succ, List.foldl_cons]

section
variable {X : Cx} {pins : List (Addr × Obj)} {σ : St} {H : Hp} {s : Shared} {l b : Addr} {xs ys zs : List V}

/-! ### the two steps: a tracked list is rewritten, a new list is laid -/
theorem Inv.lset {its its' : List Value} {n : Nat} {f : Array Value → Array Value} {t' : Nat} (I : Inv X pins σ H s) (hH : H l = some (.lst xs))
    (e : s.heap.get? l = some { cls := .type "list", data := .seq its.toArray n }) (hf : f its.toArray = its'.toArray) (hv : Vals ys its') (hz : ys.length ≤ sizeLine) :
    Inv X pins σ (upd H l (.lst ys)) { s with heap := s.heap.update l (Obj.mapSeq f), toks := t' } := by
  have q := PySem.IsL.update e f
  rw [hf] at q
  refine I.write (x := l) (e := l) (by rw [hH]; exact trivial) (.inl rfl) (fun b' u hb hu => (Heap.get?_update_other s.heap (Obj.mapSeq f) (Ne.symm hb)).trans hu) ⟨_, q⟩ ?_
  exact ⟨hz, its', _, hv, q⟩
theorem Inv.lnew {its : List Value} {t' : Nat} (I : Inv X pins σ H s) (hv : Vals ys its) (hz : ys.length ≤ sizeLine) :
    Inv X pins σ (upd H s.heap.objs.size (.lst ys)) { s with heap := s.heap.push { cls := .type "list", data := .seq its.toArray }, toks := t' } :=
  I.laid (fun _ _ q => Heap.get?_push_of_some _ q) (Nat.le_refl _) ⟨hz, its, 0, hv, Heap.get?_push_size _ rfl⟩
theorem Inv.fresh (I : Inv X pins σ H s) : H s.heap.objs.size = none := I.hok.fresh (Nat.le_refl _)
theorem Inv.lstM (I : Inv X pins σ H s) (hH : H l = some (.lst xs)) : xs.length ≤ sizeLine ∧ ∃ (its : List Value) (n : Nat), Vals xs its ∧ xs.length = its.length ∧ s.heap.get? l = some { cls := .type "list", data := .seq its.toArray n } := by
  obtain ⟨z, its, n, r, e⟩ := I.hok l _ hH
  exact ⟨z, its, n, r, r.length, e⟩

theorem notLongL {n : Nat} (h : n ≤ sizeLine) : Builtin.List.listTooLong n = false := by
  unfold Builtin.List.listTooLong
  exact decide_eq_false (by omega)
end

section
variable {X : Cx}

/-! ### methods -/
def rAppend : V → List V → Hp → VK → Prop := fun x vs H Q => ∃ l xs y, x = .ref l ∧ vs = [y] ∧ H l = some (.lst xs) ∧ xs.length < sizeLine ∧ Q .non (upd H l (.lst (xs ++ [y])))
theorem mt_append : MtM X "list.append" rAppend := by
  intro pins s σ H x vs v us Q I rx rv h
  obtain ⟨l, xs, y, rfl, rfl, hH, hz, q⟩ := h
  cases rx
  obtain ⟨u, rfl, ru⟩ := rv.one
  obtain ⟨z, its, n, r, hl, e⟩ := I.lstM hH
  refine call_meets F.slot_list_append ⟨_, e, rfl⟩ F.entry_list_append (F.args_list_append_2 _ _) (PySem.list_append l its.toArray n u (by rw [List.size_toArray]; omega)) ⟨e, ?_⟩
  refine ⟨.non, _, I.lset (its' := its ++ [u]) hH e (by simp) (r.append (.cons ru .nil)) ?_, rfl, q⟩
  rw [List.length_append, List.length_singleton]
  omega

def rExtend : V → List V → Hp → VK → Prop := fun x vs H Q => ∃ l b xs zs, x = .ref l ∧ vs = [.ref b] ∧ H l = some (.lst xs) ∧ H b = some (.lst zs) ∧ xs.length + zs.length ≤ sizeLine ∧ Q .non (upd H l (.lst (xs ++ zs)))
theorem mt_extend : MtM X "list.extend" rExtend := by
  intro pins s σ H x vs v us Q I rx rv h
  obtain ⟨l, b, xs, zs, rfl, rfl, hH, hB, hz, q⟩ := h
  cases rx
  obtain ⟨u, rfl, ru⟩ := rv.one
  cases ru
  obtain ⟨z, its, n, r, hl, e⟩ := I.lstM hH
  obtain ⟨z2, its2, n2, r2, hl2, e2⟩ := I.lstM hB
  have hsz : its.toArray.size + its2.toArray.size ≤ sizeLine := by rw [List.size_toArray, List.size_toArray]; omega
  have hlong : ¬ (!its.toArray.isEmpty && Builtin.List.listTooLong (its.toArray.size + its2.toArray.size)) = true := by
    rw [notLongL hsz, Bool.and_false]
    exact Bool.false_ne_true
  refine call_meets F.slot_list_extend ⟨_, e, rfl⟩ F.entry_list_extend (F.args_list_extend_2 _ _)
    (AutoSeq1.list_extend_list_list_0 l its.toArray n b its2.toArray n2 hlong (by rw [List.size_toArray]; omega) (by omega)) ⟨e, e2, ?_⟩
  refine ⟨.non, _, I.lset (its' := its ++ its2) hH e (by simp) (r.append r2) ?_, rfl, q⟩
  rw [List.length_append]
  omega

def rPop : V → List V → Hp → VK → Prop := fun x vs H Q => ∃ l xs y, x = .ref l ∧ vs = [] ∧ H l = some (.lst xs) ∧ xs[xs.length - 1]? = some y ∧ Q y (upd H l (.lst xs.dropLast))
theorem mt_pop : MtM X "list.pop" rPop := by
  intro pins s σ H x vs v us Q I rx rv h
  obtain ⟨l, xs, y, rfl, rfl, hH, hy, q⟩ := h
  cases rx
  have hus := rv.zero
  subst hus
  obtain ⟨z, its, n, r, hl, e⟩ := I.lstM hH
  obtain ⟨u, hu, ru⟩ := r.get hy
  have hy' : its.toArray[its.toArray.size - 1]? = some u := by
    show its.toArray[its.length - 1]? = some u
    rw [← Array.getElem?_toList, ← hl]
    exact hu
  refine call_meets F.slot_list_pop ⟨_, e, rfl⟩ F.entry_list_pop (F.args_list_pop_1 _) (MeetsSeq.list_pop_last l its.toArray n u hy' (by rw [List.size_toArray]; omega)) ⟨e, ?_⟩
  refine ⟨y, _, I.lset (its' := its.dropLast) hH e ?_ r.dropLast ?_, ru, q⟩
  · show its.toArray.eraseIdxIfInBounds (its.toArray.size - 1) = its.dropLast.toArray
    rw [List.size_toArray, List.eraseIdxIfInBounds_toArray, erase_last]
  · rw [List.length_dropLast]
    omega

def rPopAt : V → List V → Hp → VK → Prop := fun x vs H Q => ∃ l xs i k y, x = .ref l ∧ vs = [.int i] ∧ H l = some (.lst xs) ∧ -(2 ^ 63) ≤ i ∧ i < 2 ^ 63 ∧ seqIndex? i xs.length = some k ∧ xs[k]? = some y ∧ Q y (upd H l (.lst (xs.eraseIdx k)))
theorem mt_popAt : MtM X "list.pop" rPopAt := by
  intro pins s σ H x vs v us Q I rx rv h
  obtain ⟨l, xs, i, k, y, rfl, rfl, hH, h1, h2, hk, hy, q⟩ := h
  cases rx
  obtain ⟨u, rfl, ru⟩ := rv.one
  obtain ⟨t, rfl⟩ := ru
  obtain ⟨z, its, n, r, hl, e⟩ := I.lstM hH
  obtain ⟨w, hw, rw'⟩ := r.get hy
  refine call_meets F.slot_list_pop ⟨_, e, rfl⟩ F.entry_list_pop (F.args_list_pop_2 _ _)
    (MeetsSeq.list_pop_at l its.toArray n i t k w (fitsIndex_both h1 h2) (by rw [List.size_toArray, ← hl]; exact hk) (by rw [← Array.getElem?_toList]; exact hw) (by rw [List.size_toArray]; omega)) ⟨e, ?_⟩
  refine ⟨y, _, I.lset (its' := its.eraseIdx k) hH e ?_ (r.eraseIdx k) ?_, rw', q⟩
  · show its.toArray.eraseIdxIfInBounds k = (its.eraseIdx k).toArray
    rw [List.eraseIdxIfInBounds_toArray]
  · have := len_erase xs k
    omega

def rReverse : V → List V → Hp → VK → Prop := fun x vs H Q => ∃ l xs, x = .ref l ∧ vs = [] ∧ H l = some (.lst xs) ∧ Q .non (upd H l (.lst xs.reverse))
theorem mt_reverse : MtM X "list.reverse" rReverse := by
  intro pins s σ H x vs v us Q I rx rv h
  obtain ⟨l, xs, rfl, rfl, hH, q⟩ := h
  cases rx
  have hus := rv.zero
  subst hus
  obtain ⟨z, its, n, r, hl, e⟩ := I.lstM hH
  refine call_meets F.slot_list_reverse ⟨_, e, rfl⟩ F.entry_list_reverse (F.args_list_reverse_1 _) (AutoSeq1.list_reverse_list_0 l its.toArray n (by rw [List.size_toArray]; omega)) ⟨e, ?_⟩
  refine ⟨.non, _, I.lset (its' := its.reverse) hH e (by simp) r.reverse ?_, rfl, q⟩
  rw [List.length_reverse]
  omega

def rClear : V → List V → Hp → VK → Prop := fun x vs H Q => ∃ l xs, x = .ref l ∧ vs = [] ∧ H l = some (.lst xs) ∧ Q .non (upd H l (.lst []))
theorem mt_clear : MtM X "list.clear" rClear := by
  intro pins s σ H x vs v us Q I rx rv h
  obtain ⟨l, xs, rfl, rfl, hH, q⟩ := h
  cases rx
  have hus := rv.zero
  subst hus
  obtain ⟨z, its, n, r, hl, e⟩ := I.lstM hH
  refine call_meets F.slot_list_clear ⟨_, e, rfl⟩ F.entry_list_clear (F.args_list_clear_1 _) (AutoSeq1.list_clear_list_0 l its.toArray n (by rw [List.size_toArray]; omega)) ⟨e, ?_⟩
  exact ⟨.non, _, I.lset (its' := []) (ys := []) hH e rfl .nil (Nat.zero_le _), rfl, q⟩

/-! ### list + list, list += list, list * int -/
def rCat : R2 := fun x y H Q => ∃ l b xs zs, x = .ref l ∧ y = .ref b ∧ H l = some (.lst xs) ∧ H b = some (.lst zs) ∧ xs.length + zs.length ≤ sizeLine ∧ ∀ p, H p = none → Q (.ref p) (upd H p (.lst (xs ++ zs)))
theorem op_cat : OpR X (binaryOp .Add) rCat := by
  intro pins s σ H x y v u Q I rx ry h
  obtain ⟨l, b, xs, zs, rfl, rfl, hH, hB, hz, q⟩ := h
  cases rx
  cases ry
  obtain ⟨z, its, n, r, hl, e⟩ := I.lstM hH
  obtain ⟨z2, its2, n2, r2, hl2, e2⟩ := I.lstM hB
  refine PySem.P.add_list e e2 ?_ (by rw [List.size_toArray, List.size_toArray]; omega)
  have ea : its.toArray ++ its2.toArray = (its ++ its2).toArray := by simp
  rw [ea]
  exact ⟨.ref _, _, I.lnew (t' := s.toks) (r.append r2) (by rw [List.length_append]; omega), rfl, q _ I.fresh⟩
/-- a list times an int (a negative one is nothing) -/
def rRep : R2 := fun x y H Q => ∃ l k xs, x = .ref l ∧ y = .int k ∧ H l = some (.lst xs) ∧ -(2 ^ 63) ≤ k ∧ k < 2 ^ 63 ∧ xs.length * k.toNat ≤ sizeLine ∧
  ∀ p, H p = none → Q (.ref p) (upd H p (.lst (List.replicate k.toNat xs).flatten))
theorem len_rep {α : Type} (xs : List α) (k : Nat) : (List.replicate k xs).flatten.length = k * xs.length := by
  induction k with
  | zero => simp
  | succ k ih => rw [List.replicate_succ, List.flatten_cons, List.length_append, ih, Nat.succ_mul, Nat.add_comm]
theorem op_rep : OpR X (binaryOp .Mult) rRep := by
  intro pins s σ H x y v u Q I rx ry h
  obtain ⟨l, k, xs, rfl, rfl, hH, h1, h2, hz, q⟩ := h
  cases rx
  obtain ⟨t, rfl⟩ := ry
  obtain ⟨z, its, n, r, hl, e⟩ := I.lstM hH
  have hlen : its.toArray.size * k.toNat ≤ sizeLine := by rw [List.size_toArray, ← hl]; exact hz
  have hcap : ¬ its.toArray.size * k.toNat > (2 ^ 63 - 1) / 8 := by
    have : (sizeLine : Nat) ≤ (2 ^ 63 - 1) / 8 := by decide
    omega
  have hfit : ¬ (!Builtin.List.listFitsIndex k) = true := by
    rw [fitsIndex_both h1 h2]
    exact Bool.false_ne_true
  have hlong : ¬ Builtin.List.listTooLong (its.toArray.size * k.toNat) = true := by
    rw [notLongL hlen]
    exact Bool.false_ne_true
  have hnew : List.foldl (fun x1 x2 => x1 ++ x2) #[] (List.replicate (if its.toArray.isEmpty = true then 0 else k.toNat) its.toArray) = (List.replicate k.toNat its).flatten.toArray := by
    have f0 : ∀ m : Nat, List.foldl (fun x1 x2 => x1 ++ x2) #[] (List.replicate m its.toArray) = (List.replicate m its).flatten.toArray := fun m => by
      have := foldl_rep its m []
      rw [List.nil_append] at this
      exact this
    rw [f0]
    cases its with
    | nil => simp
    | cons a r' => rw [if_neg (by simp)]
  refine wpAny_binaryOp_repeat_ref (T := "list") (U := "int") (by decide) ⟨_, e, rfl⟩ (fun s' => typeIs_int s' k t) noFill_list_mul F.fills_int_mul F.slot_int_rmul repeat_list F.slot_int_index.lookup
    (call_meets F.slot_int_rmul (typeIs_int s k t) F.entry_int_rmul (F.args_int_rmul_2 _ _) (int___rmul___int_list k t l its.toArray n)
      ⟨e, rfl, ⟨_, e, rfl⟩, call_meets F.slot_list_mul ⟨_, e, rfl⟩ F.entry_list_mul (F.args_list_mul_2 _ _) (AutoListH.list___mul___list_int_3 l its.toArray n k t hfit hcap hlong) ⟨e, ?_⟩⟩)
  rw [hnew]
  exact ⟨.ref _, _, I.lnew (t' := s.toks) (r.rep k.toNat) (by rw [len_rep, Nat.mul_comm]; exact hz), rfl, q _ I.fresh⟩

/-! ### del xs[i] -/
theorem del_list {pins : List (Addr × Obj)} {s : Shared} {σ : St} {H : Hp} {l : Addr} {xs : List V} {i : Int} {t : Tok} {k : Nat} {Q : Unit → Shared → Prop} (I : Inv X pins σ H s) (hH : H l = some (.lst xs))
    (h1 : -(2 ^ 63) ≤ i) (h2 : i < 2 ^ 63) (hk : seqIndex? i xs.length = some k) (h : ∀ s', Inv X pins σ (upd H l (.lst (xs.eraseIdx k))) s' → Q () s') :
    wpAny (model X.prog X.w) X.A (delItem (.ref l) (.int i t)) Q X.xe s := by
  obtain ⟨z, its, n, r, hl, e⟩ := I.lstM hH
  refine PySem.P.delItem_list (k := k) e (fitsIndex_both h1 h2) (by rw [List.size_toArray, ← hl]; exact hk) (h _ ?_) (by rw [List.size_toArray]; omega)
  refine I.lset (its' := its.eraseIdx k) (t' := s.toks) hH e ?_ (r.eraseIdx k) ?_
  · show its.toArray.eraseIdxIfInBounds k = (its.eraseIdx k).toArray
    rw [List.eraseIdxIfInBounds_toArray]
  · have := len_erase xs k
    omega
end

/-! ### xs[a:b] = ys -/
section
variable {prog : Program} {w : World} {A : Around} {E : Value → Shared → Prop} {s : Shared}
theorem splice_eq (its its2 : List Value) (a c : Nat) : its.toArray.extract 0 a ++ its2.toArray ++ its.toArray.extract c its.toArray.size = (its.take a ++ its2 ++ its.drop c).toArray := by
  apply Array.toList_inj.mp
  first
    | (simp
       exact List.take_of_length_le (by simp))
    | simp [List.take_of_length_le]
    | simp
theorem bounds_run {a c n : Nat} (hac : a ≤ c) (hc : c ≤ n) : sliceBounds (some (a : Int)) (some (c : Int)) none n = ((a : Int), (c : Int), 1) := by
  simp only [sliceBounds, Option.getD_none]
  have h1 : ¬ ((a : Int) < 0) := by omega
  have h2 : ¬ ((c : Int) < 0) := by omega
  simp only [h1, h2, if_false, show (1 : Int) > 0 by decide, if_true]
  congr 1
  · omega
  · congr 1; omega
set_option maxRecDepth 100000 in
/-- list.__setitem__ with a slice of step one and another list -/
theorem setItem_slice {l b sl : Addr} {items new : Array Value} {n n2 : Nat} {vl vu : Value} {a c : Nat} {Q : Unit → Shared → Prop}
    (e : s.heap.get? l = some { cls := .type "list", data := .seq items n }) (e2 : s.heap.get? b = some { cls := .type "list", data := .seq new n2 }) (hne : l ≠ b)
    (hs : s.heap.IsSliceOf sl vl vu .none) (pl : IsPart vl (some (a : Int))) (pu : IsPart vu (some (c : Int))) (hac : a ≤ c) (hc : c ≤ items.size)
    (hsz : items.size + new.size ≤ sizeLine) (h : Q () { s with heap := s.heap.update l (Obj.mapSeq fun xs => xs.extract 0 a ++ new ++ xs.extract c xs.size) }) :
    wpAny (model prog w) A (setItem (.ref l) (.ref sl) (.ref b)) Q E s := by
  have hl : s.heap.IsList l items := PySem.IsL.isList e
  have hb : s.heap.IsList b new := PySem.IsL.isList e2
  obtain ⟨os, hos, hcs, hds⟩ := id hs
  have hTs : s.TypeIs (.ref sl) "slice" := ⟨os, hos, hcs⟩
  have hstep : ¬ ((rawPart none == rawInt 0) = true) := Bool.false_ne_true
  have hsame : Builtin.List.listSameRef (.ref l) (.ref b) = false := by
    unfold Builtin.List.listSameRef
    exact beq_eq_false_iff_ne.mpr hne
  have hmax : (max (a : Int) (c : Int)).toNat = c := by omega
  have hz' : ((fun xs : Array Value => xs.extract 0 a ++ new ++ xs.extract c xs.size) items).size ≤ sizeLine + 1 := by
    simp only [Array.size_append, Array.size_extract]
    omega
  unfold setItem
  try with_reducible refine wpAny_holding ?_
  first | refine wpAny_bind (wpAny_pure ?_) | skip
  refine wpAny_bind (wpAny_sequenceKey hl.typeIs (by decide) ?_)
  refine wpAny_bind (wpAny_callSpecial?_slot (name := Str.ofString "__setitem__") hl.typeIs slot_list_setitem
    (wpAny_call_entry slot_list_setitem hl.typeIs entry_list_setitem ?_ (args_list_setitem _ _ _)))
  show wpAny _ _ (Builtin.List.listSubscript? (.ref sl) >>= _) _ _ s
  refine wpAny_bind ?_
  unfold Builtin.List.listSubscript?
  refine wpAny_bind (wpAny_specialOf hTs slice_no_index ?_)
  simp only [Option.isNone_none, if_true]
  refine wpAny_pure ?_
  show wpAny _ _ (typeOf (.ref sl) >>= _) _ _ s
  refine wpAny_bind (wpAny_typeOf hTs ?_)
  first
    | rw [if_neg (by decide)]
    | refine PySem.W.KFB.if_not (by decide) ?_
  rw [listSliceParts_eq]
  refine wpAny_bind (wpAny_bind (wpAny_field hos hds (x := .none) rfl (wpAny_bind (wpAny_listPart .none ?_))))
  rw [if_neg hstep]
  refine wpAny_bind (wpAny_field hos hds (x := vl) rfl (wpAny_bind (wpAny_listPart pl ?_)))
  refine wpAny_bind (wpAny_field hos hds (x := vu) rfl (wpAny_bind (wpAny_listPart pu (wpAny_pure ?_))))
  first
    | simp only [hsame, Bool.false_eq_true, if_false]
    | refine PySem.W.KFB.if_not hsame ?_
    | (dsimp only
       rw [if_neg (by rw [hsame]; exact Bool.false_ne_true)])
  refine wpAny_bind (m := Builtin.List.listAllItems (.ref b) "must assign iterable to extended slice") ?_
  unfold Builtin.List.listAllItems
  refine wpAny_bind (wpAny_typeOf hb.typeIs ?_)
  first
    | refine PySem.W.KFB.if_so (by decide) ?_
    | rw [if_pos (by decide)]
    | simp only [beq_self_eq_true, Bool.true_or, if_true]
  unfold Builtin.List.listItems
  refine wpAny_bind (wpAny_seqItems e2 rfl (wpAny_pure ?_))
  refine wpAny_bind (wpAny_bind (wpAny_seqItems e rfl (wpAny_pure ?_)))
  refine wpAny_bind (wpAny_of_eq ((sliceIndices_raw (some (a : Int)) (some (c : Int)) none items.size (by simp)).trans (congrArg (pure : Int × Int × Int → Sem (Int × Int × Int)) (bounds_run hac hc))) ?_)
  show wpAny _ _ (if ((1 : Int) == 1) = true then _ else _) _ _ s
  rw [if_pos (by decide)]
  refine wpAny_bind (wpAny_rule ?_)
  first
    | simp only [notLongL hsz, Bool.false_eq_true, if_false]
    | refine PySem.W.KFB.if_not (notLongL hsz) ?_
  first | refine wpAny_bind (wpAny_pure ?_) | skip
  show wpAny _ _ (updateSeq l (fun xs => xs.extract 0 ((a : Int)).toNat ++ new ++ xs.extract (max (a : Int) (c : Int)).toNat xs.size) >>= _) _ _ s
  rw [hmax, Int.toNat_natCast]
  refine wpAny_bind (wpAny_updateSeq (hz := Nat.le_trans (Nat.le_add_right _ _) hsz) (_hz' := hz') e rfl ?_)
  refine wpAny_bind (wpAny_letGo ?_)
  first
    | exact wpAny_bind (wpAny_pure (wpAny_pure ⟨.none, rfl, wpAny_pure h⟩))
    | exact wpAny_pure ⟨.none, rfl, wpAny_pure h⟩
end

section
variable {X : Cx}
/-- xs[a:c] = ys of another list, at the value level: sl is the slice object that was just made -/
theorem set_slice {pins : List (Addr × Obj)} {s : Shared} {σ : St} {H : Hp} {l b sl : Addr} {xs ys : List V} {a c : Int} {vl vu : Value} {Q : Unit → Shared → Prop} (I : Inv X pins σ H s)
    (hH : H l = some (.lst xs)) (hB : H b = some (.lst ys)) (hne : l ≠ b) (hs : s.heap.IsSliceOf sl vl vu .none) (ra : RelV (.int a) vl) (rc : RelV (.int c) vu) (h0 : 0 ≤ a) (hac : a ≤ c) (hc : c ≤ xs.length)
    (hz : xs.length + ys.length ≤ sizeLine) (h : ∀ s', Inv X pins σ (upd H l (.lst (xs.take a.toNat ++ ys ++ xs.drop c.toNat))) s' → Q () s') :
    wpAny (model X.prog X.w) X.A (setItem (.ref l) (.ref sl) (.ref b)) Q X.xe s := by
  obtain ⟨ta, rfl⟩ := ra
  obtain ⟨tc, rfl⟩ := rc
  obtain ⟨z, its, n, r, hl, e⟩ := I.lstM hH
  obtain ⟨z2, its2, n2, r2, hl2, e2⟩ := I.lstM hB
  obtain ⟨a', rfl⟩ := Int.eq_ofNat_of_zero_le h0
  obtain ⟨c', rfl⟩ := Int.eq_ofNat_of_zero_le (Int.le_trans h0 hac)
  simp only [Int.toNat_natCast] at h
  refine setItem_slice (a := a') (c := c') e e2 hne hs (.int _ _) (.int _ _) (by omega) (by rw [List.size_toArray]; omega) (by rw [List.size_toArray, List.size_toArray]; omega) (h _ ?_)
  refine I.lset (its' := its.take a' ++ its2 ++ its.drop c') (t' := s.toks) hH e ?_ (Vals.append (Vals.append (r.take _) r2) (r.drop _)) ?_
  · exact splice_eq its its2 a' c'
  · rw [List.length_append, List.length_append, List.length_take, List.length_drop]
    omega
end
end L2

namespace Att
open PySem PySem.W PySem.Calls PyProof.Rows

/-! ### the script -/
theorem ints_of_wellAll {P : Params} {h : Heap} : ∀ (ns : List Int) (vs : List Value), WellAll P h vs (ns.map WData.int) → IntsAre vs ns := by
  intro ns
  induction ns with
  | nil =>
    intro vs w
    rw [List.map_nil] at w
    cases w
    exact .nil
  | cons n ns ih =>
    intro vs w
    rw [List.map_cons] at w
    cases w with
    | cons a b =>
      cases a
      exact .cons _ _ (ih _ b)

theorem script_of {l : OpenLaw} {n : Nat} (hn : l.most = some n) {P : Params} {h : Heap} {args : List WData} {vals : List Value}
    (hpre : l.row.toRowW.claim.pre args = true) (hwl : WellAll P h vals args) :
    ∃ a vs ns, vals = [Value.ref a] ∧ args = [WData.list (ns.map WData.int)] ∧ h.get? a = some { cls := .type "list", data := .seq vs.toArray } ∧ IntsAre vs ns ∧ ns.length ≤ n := by
  have hsh : WShape.hasAll [] args [.list .int] = true := (pre_splitW hpre).1
  have hc : l.pre.holds [] { args := args } = true := (pre_splitW hpre).2
  obtain ⟨d, r, rfl, h1, h2⟩ := hasAllW_cons hsh
  obtain rfl := hasAllW_nil h2
  obtain ⟨xs, rfl, h3⟩ := hasW_list h1
  obtain ⟨ns, rfl⟩ := items_int h3
  have hlen : ns.length ≤ n := by
    unfold OpenLaw.pre at hc
    have h4 : (WTm.not (.lt (.lit (.int (n : Int))) (.len (.arg 0)))).holds [] { args := [.list (ns.map .int)] } = true := by
      have h4 := (holds_andW hc).1
      rw [hn] at h4
      exact h4
    have h5 := condW_of h4 (w_not (w_lt w_lit (w_len_list (w_arg rfl))))
    rw [List.length_map] at h5
    refine Nat.le_of_not_lt fun q => ?_
    have q' : (n : Int) < ((ns.length : Nat) : Int) := by omega
    first
      | (rw [decide_eq_true q'] at h5; exact absurd h5 (by decide))
      | (simp at h5; omega)
  cases hwl with
  | cons w1 w2 =>
    cases w2
    cases w1 with
    | list ho hall => exact ⟨_, _, ns, rfl, rfl, ho, ints_of_wellAll ns _ hall, hlen⟩

theorem post_true (l : OpenLaw) (args : List WData) : l.row.toRowW.claim.post args (.bool true) args = true :=
  postW_of (r := l.row.toRowW) (X := (true == true))
    (show WShape.has [] (.bool true) .bool = true by first | rfl | decide | simp [WShape.has, WShape.arms, WShape.armsAll])
    (show (WTm.eq .res (.lit (.bool true))).value [] { args := args, res := some (.bool true), after := args } = some (.bool (true == true)) from w_eq_bool (w_res rfl) w_lit) rfl

/-! ### the attachment: holds_open's last premise (the goal 'hc' behind k_head) from a wpAny of the law's body -/
theorem attach {l : OpenLaw} {n : Nat} {q : Program} {loose : List Str} {XP : (Str → Option Value) → Heap → Prop} {YP : World → Heap → Prop} {d : DefRec} {x : Str}
    (hn : l.most = some n) (hdf : d.params.defaults = [])
    (hbind : ∀ pm cd doc v : Value, bindArgs (docDef d.name d.params d.body d.scope pm cd doc) ⟨[v], []⟩ = pure [(x, v)])
    (hx : d.scope.names.lookup x = some .local ∨ d.scope.names.lookup x = some .cell)
    (hk : d.scope.kind = .function) (hco : d.scope.isCoroutine = false) (hgen : d.scope.isGenerator = false)
    (body : ∀ (w : World) (s₀ s₁ s : Shared) (mg mb : Str → Option Value) (fa : Addr) (o : Obj) (pm cd doc : Value) (a : Addr) (vs : List Value) (ns : List Int),
      Ground q loose [] XP w s₀ mg mb s₁.heap → YP w s₁.heap →
      s₁.heap.get? fa = some o → o.data = .func (docDef d.name d.params d.body d.scope pm cd doc) → s₁.heap.CodeRec cd d.name → mg d.name = some (.ref fa) →
      s₁.heap.get? a = some { cls := .type "list", data := .seq vs.toArray } → IntsAre vs ns → ns.length ≤ n →
      s.gens = #[] → s.os = s₁.os →
      Fr s₁.heap s₁.heap.objs.size s.heap (bindL (envOfC d.name d.scope s₁.heap.objs.size fa cd).kindOf [(x, .ref a)] fun _ => none) →
      Cl s₁.heap.objs.size (cellsFrom (s₁.heap.objs.size + 1) d.scope.names []) s.heap (bindC (envOfC d.name d.scope s₁.heap.objs.size fa cd).kindOf [(x, .ref a)] fun _ => none) →
      wpAny (model l.prog w) (callerA.deeper (envOfC d.name d.scope s₁.heap.objs.size fa cd)) (execs d.body (envOfC d.name d.scope s₁.heap.objs.size fa cd))
        (fun f s' => f = .ret (.bool true) ∧ OldK s₁.heap s'.heap ∧ s'.os = s₁.os ∧ AllBare s'.gens) (fun _ _ => False) s) :
    WalkO q loose XP YP l.row.toRowW d [] (fun f vs => PySem.call f vs) := by
  intro w s₀ s₁ mg mb G Y fa o pm cd doc dV kV ho hd hcd hD hmg hg args vals as hpre hlay hrd hwl hlo
  obtain rfl : dV = .none := Dflts.none hD hdf
  obtain rfl : kV = .none := Dflts.noKw hD
  obtain ⟨a, vs, ns, rfl, rfl, hobj, hints, hlen⟩ := script_of hn hpre hwl
  refine enter_call ?_
  refine call_cells_ret (o := o) (by rw [depth_caller]; decide) ho (fd_plain hd) G.T.nolimit hcd (hbind pm cd doc (.ref a)) (fun y hy => ?_) (fun h₁ tk F X => ?_) hco hgen hk
  · obtain rfl : y = (x, Value.ref a) := List.mem_singleton.mp hy
    rcases hx with e | e
    · exact .inl e
    · exact .inr ⟨e, cellsFrom_some _ _ _ (.inl e)⟩
  · refine wpAny_mono (body w s₀ s₁ { s₁ with heap := h₁, toks := tk } mg mb fa o pm cd doc a vs ns G Y ho (fd_plain hd) hcd hmg hobj hints hlen hg rfl F X) (fun f s' hq => ?_) (fun _ _ hq => hq)
    obtain ⟨rfl, h2, h3, h4⟩ := hq
    exact ⟨.inl ⟨.bool true, .bool true, [], rfl, fun _ => rfl, .bool true, post_true l _, fun _ => ⟨List.Pairwise.nil, fun _ hm => (nomatch hm)⟩⟩, h2, h3, h4⟩

/-- the same from a codeAny of the CALL (for a layer whose function contracts speak of calls) -/
theorem attach_call {l : OpenLaw} {n : Nat} {q : Program} {loose : List Str} {XP : (Str → Option Value) → Heap → Prop} {YP : World → Heap → Prop} {d : DefRec}
    (hn : l.most = some n) (hdf : d.params.defaults = [])
    (call : ∀ (w : World) (s₀ s₁ : Shared) (mg mb : Str → Option Value) (fa : Addr) (o : Obj) (pm cd doc : Value) (a : Addr) (vs : List Value) (ns : List Int),
      Ground q loose [] XP w s₀ mg mb s₁.heap → YP w s₁.heap →
      s₁.heap.get? fa = some o → o.data = .func (docDef d.name d.params d.body d.scope pm cd doc) → s₁.heap.CodeRec cd d.name → mg d.name = some (.ref fa) →
      s₁.heap.get? a = some { cls := .type "list", data := .seq vs.toArray } → IntsAre vs ns → ns.length ≤ n → s₁.gens = #[] →
      codeAny (model l.prog w) callerA (.call (.ref fa) ⟨[.ref a], []⟩) (fun r s' => r = .ok (.ret (.bool true)) ∧ OldK s₁.heap s'.heap ∧ s'.os = s₁.os ∧ AllBare s'.gens) s₁) :
    WalkO q loose XP YP l.row.toRowW d [] (fun f vs => PySem.call f vs) := by
  intro w s₀ s₁ mg mb G Y fa o pm cd doc dV kV ho hd hcd hD hmg hg args vals as hpre hlay hrd hwl hlo
  obtain rfl : dV = .none := Dflts.none hD hdf
  obtain rfl : kV = .none := Dflts.noKw hD
  obtain ⟨a, vs, ns, rfl, rfl, hobj, hints, hlen⟩ := script_of hn hpre hwl
  refine enter_call (codeAny_mono (call w s₀ s₁ mg mb fa o pm cd doc a vs ns G Y ho (fd_plain hd) hcd hmg hobj hints hlen hg) fun r s' hq => ?_)
  obtain ⟨rfl, h2, h3, h4⟩ := hq
  exact ⟨.inl ⟨.bool true, .bool true, [], rfl, fun _ => rfl, .bool true, post_true l _, fun _ => ⟨List.Pairwise.nil, fun _ hm => (nomatch hm)⟩⟩, h2, h3, h4⟩

/-- the same where the top left finished generators (o_head chose holds_openN): nothing may have changed at all and no generator may be left -/
theorem attachN {l : OpenLaw} {n : Nat} {q : Program} {loose : List Str} {XP : (Str → Option Value) → Heap → Prop} {YP : World → Heap → Prop} {d : DefRec} {x : Str}
    (hn : l.most = some n) (hdf : d.params.defaults = [])
    (hbind : ∀ pm cd doc v : Value, bindArgs (docDef d.name d.params d.body d.scope pm cd doc) ⟨[v], []⟩ = pure [(x, v)])
    (hx : d.scope.names.lookup x = some .local ∨ d.scope.names.lookup x = some .cell)
    (hk : d.scope.kind = .function) (hco : d.scope.isCoroutine = false) (hgen : d.scope.isGenerator = false)
    (body : ∀ (w : World) (s₀ s₁ s : Shared) (mg mb : Str → Option Value) (fa : Addr) (o : Obj) (pm cd doc : Value) (a : Addr) (vs : List Value) (ns : List Int),
      Ground q loose [] XP w s₀ mg mb s₁.heap → YP w s₁.heap →
      s₁.heap.get? fa = some o → o.data = .func (docDef d.name d.params d.body d.scope pm cd doc) → s₁.heap.CodeRec cd d.name → mg d.name = some (.ref fa) →
      s₁.heap.get? a = some { cls := .type "list", data := .seq vs.toArray } → IntsAre vs ns → ns.length ≤ n →
      s.gens = #[] → s.os = s₁.os →
      Fr s₁.heap s₁.heap.objs.size s.heap (bindL (envOfC d.name d.scope s₁.heap.objs.size fa cd).kindOf [(x, .ref a)] fun _ => none) →
      Cl s₁.heap.objs.size (cellsFrom (s₁.heap.objs.size + 1) d.scope.names []) s.heap (bindC (envOfC d.name d.scope s₁.heap.objs.size fa cd).kindOf [(x, .ref a)] fun _ => none) →
      wpAny (model l.prog w) (callerA.deeper (envOfC d.name d.scope s₁.heap.objs.size fa cd)) (execs d.body (envOfC d.name d.scope s₁.heap.objs.size fa cd))
        (fun f s' => f = .ret (.bool true) ∧ (∀ b o, s₁.heap.get? b = some o → s'.heap.get? b = some o) ∧ s'.os = s₁.os ∧ s'.gens = #[]) (fun _ _ => False) s) :
    WalkN q loose XP YP l.row.toRowW d [] (fun f vs => PySem.call f vs) := by
  intro w s₀ s₁ mg mb G Y fa o pm cd doc dV kV ho hd hcd hD hmg hg args vals as hpre hlay hrd hwl hlo
  obtain rfl : dV = .none := Dflts.none hD hdf
  obtain rfl : kV = .none := Dflts.noKw hD
  obtain ⟨a, vs, ns, rfl, rfl, hobj, hints, hlen⟩ := script_of hn hpre hwl
  refine enter_callW ?_
  refine call_cells_ret (o := o) (by rw [depth_caller]; decide) ho (fd_plain hd) G.T.nolimit hcd (hbind pm cd doc (.ref a)) (fun y hy => ?_) (fun h₁ tk F X => ?_) hco hgen hk
  · obtain rfl : y = (x, Value.ref a) := List.mem_singleton.mp hy
    rcases hx with e | e
    · exact .inl e
    · exact .inr ⟨e, cellsFrom_some _ _ _ (.inl e)⟩
  · refine wpAny_mono (body w s₀ s₁ { s₁ with heap := h₁, toks := tk } mg mb fa o pm cd doc a vs ns G Y ho (fd_plain hd) hcd hmg hobj hints hlen hg rfl F X) (fun f s' hq => ?_) (fun _ _ hq => hq)
    obtain ⟨rfl, h2, h3, h4⟩ := hq
    exact ⟨.inl ⟨.bool true, .bool true, [], rfl, fun _ => rfl, .bool true, post_true l _, fun _ => ⟨List.Pairwise.nil, fun _ hm => (nomatch hm)⟩⟩, h2, h3, h4⟩

/-! ### rules over ANY heap (no ledger) from facts about the written part K: the library's own take a ledger (News) for what they write -/
section
variable {prog : Program} {w : World} {A : Around} {E : Value → Shared → Prop} {s : Shared} {K : Frag}

/-- a def of the module, or a method (qual 'C.m'), entered: the frame is the next address; cells behind it -/
theorem call_fn {R : Result → Shared → Prop} {name qual : Str} {params : Arguments} {body : List Stmt} {scope : Scope} {dV kV doc pm cdv ct oc : Value} {an od : Option Addr} {osl : Array (Option Value)} {f : Addr} {args : Args} {binds : List (Str × Value)}
    (X : K.In s.heap) (hlim : s.heap.NoLimit) (ho : K.lookup f = some ⟨oc, od, .func (fnOf name qual params body scope dV kV doc pm an cdv ct), osl⟩) (hcd : codeIn K cdv qual = true) (hroom : A.depth < recursionLimit)
    (hbind : BindsTo s (fnOf name qual params body scope dV kV doc pm an cdv ct) args binds)
    (hkind : (binds.all fun y => scope.names.lookup y.1 == some .local || scope.names.lookup y.1 == some .cell) = true)
    (h : ∀ s₁, InCallC s s.heap.objs.size (bindL (envOfC qual scope s.heap.objs.size f cdv).kindOf binds fun _ => none) (cellsFrom (s.heap.objs.size + 1) scope.names [])
        (bindC (envOfC qual scope s.heap.objs.size f cdv).kindOf binds fun _ => none) s₁ →
      wpAny (model prog w) (A.deeper (envOfC qual scope s.heap.objs.size f cdv)) (execs body (envOfC qual scope s.heap.objs.size f cdv))
        (fun fl s' => R (.ok (.ret (match fl with | .ret v => v | _ => .none))) s')
        (fun e s' => wpAny (model prog w) (A.deeper (envOfC qual scope s.heap.objs.size f cdv)) (leaving (envOfC qual scope s.heap.objs.size f cdv) e) (fun _ s'' => R (.error e) s'') (fun e' s'' => R (.error e') s'') s') s₁)
    (hco : scope.isCoroutine = false) (hgen : scope.isGenerator = false) (hk : scope.kind = .function) : codeAny (model prog w) A (.call (.ref f) args) R s := by
  refine codeAny_call_function hroom (X _ _ ho) rfl hco hgen rfl (codeRec_of X hcd) (hbind _ _ _ _ ?_)
  refine wpAny_newFunctionEnv_cells hk (kindsX hkind _) fun env he s₁ x => ?_
  subst he
  exact ⟨hlim.keeps x.toInCall.keep, codeAny_func (h s₁ x)⟩

/-- C(..): dict at size, instance at size + 1, then __init__ -/
theorem make_obj {R : Result → Shared → Prop} {C fI : Addr} {rest : List Value} {kw : List (Str × Value)}
    (X : K.In s.heap) (hm : makesIn K C = true) (hi : findIn K (.ref C) "__init__" = some (some (.ref fI))) (hf : isFn K (.ref fI) = true)
    (h : codeAny (model prog w) (A.under (.builtin "type.__call__" ⟨.ref C :: rest, kw⟩)) (.call (.ref fI) ⟨.ref (s.heap.objs.size + 1) :: rest, kw⟩) (InitBack (s.heap.objs.size + 1) R)
      { s with heap := (s.heap.push emptyDict).push (instObj C s.heap.objs.size) }) : codeAny (model prog w) A (.call (.ref C) ⟨rest, kw⟩) R s := by
  obtain ⟨hh, g, d, t, os⟩ := s
  exact make_core (makes_of X hm) (looks_findIn X hi) (fun self => bind_fn X self (beq_iff_eq.mp hf)) (.inl rfl) h

/-- x.name where the instance's dict holds the name and the class does not -/
theorem get_field {x C : Addr} {ox : Obj} {es : List DictEntry} {n : Nat} {name : Str} {expr : Bool} {v : Value} {Q : Value → Shared → Prop}
    (X : K.In s.heap) (I : PySem.W.InstAt s.heap x ox C (some (dictOf es n))) (hg : plainGet K C name = true) (hh : hasDictIn K C = true) (ha : findIn K (.ref C) name = some none)
    (hl : getL name es = some (some v)) (hv : handedIn v = true) (h : Q v { s with toks := s.toks + 1 }) : wpAny (model prog w) A (getAttr (.ref x) name expr) Q E s :=
  get_value X I (plainGet_of hg).1 (findObj_own hh ha rfl hl) hv h

/-- x.m(..): the method found in the class -/
theorem get_method {x C f : Addr} {ox : Obj} {es : List DictEntry} {n : Nat} {name : Str} {pl : Sem Bool} {Q : Value × List Value → Shared → Prop}
    (X : K.In s.heap) (I : PySem.W.InstAt s.heap x ox C (some (dictOf es n))) (hg : plainGet K C name = true) (hf : findIn K (.ref C) name = some (some (.ref f))) (ht : isFn K (.ref f) = true)
    (hl : getL name es = some none) (h : Q (.ref f, [.ref x]) s) : wpAny (model prog w) A (getMethod (.ref x) name pl) Q E s :=
  method_fn X I (plainGet_of hg).1 (plainGet_of hg).2 hf (beq_iff_eq.mp ht) (by show (lookIn name (dictOf es n)).map _ = _; rw [lookIn_dict, hl]; rfl) h

/-! the whole heap as the ledger: makes every rule that writes through a ledger a rule over any heap -/
def noObjs (h : Heap) : Heap := { h with objs := #[] }
theorem noObjs_get (h : Heap) (b : Addr) : (noObjs h).get? b = none := by
  cases e : (noObjs h).get? b with
  | none => rfl
  | some o => exact absurd (Heap.lt_size e) (Nat.not_lt_zero _)
def ledger (h : Heap) (L d : Addr) : List (Addr × Obj) := (List.range h.objs.size).filterMap fun a => if a = L ∨ a = d then none else (h.get? a).map fun o => (a, o)
theorem mem_ledger {h : Heap} {L d a : Addr} {o : Obj} : (a, o) ∈ ledger h L d ↔ a ≠ L ∧ a ≠ d ∧ h.get? a = some o := by
  unfold ledger
  rw [List.mem_filterMap]
  constructor
  · rintro ⟨b, _, e⟩
    split at e
    · cases e
    · rename_i hb
      obtain ⟨o', ho, e'⟩ := Option.map_eq_some_iff.mp e
      cases e'
      exact ⟨fun q => hb (.inl q), fun q => hb (.inr q), ho⟩
  · rintro ⟨n1, n2, ho⟩
    refine ⟨a, List.mem_range.mpr (Heap.lt_size ho), ?_⟩
    rw [if_neg (show ¬ (a = L ∨ a = d) from fun q => q.elim n1 n2), ho] <;> rfl
theorem news_ledger {h : Heap} {L d : Addr} {od : Obj} (hne : d ≠ L) (ho : h.get? d = some od) : News (noObjs h) L h ([] ++ (d, od) :: ledger h L d) := by
  rintro ⟨a, o⟩ hp
  rcases List.mem_cons.mp hp with e | hp
  · cases e
    exact ⟨ho, hne, noObjs_get _ _⟩
  · obtain ⟨n1, n2, e⟩ := mem_ledger.mp hp
    exact ⟨e, n1, noObjs_get _ _⟩
theorem fr_all {h : Heap} {L : Addr} {m : Str → Option Value} (n : h.Ns L m) : Fr (noObjs h) L h m :=
  ⟨n, fun b o e => (by rw [noObjs_get] at e; cases e), Nat.zero_le _⟩
/-- Upd of the head entry (for append_K, setItem_K ..) -/
theorem upd_ledger {h : Heap} {L d : Addr} {o o' : Obj} : Upd d o o' ((d, o) :: ledger h L d) ((d, o') :: ledger h L d) :=
  .head fun ⟨_, _⟩ hp => (mem_ledger.mp hp).2.1

/-- x.name = v over any heap: L is any namespace of the heap (the frame's, say): its map stays, its object is not told; all else but the dict stays -/
theorem set_field {x C dx L : Addr} {ox : Obj} {m : Str → Option Value} {es es' : List DictEntry} {n n' : Nat} {name : Str} {v : Value} {Q : Unit → Shared → Prop}
    (X : K.In s.heap) (I : PySem.W.InstAt s.heap x ox C (some (dictOf es n))) (hd : ox.dict = some dx) (hL : s.heap.Ns L m) (hne : dx ≠ L)
    (hs : findIn K (.ref C) "__setattr__" = some (some (.builtin "object.__setattr__"))) (hp : plainOver K C = true) (ht : takerIn K C name = some none) (hh : hasDictIn K C = true) (hl : (getL name es).isSome = true)
    (e : (putL name (PyData.keyHash w.params name) (.str name (s.toks + 1)) v es, putN name es n) = (es', n')) (hz : es'.length ≤ 1000)
    (h : ∀ h' : Heap, h'.Ns L m → h'.get? dx = some (dictOf es' n') → (∀ b o, b ≠ dx → b ≠ L → s.heap.get? b = some o → h'.get? b = some o) → Q () { s with heap := h', toks := s.toks + 2 }) :
    wpAny (model prog w) A (setAttr (.ref x) name v) Q E s := by
  obtain ⟨e1, e2⟩ := Prod.mk.inj e
  have hdx : s.heap.get? dx = some (dictOf es n) := by
    have := I.dict
    rw [hd] at this
    exact this
  refine set_plain X I hs (osa_dict (s := { s with toks := s.toks + 1 }) (h₀ := noObjs s.heap) (L := L) (m := m) (od := dictOf es n) (od' := dictOf es' n') (es := es') (n := n') (pre := []) (post := ledger s.heap L dx)
    (fr_all hL) (news_ledger hne hdx) X I hd hp ht hh hl (fun _ q => nomatch q) (fun ⟨_, _⟩ q => (mem_ledger.mp q).2.1) (by rw [putName_dict, e1, e2]) rfl hz fun h' F' N' => ?_)
  exact h h' F'.ns (N'.get (List.Mem.head _)) fun b o n1 n2 ho => N'.get (List.Mem.tail _ (mem_ledger.mpr ⟨n2, n1, ho⟩))
end
end Att

namespace L2
open PySem PySem.Spec PyProof.Rows

theorem vals_ints : ∀ {vs : List Value} {ns : List Int}, IntsAre vs ns → Vals (ns.map V.int) vs
  | _, _, .nil => .nil
  | _, _, .cons n t h => .cons ⟨t, rfl⟩ (vals_ints h)

/-- nothing is tracked but the script, known to the object (or it is an object of the module) -/
def Only (H : Hp) : Prop := ∀ b, H b = none ∨ ∃ o xs, H b = some (.frz o (.lst xs))

/-- THE HEAD: the law's promise, at the heap behind the top. F, the promise of the law's def, may use that base is part of the heap (so K.In base, base.Ns mainGlobals mg stand in Mod) -/
theorem law_call {P : Program} {w : World} {K : PySem.W.Frag} {mg mb : Str → Option Value} {CX : CXT} {k : Nat} {fa a : Addr} {fd : FuncData} {x : Str} {sp : Sp} {s₁ : Shared} {vs : List Value} {ns : List Int}
    (KX : K.In s₁.heap) (hns : s₁.heap.Ns mainGlobals mg) (hb : s₁.heap.Ns builtinsNs mb) (hbb : ∀ x : Str, x ≠ "__name__" → mb x = bootBuiltins x) (hlim : s₁.heap.NoLimit) (hg : s₁.gens = #[])
    (ha : s₁.heap.get? a = some { cls := .type "list", data := .seq vs.toArray }) (hi : IntsAre vs ns) (hl : ns.length ≤ sizeLine) (hr : Room k callerA)
    (F : ∀ base : Heap, K.In base → base.Ns mainGlobals mg → FnOk P w K mg base CX k fa fd [x] sp) (hbind : ∀ (s : Shared) (u : Value), BindsTo s fd ⟨[u], []⟩ [(x, u)])
    (hsp : ∀ H : Hp, Only H → SqL K H a (ns.map V.int) → sp [.ref a] H (fun v _ => v = .bl true) fun _ _ _ => False)
    (hCX : ∀ H e s', CX [] H s₁ (fun _ _ _ => False) e s' → False) :
    codeAny (model P w) callerA (.call (.ref fa) ⟨[.ref a], []⟩) (fun r s' => r = .ok (.ret (.bool true)) ∧ OldK s₁.heap s'.heap ∧ s'.os = s₁.os ∧ AllBare s'.gens) s₁ := by
  have rv := vals_ints hi
  have lenV := hi.length
  -- from an abstract heap in which nothing but the script may be tracked
  have core : ∀ H : Hp, Only H → SqL K H a (ns.map V.int) → HOk P w H s₁.heap → (∀ b, H b ≠ none → b = a) → (H a ≠ none → K.lookup a = none) →
      codeAny (model P w) callerA (.call (.ref fa) ⟨[.ref a], []⟩) (fun r s' => r = .ok (.ret (.bool true)) ∧ OldK s₁.heap s'.heap ∧ s'.os = s₁.os ∧ AllBare s'.gens) s₁ := by
    intro H hO hS hok hA hK
    have base_of : ∀ {b : Addr} {o : Obj}, s₁.heap.get? b = some o → H b = none → (hidT s₁.heap H).get? b = some o := fun e n => hidT_get e n
    have noA : ∀ {b : Addr} {o : Obj} {es : Array DictEntry} {ep : Nat}, s₁.heap.get? b = some o → o.data = .dict es ep → H b = none := fun {b o es ep} e d => by
      cases q : H b with
      | none => rfl
      | some u =>
        have e' : b = a := hA b (by rw [q]; simp)
        subst e'
        rw [ha] at e; cases e
        have d' : Data.seq vs.toArray _ = Data.dict es ep := d
        cases d'
    have nsK : ∀ {b : Addr} {m : Str → Option Value}, s₁.heap.Ns b m → (hidT s₁.heap H).Ns b m := fun {b m} ⟨o, es, ep, e, d, r⟩ => ⟨o, es, ep, base_of e (noA e d), d, r⟩
    have hKb : K.In (hidT s₁.heap H) := fun b o e => base_of (KX b o e) (by
      cases q : H b with
      | none => rfl
      | some u =>
        have e' : b = a := hA b (by rw [q]; simp)
        subst e'
        rw [hK (by rw [q]; simp)] at e; cases e)
    have hM : Mod K mg (hidT s₁.heap H) := ⟨hKb, nsK hns, ⟨mb, nsK hb, hbb⟩, let ⟨mc, h1, h2⟩ := hlim; ⟨mc, nsK h1, h2⟩⟩
    have e0 : Env0 P w K mg (hidT s₁.heap H) callerA [] s₁ H := ⟨rfl, hM, fun b o e => of_hidT e, Nat.le_of_eq (hidT_size _ _), trivial, fun b hb => absurd (show b ∈ ([] : List Addr) from hb) (by simp), hok, .of_eq hg⟩
    refine codeAny_mono ((F _ hKb (nsK hns)).run callerA [] s₁ H ⟨[.ref a], []⟩ [.ref a] [.ref a] _ _ hr e0 (hbind s₁ (.ref a)) (.cons rfl .nil) (hsp H hO hS)) fun r s' h => ?_
    cases r with
    | error e => exact (hCX H e s' h).elim
    | ok fl =>
      cases fl with
      | next => exact False.elim h
      | brk => exact False.elim h
      | cont => exact False.elim h
      | ret u =>
        obtain ⟨v, H', os, bare, un, hok', r', q⟩ := h
        have q' : v = .bl true := q
        subst q'
        obtain rfl : u = Value.bool true := r'
        refine ⟨rfl, OldK.of_keep fun b o e => ?_, os, bare⟩
        cases q : H b with
        | none => exact un.keep b o e q (by intro z; exact absurd (show b ∈ ([] : List Addr) from z) (by simp)) (by simp)
        | some u =>
          rcases hO b with z | ⟨ob, xs, z⟩
          · rw [q] at z; cases z
          · have z2 := un.frzs b ob _ z
            obtain ⟨e1, _⟩ := hok b _ z
            obtain ⟨e2, _⟩ := hok' b _ z2
            rw [e] at e1; cases e1
            exact e2
  cases hk : K.lookup a with
  | some o =>
    -- the script is one of the module's own objects
    have e := KX a o hk
    rw [ha] at e
    cases e
    refine core (fun _ => none) (fun _ => .inl rfl) (.inr ⟨_, vs.toArray, _, hk, rfl, rfl, rfl, by rw [List.size_toArray, lenV]; exact hl, by simpa using rv⟩) (fun b u z => by have z' : (none : Option HO) = some u := z; cases z') (fun b z => absurd rfl z) fun z => absurd rfl z
  | none =>
    refine core (fun b => if b = a then some (.frz { cls := .type "list", data := .seq vs.toArray } (.lst (ns.map V.int))) else none) (fun b => ?_) (.inl (.inr ⟨{ cls := .type "list", data := .seq vs.toArray }, if_pos rfl⟩)) (fun b u z => ?_) (fun b z => ?_) fun _ => hk
    · by_cases hb : b = a
      · exact .inr ⟨_, _, if_pos hb⟩
      · exact .inl (if_neg hb)
    · by_cases hb : b = a
      · have z' := (if_pos hb).symm.trans z
        cases z'
        subst hb
        exact ⟨ha, by rw [List.length_map]; exact hl, vs, _, rv, ha⟩
      · have z' := (if_neg hb).symm.trans z
        cases z'
    · by_cases hb : b = a
      · exact hb
      · exact absurd (if_neg hb) z
end L2

namespace L2
open PySem PySem.Spec PyProof.Rows

abbrev KOf {K : PySem.W.Frag} {h : Heap} (_ : K.In h) : PySem.W.Frag := K

/-- the goal that k_head leaves (case hc), from the law's promise. F gives the function object fd (K's own) once, then the promise over every base -/
theorem walk_of {l : PySem.W.OpenLaw} {n k : Nat} {q : Program} {loose : List Str} {XP : (Str → Option Value) → Heap → Prop} {YP : World → Heap → Prop} {d : DefRec} {K : Params → PySem.W.Frag} {CX : World → CXT} {sp : World → Sp} {x : Str}
    (hn : l.most = some n) (hn2 : n ≤ sizeLine) (hdf : d.params.defaults = []) (hr : Room k callerA)
    (hY : ∀ (w : World) (h : Heap), YP w h → (K w.params).In h)
    (F : ∀ (w : World) (mg : Str → Option Value) (fa : Addr) (h : Heap), (K w.params).In h → h.Ns mainGlobals mg → mg d.name = some (.ref fa) →
      ∃ fd : FuncData, (∀ (s : Shared) (u : Value), BindsTo s fd ⟨[u], []⟩ [(x, u)]) ∧
        ∀ base : Heap, (K w.params).In base → base.Ns mainGlobals mg → FnOk l.prog w (K w.params) mg base (CX w) k fa fd [x] (sp w))
    (hsp : ∀ (w : World) (H : Hp) (a : Addr) (ns : List Int), ns.length ≤ n → Only H → SqL (K w.params) H a (ns.map V.int) → sp w [.ref a] H (fun v _ => v = .bl true) fun _ _ _ => False)
    (hCX : ∀ (w : World) (H : Hp) (s : Shared) (e : Value) (s' : Shared), CX w [] H s (fun _ _ _ => False) e s' → False) :
    PySem.W.WalkO q loose XP YP l.row.toRowW d [] (fun f vs => PySem.call f vs) := by
  refine Att.attach_call hn hdf fun w s₀ s₁ mg mb fa o pm cd doc a vs ns G Y ho hd hcd hmg hobj hints hlen hg => ?_
  have KX := hY w _ Y
  obtain ⟨fd, hb, hF⟩ := F w mg fa _ KX G.T.g hmg
  exact law_call KX G.T.g G.T.b G.T.builtins G.T.nolimit hg hobj hints (Nat.le_trans hlen hn2) hr hF hb (fun H hO hS => hsp w H a ns hlen hO hS) fun H e s' => hCX w H s₁ e s'
/-- the same where the promise hangs on the written part alone: (sp := My.sp_law), no hole under a binder -/
theorem walk_ofK {l : PySem.W.OpenLaw} {n k : Nat} {q : Program} {loose : List Str} {XP : (Str → Option Value) → Heap → Prop} {YP : World → Heap → Prop} {d : DefRec} {K : Params → PySem.W.Frag} {CX : CXT} {sp : PySem.W.Frag → Sp} {x : Str}
    (hn : l.most = some n) (hn2 : n ≤ sizeLine) (hdf : d.params.defaults = []) (hr : Room k callerA)
    (hY : ∀ (w : World) (h : Heap), YP w h → (K w.params).In h)
    (F : ∀ (w : World) (mg : Str → Option Value) (fa : Addr) (h : Heap), (K w.params).In h → h.Ns mainGlobals mg → mg d.name = some (.ref fa) →
      ∃ fd : FuncData, (∀ (s : Shared) (u : Value), BindsTo s fd ⟨[u], []⟩ [(x, u)]) ∧
        ∀ base : Heap, (K w.params).In base → base.Ns mainGlobals mg → FnOk l.prog w (K w.params) mg base CX k fa fd [x] (sp (K w.params)))
    (hsp : ∀ (K : PySem.W.Frag) (H : Hp) (a : Addr) (ns : List Int), ns.length ≤ n → Only H → SqL K H a (ns.map V.int) → sp K [.ref a] H (fun v _ => v = .bl true) fun _ _ _ => False)
    (hCX : ∀ (H : Hp) (s : Shared) (e : Value) (s' : Shared), CX [] H s (fun _ _ _ => False) e s' → False) :
    PySem.W.WalkO q loose XP YP l.row.toRowW d [] (fun f vs => PySem.call f vs) :=
  walk_of (K := K) (CX := fun _ => CX) (sp := fun w => sp (K w.params)) hn hn2 hdf hr hY F (fun w H a ns h1 h2 h3 => hsp (K w.params) H a ns h1 h2 h3) fun _ H s e s' => hCX H s e s'
end L2

/- THE LAST THEOREM (shape; LID, My.* are yours):
   My.Adr: a structure of the addresses that your layer names (classes, functions); My.Txt K t: a structure (Prop) of the equations over K;
   My.txt_mk : {K} {implicit addresses ..} (e1 : nsIn K mainGlobals "law" = some (some (.ref f))) (e2 : K.lookup f = some ⟨oc, od, .func (fnOf "law" "law" params body scope dV kV doc pm an cdv ct), sl⟩) (e3 : codeIn K cdv "law" = true) .. : ∃ t, My.Txt K t

set_option maxRecDepth 100000 in
set_option maxHeartbeats 0 in
theorem PySem.Challenge.cw_LID_holds : PySem.Challenge.rw_LID.Holds := by
  w_on; o_law; k_head; (case hw => w_witness2)
  k_fill
  refine L2.walk_of (l := PySem.Challenge.rw_LID) (n := 63) (k := 40) (x := "script") (CX := fun w => ..) (sp := fun _ => My.sp_law) rfl (by decide) rfl ⟨rfl, by decide, by decide⟩ (fun w h Y => PySem.W.kIn_of Y) ?F ?S ?C
  case F =>
    intro w mg fa h KX G hmg
    have T : ∃ t, My.Txt (L2.KOf KX) t := by
      dsimp only [L2.KOf]                          -- K must stand as «<heap const> w.params» for k_is
      refine' My.txt_mk ?e1 ?e2 ?e3 ..
      (case e1 => PySem.W.k_is)                    -- in the order: a name -> its address -> its object -> its parts
      (case e2 => PySem.W.k_is)
      ..
    obtain ⟨t, T⟩ := T
    have e0 := hmg.symm.trans (PySem.W.mg_of KX G T.law)
    cases e0                                       -- fa is the law's own address
    exact ⟨_, fun s u => .of_eq rfl, fun base kb nb => My.law_fn T kb nb⟩     -- if «.of_eq rfl» comes too early: refine' ⟨_, ?b, fun base kb nb => My.law_fn T kb nb⟩; exact fun s u => .of_eq rfl
  case S => exact fun w H a ns hl hO hS => ..
  case C => exact ..
(the tactic k_is has no namespace: write k_is) -/

/-! SHORT WORDS over the layer: a def of the text, its body, what a loop and a test want. -/
namespace L2
open PySem PySem.Spec PyProof.Rows

/-! ### the text by places -/
/-- the j-th statement of a class's body -/
def inClass (s : Stmt) (j : Nat) : Stmt := match s with
  | .ClassDef _ _ _ body _ _ _ _ _ _ _ => body.getD j (.Pass ⟨0, 0, 0, 0⟩)
  | _ => .Pass ⟨0, 0, 0, 0⟩
def defArgs (s : Stmt) : Arguments := match s with
  | .FunctionDef _ a _ _ _ _ _ _ _ _ => a
  | _ => { posonlyargs := [], args := [], vararg := none, kwonlyargs := [], kw_defaults := [], kwarg := none, defaults := [] }
def defBody (s : Stmt) : List Stmt := match s with
  | .FunctionDef _ _ b _ _ _ _ _ _ _ => b
  | _ => []
def defScope (s : Stmt) : Scope := match s with
  | .FunctionDef _ _ _ _ _ _ sc _ _ _ => sc
  | _ => { kind := .function, names := [], isGenerator := false, isCoroutine := false }

/-! ### no exception leaves a def -/
abbrev CX0 : CXT := fun _ _ _ _ _ _ => False
abbrev E0 : XK := fun _ _ _ => False
theorem pass0 {X : Cx} : Passes CX0 X E0 := fun _ _ _ _ _ _ _ h => h.elim

/-! ### a def (or method) of the text as it stands behind the top -/
structure Fun (K : PySem.W.Frag) (x qual : Str) (st : Stmt) (f : Addr) (fd : FuncData) : Prop where
  ex : ∃ (oc : Value) (od : Option Addr) (kV doc pm : Value) (an : Option Addr) (cdv ct : Value) (osl : Array (Option Value)),
    fd = PySem.W.fnOf x qual (defArgs st) (defBody st) (defScope st) .none kV doc pm an cdv ct ∧ K.lookup f = some ⟨oc, od, .func fd, osl⟩ ∧ PySem.W.codeIn K cdv qual = true
  kp : PySem.W.keepIn K (.ref f) = true
section
variable {P : Program} {w : World} {K : PySem.W.Frag} {mg : Str → Option Value} {base : Heap}
/-- THE RULE for a def: its body as a term of rules, and the reading of that term -/
theorem Fun.ok {x qual : Str} {st : Stmt} {f : Addr} {fd : FuncData} {N ps : List Str} {k : Nat} {sp : Sp} (F : Fun K x qual st f fd) (S : FnScope N ps (defScope st)) (len : ∀ vs H Q E, sp vs H Q E → vs.length = ps.length)
    (hbody : ∀ (cdv : Value) (A : Around) (outer : List Env) (s : Shared) (H : Hp) (vs : List V) (Q : VK) (E : XK), Room k (A.deeper (envOfC qual (defScope st) s.heap.objs.size f cdv)) → sp vs H Q E →
      ∃ t, PSs (cxOf CX0 P w K mg base N qual (defScope st) f cdv A outer s H E).nox (defBody st) t ∧ t { nx := fun _ H' => Q .non H', rt := Q } (start N vs) H) : FnOk P w K mg base CX0 (k + 1) f fd ps sp := by
  obtain ⟨oc, od, kV, doc, pm, an, cdv, ct, osl, rfl, lk, hcd⟩ := F.ex
  refine fn_of lk hcd S len fun A outer s H vs Q E hr hsp => ?_
  obtain ⟨t, h, q⟩ := hbody cdv A outer s H vs Q E hr hsp
  exact ⟨t, h.nox, q⟩
/-- how its arguments bind (no defaults): h is «fun _ _ _ _ _ _ us hl => match us, hl with | [_, _], _ => rfl», one _ a parameter -/
theorem Fun.binds {x qual : Str} {st : Stmt} {f : Addr} {fd : FuncData} {ps : List Str} (F : Fun K x qual st f fd)
    (h : ∀ (kV doc pm : Value) (an : Option Addr) (cdv ct : Value) (us : List Value), us.length = ps.length → bindArgs (PySem.W.fnOf x qual (defArgs st) (defBody st) (defScope st) .none kV doc pm an cdv ct) ⟨us, []⟩ = pure (ps.zip us)) : Binds K fd ps [] := by
  obtain ⟨oc, od, kV, doc, pm, an, cdv, ct, osl, rfl, lk, hcd⟩ := F.ex
  exact .all (h kV doc pm an cdv ct)
theorem fun_mk {x qual : Str} {st : Stmt} {f : Addr} {oc : Value} {od an : Option Addr} {osl : Array (Option Value)} {kV doc pm cdv ct : Value} (l : K.lookup f = some ⟨oc, od, .func (PySem.W.fnOf x qual (defArgs st) (defBody st) (defScope st) .none kV doc pm an cdv ct), osl⟩)
    (c : PySem.W.codeIn K cdv qual = true) (k : PySem.W.keepIn K (.ref f) = true) : Fun K x qual st f (PySem.W.fnOf x qual (defArgs st) (defBody st) (defScope st) .none kV doc pm an cdv ct) := ⟨⟨oc, od, kV, doc, pm, an, cdv, ct, osl, rfl, l, c⟩, k⟩
end
theorem hu_of {A : Around} {k : Nat} (hr : Room k A) : A.units + 1 < cLine := Nat.lt_of_le_of_lt (Nat.add_le_add_left (by decide : 1 ≤ 64) _) hr.units
theorem small1000 {n : Nat} (h : n ≤ 1000) : n < sizeLine := Nat.lt_of_le_of_lt h (by decide)

/-! ### expressions in short: the name that stands in the i-th slot -/
section
variable {X : Cx}
theorem pv (i : Nat) {x : Str} {pos : Pos} (hN : X.N[i]? = some x := by rfl) (hv : Vis X.env.scope x := by first | exact Or.inl rfl | exact Or.inr (Or.inl rfl) | exact Or.inr (Or.inr rfl)) (hd : (x == ("__debug__" : Str)) = false := by decide)
    (hcd : (x == ("__classdict__" : Str)) = false := by decide) : PE X (.Name x pos) (tVar i) := pe_var hN hv hd hcd
end

/-! ### tests -/
theorem iteF {A B : Prop} (h : B) : if false = true then A else B := by
  rw [if_neg Bool.false_ne_true]
  exact h
theorem iteT {A B : Prop} (h : A) : if true = true then A else B := by
  rw [if_pos rfl]
  exact h
theorem ite2 {c A B : Prop} [Decidable c] (h1 : c → A) (h2 : ¬ c → B) : if c then A else B := by
  by_cases h : c
  · rw [if_pos h]
    exact h1 h
  · rw [if_neg h]
    exact h2 h
theorem iteNS {c A B : Prop} [Decidable c] (hc : c) (h : B) : if (!decide c) = true then A else B := by
  rw [decide_eq_true hc]
  exact iteF h

/-! ### heaps -/
/-- all that was tracked is as it was -/
def Same (H H' : Hp) : Prop := ∀ b o, H b = some o → H' b = some o
theorem Same.refl (H : Hp) : Same H H := fun _ _ h => h
theorem Same.trans {H H1 H2 : Hp} (a : Same H H1) (b : Same H1 H2) : Same H H2 := fun c o h => b c o (a c o h)
theorem Same.free {H H' : Hp} (e : Same H H') {l : Addr} (h : H' l = Option.none) : H l = Option.none := by
  cases q : H l with
  | none => rfl
  | some o =>
    rw [e l o q] at h
    cases h
theorem Same.seq {K : PySem.W.Frag} {H H' : Hp} {a : Addr} {xs : List V} (e : Same H H') (h : SqL K H a xs) : SqL K H' a xs := by
  rcases h with (h | ⟨o, h⟩) | h
  · exact .inl (.inl (e _ _ h))
  · exact .inl (.inr ⟨o, e _ _ h⟩)
  · exact .inr h

end L2

set_option Elab.async false
set_option linter.all false
set_option maxRecDepth 100000
set_option maxHeartbeats 4000000
/-! ### Texts by their codes: rules over the layer -/
namespace L2
open PySem PySem.Spec PyProof.Rows PySem.Builtin PySem.Builtin.Str
set_option linter.all false
abbrev tx (l : List Nat) : Str := ⟨l.toArray⟩
theorem tx_of (x : Str) : tx x.cps.toList = x := by cases x; simp [tx]
theorem tx_codes (l : List Nat) : (tx l).cps.toList = l := by simp
theorem tx_len (l : List Nat) : (tx l).length = l.length := by simp [Str.length]
theorem tx_app (a b : List Nat) : tx a ++ tx b = tx (a ++ b) := by
  show Str.mk (a.toArray ++ b.toArray) = _
  simp [tx]
theorem tx_inj {a b : List Nat} : tx a = tx b ↔ a = b := by simp [tx]
def cutN (l : List Nat) (lo hi : Option Int) : List Nat := (l.drop (HT.sIx l.length 0 lo)).take (HT.sIx l.length l.length hi - HT.sIx l.length 0 lo)
theorem clipN (v : Option Int) (n d : Nat) : (match v with | none => (d : Int) | some i => max 0 (min (if i < 0 then i + (n : Int) else i) (n : Int))) = ((HT.sIx n d v : Nat) : Int) := by
  cases v with
  | none => rfl
  | some i =>
    show max 0 (min (if i < 0 then i + (n : Int) else i) (n : Int)) = (((if i < 0 then (i + (n : Int)).toNat else min i.toNat n) : Nat) : Int)
    split <;> omega
theorem sIx_leN (n d : Nat) (hd : d ≤ n) (o : Option Int) : HT.sIx n d o ≤ n := by
  cases o with
  | none => exact hd
  | some v =>
    show (if v < 0 then (v + (n : Int)).toNat else min v.toNat n) ≤ n
    split <;> omega
theorem indices_cut (lo hi : Option Int) (n : Nat) : strSliceIndices lo hi 1 n = (List.range (HT.sIx n n hi - HT.sIx n 0 lo)).map (HT.sIx n 0 lo + ·) := by
  have e1 := clipN lo n 0
  have e2 := clipN hi n n
  unfold strSliceIndices sliceRange
  simp only [show (1 : Int) > 0 by decide, if_true]
  have f1 : ∀ (a b : Int) (p q : Nat), a = (p : Int) → b = (q : Int) → (List.range (if a < b then (b - a + 1 - 1) / 1 else 0).toNat).map (fun (k : Nat) => (a + 1 * (k : Int)).toNat) = (List.range (q - p)).map (p + ·) := by
    rintro _ _ p q rfl rfl
    have : (if (p : Int) < (q : Int) then ((q : Int) - p + 1 - 1) / 1 else 0).toNat = q - p := by
      rw [Int.ediv_one]
      split <;> omega
    rw [this]
    refine List.map_congr_left fun k _ => ?_
    omega
  exact f1 _ _ _ _ e1 e2
theorem pick_cut {α : Type} (l : List α) (a k : Nat) : ((List.range k).map (a + ·)).filterMap (fun i => l[i]?) = (l.drop a).take k := by
  induction k generalizing a with
  | zero => simp
  | succ k ih =>
    rw [List.range_succ_eq_map, List.map_cons, List.map_map]
    have e : ((fun x => a + x) ∘ Nat.succ) = fun x => (a + 1) + x := by
      funext x
      show a + (x + 1) = a + 1 + x
      omega
    rw [e, List.filterMap_cons, Nat.add_zero]
    have ih' := ih (a + 1)
    by_cases h : a < l.length
    · rw [List.getElem?_eq_getElem h, ih', List.drop_eq_getElem_cons h, List.take_succ_cons]
    · rw [List.getElem?_eq_none (by omega), ih', List.drop_eq_nil_of_le (by omega), List.drop_eq_nil_of_le (by omega)]
      simp
theorem slice_cut (l : List Nat) (lo hi : Option Int) : Txt.slice (tx l) lo hi = tx (cutN l lo hi) := by
  have hn : (tx l).length = l.length := tx_len l
  have ha := sIx_leN l.length 0 (Nat.zero_le _) lo
  have hb := sIx_leN l.length l.length (Nat.le_refl _) hi
  unfold Txt.slice
  rw [hn, indices_cut]
  have e : (List.filterMap (fun x : Nat => (tx l).cps[x]?) ((List.range (HT.sIx l.length l.length hi - HT.sIx l.length 0 lo)).map (HT.sIx l.length 0 lo + ·))) = cutN l lo hi := by
    have z : (fun x : Nat => (tx l).cps[x]?) = fun x : Nat => l[x]? := by funext x; simp [tx]
    rw [z, pick_cut]
    rfl
  split
  · rename_i h
    rw [List.length_map, List.length_range] at h
    have h2 : HT.sIx l.length l.length hi - HT.sIx l.length 0 lo = l.length := by simpa using h
    have h3 : HT.sIx l.length 0 lo = 0 ∨ l.length = 0 := by omega
    refine tx_inj.mpr ?_
    unfold cutN
    rcases h3 with h3 | h3
    · rw [h3, List.drop_zero]
      rw [h3] at h2
      rw [List.take_of_length_le (by omega)]
    · have : l = [] := List.length_eq_zero_iff.mp h3
      subst this
      simp
  · exact congrArg (fun z : List Nat => tx z) e
theorem same_new {H : Hp} {p : Addr} (h : H p = none) (o : HO) : Same H (upd H p o) := fun b u q => by rw [upd_ne (ne_of_none q h)]; exact q
theorem cut_to (l : List Nat) {i : Int} (h0 : 0 ≤ i) (h : i ≤ l.length) : cutN l none (some i) = l.take i.toNat := by
  have e : HT.sIx l.length l.length (some i) = i.toNat := by
    show (if i < 0 then (i + (l.length : Int)).toNat else min i.toNat l.length) = i.toNat
    rw [if_neg (by omega)]
    omega
  unfold cutN
  rw [e]
  show (l.drop 0).take (i.toNat - 0) = _
  rw [List.drop_zero, Nat.sub_zero]
theorem cut_one (l : List Nat) {i : Int} (h0 : 0 ≤ i) (h : i < l.length) : cutN l (some i) (some (i + 1)) = [l.getD i.toNat 0] := by
  have e1 : HT.sIx l.length 0 (some i) = i.toNat := by
    show (if i < 0 then (i + (l.length : Int)).toNat else min i.toNat l.length) = i.toNat
    rw [if_neg (by omega)]
    omega
  have e2 : HT.sIx l.length l.length (some (i + 1)) = i.toNat + 1 := by
    show (if i + 1 < 0 then (i + 1 + (l.length : Int)).toNat else min (i + 1).toNat l.length) = i.toNat + 1
    rw [if_neg (by omega)]
    omega
  unfold cutN
  have hk : i.toNat < l.length := by omega
  rw [e1, e2, List.drop_eq_getElem_cons hk, Nat.add_sub_cancel_left, List.take_succ_cons, List.take_zero, List.getD_eq_getElem?_getD, List.getElem?_eq_getElem hk]
  rfl
theorem cut_last (l : List Nat) : cutN l none (some (-1)) = l.dropLast := by
  have e : HT.sIx l.length l.length (some (-1)) = l.length - 1 := by
    show (if (-1 : Int) < 0 then (-1 + (l.length : Int)).toNat else min (-1 : Int).toNat l.length) = l.length - 1
    rw [if_pos (by decide)]
    omega
  unfold cutN
  rw [e]
  show (l.drop 0).take (l.length - 1 - 0) = _
  rw [List.drop_zero, Nat.sub_zero, List.dropLast_eq_take]
/-- ends with a text of one sign -/
theorem endswith_one (l : List Nat) (c : Nat) : Txt.endswith (tx l) (tx [c]) = (l.getLast? == some c) := by
  unfold Txt.endswith
  rw [tx_len, tx_len]
  cases h : l.getLast? with
  | none =>
    have : l = [] := List.getLast?_eq_none_iff.mp h
    subst this
    rfl
  | some d =>
    obtain ⟨r, rfl⟩ := List.getLast?_eq_some_iff.mp h
    unfold subAt
    have e : (tx (r ++ [d])).cps.extract ((r ++ [d]).length - [c].length) ((r ++ [d]).length - [c].length + (tx [c]).length) = #[d] := by
      show (r ++ [d]).toArray.extract ((r ++ [d]).length - 1) ((r ++ [d]).length - 1 + 1) = #[d]
      rw [List.extract_toArray]
      have h1 : (r ++ [d]).length - 1 = r.length := by simp
      rw [h1]
      simp [List.extract]
    rw [e]
    have h2 : decide (0 + [c].length ≤ (r ++ [d]).length) = true := by simp
    rw [h2, Bool.true_and]
    by_cases hd : d = c
    · subst hd; simp
    · simp [hd]
theorem ljust_tx (l : List Nat) (i : Int) : Txt.ljust (tx l) i = tx (l ++ List.replicate (i.toNat - l.length) 32) := by
  unfold Txt.ljust
  rw [tx_len]
  split
  · rename_i h
    have : i.toNat - l.length = 0 := by omega
    rw [this]
    simp
  · unfold padded
    refine tx_of (Str.mk _) ▸ ?_
    simp [tx]

theorem mul_tx (l : List Nat) (n : Int) : Txt.mul (tx l) n = tx (List.replicate n.toNat l).flatten := by
  have hf : ∀ (k : Nat) (acc : List Nat), (List.replicate k l.toArray).foldl (· ++ ·) acc.toArray = (acc ++ (List.replicate k l).flatten).toArray := by
    intro k
    induction k with
    | zero => intro acc; simp
    | succ k ih =>
      intro acc
      rw [List.replicate_succ, List.foldl_cons, List.replicate_succ, List.flatten_cons, ← List.append_assoc, ← ih (acc ++ l)]
      congr 1
      simp
  unfold Txt.mul
  split
  · have : n.toNat = 0 := by omega
    rw [this]
    rfl
  · split
    · rename_i h1 h2
      rw [tx_len] at h2
      rw [Bool.or_eq_true] at h2
      rcases h2 with h2 | h2
      · have : n = 1 := by simpa using h2
        subst this
        simp [tx]
      · have : l = [] := List.length_eq_zero_iff.mp (by simpa using h2)
        subst this
        simp [tx]
    · have := hf n.toNat []
      rw [List.nil_append] at this
      exact congrArg Str.mk this
theorem bt_len : bootBuiltins "len" = some (.builtin "len") := by decide +kernel
theorem bt_ord : bootBuiltins "ord" = some (.builtin "ord") := by decide +kernel
theorem bt_max : bootBuiltins "max" = some (.builtin "max") := by decide +kernel
theorem bt_min : bootBuiltins "min" = some (.builtin "min") := by decide +kernel
theorem bt_isinstance : bootBuiltins "isinstance" = some (.builtin "isinstance") := by decide +kernel
theorem bt_sum : bootBuiltins "sum" = some (.builtin "sum") := by decide +kernel
theorem bt_sorted : bootBuiltins "sorted" = some (.builtin "sorted") := by decide +kernel
theorem bt_any : bootBuiltins "any" = some (.builtin "any") := by decide +kernel
theorem bt_all : bootBuiltins "all" = some (.builtin "all") := by decide +kernel
theorem bt_abs : bootBuiltins "abs" = some (.builtin "abs") := by decide +kernel
theorem bt_repr : bootBuiltins "repr" = some (.builtin "repr") := by decide +kernel
theorem bt_int : bootBuiltins "int" = some (.type "int") := by decide +kernel
theorem bt_str : bootBuiltins "str" = some (.type "str") := by decide +kernel
theorem bt_bool : bootBuiltins "bool" = some (.type "bool") := by decide +kernel
theorem bt_list : bootBuiltins "list" = some (.type "list") := by decide +kernel
theorem bt_tuple : bootBuiltins "tuple" = some (.type "tuple") := by decide +kernel
theorem bt_dict : bootBuiltins "dict" = some (.type "dict") := by decide +kernel
theorem bt_range : bootBuiltins "range" = some (.type "range") := by decide +kernel
theorem bt_enumerate : bootBuiltins "enumerate" = some (.type "enumerate") := by decide +kernel
theorem bt_zip : bootBuiltins "zip" = some (.type "zip") := by decide +kernel
theorem bt_reversed : bootBuiltins "reversed" = some (.type "reversed") := by decide +kernel
theorem bt_set : bootBuiltins "set" = some (.type "set") := by decide +kernel
theorem lt1 (a b : Nat) : ([a] < [b]) ↔ a < b := by
  rw [List.cons_lt_cons_iff]
  simp
theorem dec_lt1 (a b : Nat) : decide ([a] < [b]) = decide (a < b) := by
  by_cases h : a < b
  · rw [decide_eq_true h, decide_eq_true ((lt1 a b).mpr h)]
  · rw [decide_eq_false h, decide_eq_false (fun z => h ((lt1 a b).mp z))]
section
variable {X : Cx}
/-- a text written out, by its codes -/
theorem pe_tx {x : Str} {l : List Nat} {j pos} (h : x = tx l) : PE X (.Constant (.str x) j pos) (tC (.str (tx l))) := by
  subst h
  exact pe_str
/-- a name of the top -/
theorem pe_gl {x : Str} {v : V} {pos : Pos} (hg : Gl X x) (h : ∃ u, X.mg x = some u ∧ RelV v u) (hd : (x == ("__debug__" : Str)) = false := by decide) : PE X (.Name x pos) (tC v) := by
  obtain ⟨u, hm, r⟩ := h
  exact pe_glob hg hm r hd
/-! ### loops over a text's signs -/
def Its (x : Str) : It := ⟨fun i _ => i < x.cps.size, fun i H y H' => H' = H ∧ ∃ c, x.cps[i]? = some c ∧ y = .str (tx [c]), fun i _ => x.cps.size ≤ i⟩
theorem turn_strA {P : Program} {w : World} {K : PySem.W.Frag} {tg : Expr} (it : Addr) (x : Str) (t : Tok) : Turn P w K tg (Its x) [it] it (fun i h => h.IsStrIter it "str_ascii_iterator" x t i) where
  mem := by simp
  obj := fun i h st b hb => by
    have e : b = it := by simpa using hb
    subst e
    obtain ⟨o, e, c, d⟩ := st
    exact ⟨o, e, fun v z => by rw [d] at z; cases z⟩
  keep := fun i h h' st k => by
    obtain ⟨o, e, c, d⟩ := st
    exact ⟨o, k it (by simp) o e, c, d⟩
  item := by
    intro X hP hw hK hc i pins s σ H E I hf st hg
    subst hP hw hK
    obtain ⟨f0, f1, f2, f3, f4, f5⟩ := hf it (by simp)
    have hi : i < x.cps.size := hg
    have hx : x.cps[i]? = some x.cps[i] := by simp [hi]
    refine wpAny_pyNext_ascii_item st hx fun h' st' sb => ?_
    have I1 : Inv X pins σ H { s with heap := h', toks := s.toks + 1 } := I.turned (fun b o hb e => (sb.2 b hb).trans e) f0 f1 f3 f4 f5
    obtain ⟨o, e, c, d⟩ := id st'
    exact ⟨_, rfl, go_of (s := { s with heap := h', toks := s.toks + 1 }) e c d (by decide) ⟨.str (tx [x.cps[i]]), H, I1, ⟨_, rfl⟩, ⟨rfl, _, hx, rfl⟩, st', fun b hb => (hf b hb).1⟩⟩
  done := by
    intro X hP hw hK hc i pins s σ H E I hf st hg
    subst hP hw hK
    obtain ⟨f0, f1, f2, f3, f4, f5⟩ := hf it (by simp)
    have hi : x.cps.size ≤ i := hg
    exact wpAny_pyNext_ascii_end (I.ok.hd hc) st (by simp [hi]) fun h' eb => ⟨rfl, I.turned (t' := s.toks) (fun b o hb e => eb b o hb e) f0 f1 f3 f4 f5⟩
  self := fun _ _ _ _ _ st h => wpAny_pyIter_striter_ascii st h
theorem turn_strW {P : Program} {w : World} {K : PySem.W.Frag} {tg : Expr} (it : Addr) (x : Str) (t : Tok) : Turn P w K tg (Its x) [it] it (fun i h => h.IsStrIter it "str_iterator" x t i) where
  mem := by simp
  obj := fun i h st b hb => by
    have e : b = it := by simpa using hb
    subst e
    obtain ⟨o, e, c, d⟩ := st
    exact ⟨o, e, fun v z => by rw [d] at z; cases z⟩
  keep := fun i h h' st k => by
    obtain ⟨o, e, c, d⟩ := st
    exact ⟨o, k it (by simp) o e, c, d⟩
  item := by
    intro X hP hw hK hc i pins s σ H E I hf st hg
    subst hP hw hK
    obtain ⟨f0, f1, f2, f3, f4, f5⟩ := hf it (by simp)
    have hi : i < x.cps.size := hg
    have hx : x.cps[i]? = some x.cps[i] := by simp [hi]
    refine wpAny_pyNext_wide_item st hx fun h' st' sb => ?_
    have I1 : Inv X pins σ H { s with heap := h', toks := s.toks + 1 } := I.turned (fun b o hb e => (sb.2 b hb).trans e) f0 f1 f3 f4 f5
    obtain ⟨o, e, c, d⟩ := id st'
    exact ⟨_, rfl, go_of (s := { s with heap := h', toks := s.toks + 1 }) e c d (by decide) ⟨.str (tx [x.cps[i]]), H, I1, ⟨_, rfl⟩, ⟨rfl, _, hx, rfl⟩, st', fun b hb => (hf b hb).1⟩⟩
  done := by
    intro X hP hw hK hc i pins s σ H E I hf st hg
    subst hP hw hK
    obtain ⟨f0, f1, f2, f3, f4, f5⟩ := hf it (by simp)
    have hi : x.cps.size ≤ i := hg
    exact wpAny_pyNext_wide_end (I.ok.hd hc) st (by simp [hi]) fun h' eb => ⟨rfl, I.turned (t' := s.toks) (fun b o hb e => eb b o hb e) f0 f1 f3 f4 f5⟩
  self := fun _ _ _ _ _ st h => wpAny_pyIter_striter_wide st h
def iStr (tl : TE) : TI := fun σ H R => tl σ H fun x H1 => ∃ z, x = .str z ∧ R (Its z) H1
theorem pi_str {tg l : Expr} {tl : TE} (hl : PE X l tl) : PI X tg l (iStr tl) := by
  intro pins s σ H R I h
  refine thn (hl pins s σ H _ I h) fun v s1 ⟨x, H1, I1, r1, q1⟩ => ?_
  obtain ⟨z, e, q⟩ := q1
  subst e
  obtain ⟨t, rfl⟩ := r1
  cases ha : z.cps.all (· < 128)
  · refine wpAny_pyIter_wide ha ?_
    refine ⟨s1.heap.objs.size, [s1.heap.objs.size], _, _, H1, rfl, I1.kept (t' := s1.toks) fun b o e => Heap.get?_push_of_some _ e, turn_strW _ z t, ⟨_, Heap.get?_push_size _ rfl, rfl, rfl⟩, fun b hb => ?_, q⟩
    have e : b = s1.heap.objs.size := by simpa using hb
    subst e
    exact I1.fpOk (Nat.le_refl _) (I1.hok.fresh (Nat.le_refl _))
  · refine wpAny_pyIter_ascii ha ?_
    refine ⟨s1.heap.objs.size, [s1.heap.objs.size], _, _, H1, rfl, I1.kept (t' := s1.toks) fun b o e => Heap.get?_push_of_some _ e, turn_strA _ z t, ⟨_, Heap.get?_push_size _ rfl, rfl, rfl⟩, fun b hb => ?_, q⟩
    have e : b = s1.heap.objs.size := by simpa using hb
    subst e
    exact I1.fpOk (Nat.le_refl _) (I1.hok.fresh (Nat.le_refl _))
/-- over a text: Pv by the number of signs taken -/
theorem for_str {l : List Nat} {g : TG} {tb : TS} {D : Ends} {σ : St} {H : Hp} (Pv : Nat → St → Hp → Prop) (h0 : Pv 0 σ H)
    (hs : ∀ i c σ H, l[i]? = some c → Pv i σ H → g (.str (tx [c])) σ H fun σ2 H2 => tb { D with nx := Pv (i + 1), ct := Pv (i + 1), bk := D.nx } σ2 H2) (hd : ∀ σ H, Pv l.length σ H → D.nx σ H) :
    ∃ W : Nat → Nat → St → Hp → Prop, (∃ m, W 0 m σ H) ∧ ∀ i m σ H, W i m σ H →
      ((Its (tx l)).stop i H ∧ D.nx σ H) ∨ ((Its (tx l)).go i H ∧ ∃ N : St → Hp → Prop, (∀ σ' H', N σ' H' → ∃ m', m' < m ∧ W (i + 1) m' σ' H') ∧ ∀ x H', (Its (tx l)).yld i H x H' → g x σ H' fun σ2 H2 => tb { D with nx := N, ct := N, bk := D.nx } σ2 H2) := by
  have hz : (tx l).cps.size = l.length := by simp
  refine ⟨fun i m σ H => m = l.length - i ∧ i ≤ l.length ∧ Pv i σ H, ⟨l.length, by simp, Nat.zero_le _, h0⟩, ?_⟩
  rintro i m σ H ⟨rfl, hi, p⟩
  by_cases hlt : i < l.length
  · refine .inr ⟨by show i < (tx l).cps.size; rw [hz]; exact hlt, Pv (i + 1), fun σ' H' p' => ⟨l.length - (i + 1), by omega, rfl, hlt, p'⟩, fun x H' y => ?_⟩
    obtain ⟨e, c, hc, y⟩ := y
    subst e y
    exact hs i c σ _ (by simpa using hc) p
  · have e : i = l.length := by omega
    subst e
    exact .inl ⟨by show (tx l).cps.size ≤ l.length; rw [hz]; exact Nat.le_refl _, hd σ H p⟩
/-! ### operations on texts -/
theorem op_le_str : OpR X (compareOp .LtE) (fun x y H Q => ∃ i j, x = .str (tx i) ∧ y = .str (tx j) ∧ Q (.bl (!decide (j < i))) H) := by
  intro pins s σ H x y v u Q I rx ry h
  obtain ⟨i, j, rfl, rfl, q⟩ := h
  obtain ⟨t, rfl⟩ := rx
  obtain ⟨t', rfl⟩ := ry
  exact PySem.P.le_str (fin_bl I q (by rw [tx_codes, tx_codes]))
theorem op_add_tx : OpR X (binaryOp .Add) (fun x y H Q => ∃ i j, x = .str (tx i) ∧ y = .str (tx j) ∧ i.length + j.length ≤ sizeLine ∧ Q (.str (tx (i ++ j))) H) := by
  intro pins s σ H x y v u Q I rx ry h
  obtain ⟨i, j, rfl, rfl, hz, q⟩ := h
  obtain ⟨t, rfl⟩ := rx
  obtain ⟨t', rfl⟩ := ry
  exact add_str (fun t' tk => ⟨.str (tx (i ++ j)), H, I.tok _, ⟨_, by rw [tx_app]⟩, q⟩) (by rw [tx_len, tx_len]; exact hz)
theorem mulOk_tx {l : List Nat} {n : Int} (h : l.length * n.toNat ≤ 16777216) (hn : n < 2 ^ 62) (hn' : -(2 ^ 62) < n) : MulOk (tx l) n := by
  have hs : sizeLine = 16777216 := sizeLine_eq
  refine ⟨?_, fun h1 h2 => ?_, fun h1 h2 => ?_⟩
  · rw [decide_eq_false (by omega), decide_eq_false (by omega)]
    rfl
  · rw [tx_len]
    intro h3
    have : (2 ^ 63 - 1 : Int) / n < l.length := h3
    have hq := Int.lt_mul_of_ediv_lt (show (0 : Int) < n by omega) this
    have e : ((l.length * n.toNat : Nat) : Int) = (l.length : Int) * n := by
      rw [Int.natCast_mul]
      congr 1
      omega
    omega
  · rw [tx_len]
    unfold tooLong
    exact decide_eq_false (by omega)
theorem op_mul_tx : OpR X (binaryOp .Mult) (fun x y H Q => ∃ l n, x = .str (tx l) ∧ y = .int n ∧ l.length * n.toNat ≤ 16777216 ∧ (-(2 ^ 62) < n ∧ n < 2 ^ 62) ∧ Q (.str (tx (List.replicate n.toNat l).flatten)) H) := by
  intro pins s σ H x y v u Q I rx ry h
  obtain ⟨l, n, rfl, rfl, hz, hn, q⟩ := h
  obtain ⟨t, rfl⟩ := rx
  obtain ⟨t', rfl⟩ := ry
  exact SB.mul (mulOk_tx hz hn.2 hn.1) fun t' k => ⟨.str _, H, I.tok _, ⟨_, by rw [mul_tx]⟩, q⟩
def rSlS : V → Option Int → Option Int → Hp → VK → Prop := fun x lo hi H Q => ∃ l, x = .str (tx l) ∧ l.length ≤ sizeLine ∧ Q (.str (tx (cutN l lo hi))) H
theorem part_of {v : Value} {o : Option Int} (p : IsPart v o) : ∃ q : Option (Int × Tok), v = partValue q ∧ q.map (·.1) = o := by
  cases p with
  | none => exact ⟨none, rfl, rfl⟩
  | int i t => exact ⟨some (i, t), rfl, rfl⟩
theorem sl_str : SlR X rSlS := by
  intro pins s σ H x v vl vu lo hi sl Q I rx hs pl pu h
  obtain ⟨l, rfl, hz, q⟩ := h
  obtain ⟨t, rfl⟩ := rx
  refine ⟨"str", _, F.slot_str_getitem.lookup, typeIs_str _ _ _, ?_⟩
  obtain ⟨p, rfl, hp⟩ := part_of pl
  obtain ⟨p', rfl, hp'⟩ := part_of pu
  obtain ⟨o, h1, h2, h3⟩ := hs
  refine wpAny_getItem_str_slice (l := p) (u := p') (st := none) ⟨o, h1, h2, h3⟩ rfl ?_
  have hc : ∀ t' k, EP X pins σ Q (.str (Txt.slice (tx l) (p.map (·.1)) (p'.map (·.1))) t') { s with toks := k } := fun t' k => by
    rw [hp, hp', slice_cut]
    exact ⟨.str _, H, I.tok _, ⟨_, rfl⟩, q⟩
  exact post_val_or_str ⟨Nat.le_trans (Txt.slice_le (tx l) _ _) (by rw [tx_len]; exact hz), hc⟩
theorem mt_endswith : MtR X "str.endswith" (fun x xs H Q => ∃ l c, x = .str (tx l) ∧ xs = [.str (tx [c])] ∧ Q (.bl (l.getLast? == some c)) H) := by
  intro pins s σ H x xs v us Q I rx rs h
  obtain ⟨l, c, rfl, rfl, q⟩ := h
  obtain ⟨t, rfl⟩ := rx
  obtain ⟨u, rfl, t', rfl⟩ := vals1 rs
  exact SC.endswith ⟨.bl _, H, I, by rw [endswith_one] <;> rfl, q⟩
theorem padOk_of {i : Int} (h : i ≤ 16777216) (h' : -(2 ^ 62) < i) : PadOk i = true := by
  have hs : sizeLine = 16777216 := sizeLine_eq
  unfold PadOk fitsSsize tooLong
  rw [decide_eq_false (show ¬ i.toNat > sizeLine by omega)]
  simp
  omega
theorem mt_ljust : MtR X "str.ljust" (fun x xs H Q => ∃ l i, x = .str (tx l) ∧ xs = [.int i] ∧ (-(2 ^ 62) < i ∧ i ≤ 16777216) ∧ Q (.str (tx (l ++ List.replicate (i.toNat - l.length) 32))) H) := by
  intro pins s σ H x xs v us Q I rx rs h
  obtain ⟨l, i, rfl, rfl, hi, q⟩ := h
  obtain ⟨t, rfl⟩ := rx
  obtain ⟨u, rfl, t', rfl⟩ := vals1 rs
  exact SC.ljust (padOk_of hi.2 hi.1) fun t' k => ⟨.str _, H, I.tok _, ⟨_, by rw [ljust_tx]⟩, q⟩
theorem call_len_tx : CallR X (.builtin "len") (fun xs H Q => ∃ l, xs = [.str (tx l)] ∧ l.length ≤ sizeLine ∧ Q (.int l.length) H) := by
  intro pins s σ H xs us Q I r h
  obtain ⟨l, rfl, hz, q⟩ := h
  refine call_len_str pins s σ H _ us Q I r ⟨tx l, rfl, by rw [tx_len]; exact hz, ?_⟩
  rw [tx_len]
  exact q
/-! ### isinstance -/
theorem call_isi : CallR X (.builtin "isinstance") (fun xs H Q => ∃ x n t b, xs = [x, .ty n] ∧ TyOf X.K H x t ∧ PySem.W.kitOne X.K t (.type n) = some b ∧ Q (.bl b) H) := by
  intro pins s σ H xs us Q I r h
  obtain ⟨x, n, t, b, rfl, ty, e, q⟩ := h
  obtain ⟨u, w', rfl, rx, ry⟩ := vals2 r
  cases (show w' = Value.type n from ry)
  exact isinst_ok I rx ty e fun tk => ⟨.bl b, H, I.tok _, rfl, q⟩
theorem kit_same (K : PySem.W.Frag) (t : Value) : PySem.W.kitOne K t t = some true := by
  unfold PySem.W.kitOne
  rw [if_pos (by simp)]
end
end L2
/-! ### A list comprehension of one clause, over the layer -/
namespace L2
open PySem PySem.Spec PyProof.Rows
set_option linter.all false
/-- the cells of the free names -/
theorem closure_all (env : Env) : ∀ (names : List (Str × NameKind)) (acc : List (Str × Addr)), (∀ y ∈ names, y.2 = .free → ∃ c, env.cells.lookup y.1 = some c) → (∀ y c, acc.lookup y = some c → env.cells.lookup y = some c) →
    ∃ cl, (forIn names acc fun (x : Str × NameKind) (cs : List (Str × Addr)) => (do
      let (name, kind) := x
      if kind == .free then let c ← cellOf env name; pure (ForInStep.yield ((name, c) :: cs)) else pure (ForInStep.yield cs) : Sem (ForInStep (List (Str × Addr))))) = pure cl ∧
      (∀ y c, cl.lookup y = some c → env.cells.lookup y = some c) ∧ (∀ y, (∃ c, acc.lookup y = some c) → ∃ c, cl.lookup y = some c) ∧ ∀ y ∈ names, y.2 = .free → ∃ c, cl.lookup y.1 = some c
  | [], acc, _, ha => ⟨acc, rfl, ha, fun _ h => h, fun y hy => nomatch hy⟩
  | (n, k) :: r, acc, h, ha => by
    by_cases hk : k = .free
    · subst hk
      obtain ⟨c, hc⟩ := h (n, .free) List.mem_cons_self rfl
      have step : ∀ y d, ((n, c) :: acc).lookup y = some d → env.cells.lookup y = some d := fun y d e => by
        rw [List.lookup_cons] at e
        cases q : y == n with
        | true =>
          rw [q] at e
          have : y = n := by simpa using q
          subst this
          cases e
          exact hc
        | false =>
          rw [q] at e
          exact ha y d e
      obtain ⟨cl, e, h1, h2, h3⟩ := closure_all env r ((n, c) :: acc) (fun y hy => h y (List.mem_cons_of_mem _ hy)) step
      refine ⟨cl, ?_, h1, fun y ⟨d, hd⟩ => h2 y ?_, fun y hy hf => ?_⟩
      · rw [List.forIn_cons]
        have e1 : cellOf env n = pure c := by unfold cellOf; rw [hc]
        simp only [beq_self_eq_true, if_true, e1]
        exact e
      · rw [List.lookup_cons]
        cases q : y == n with
        | true => exact ⟨c, rfl⟩
        | false => exact ⟨d, hd⟩
      · rcases List.mem_cons.mp hy with rfl | hy
        · exact h2 n ⟨c, by rw [List.lookup_cons, beq_self_eq_true]⟩
        · exact h3 y hy hf
    · obtain ⟨cl, e, h1, h2, h3⟩ := closure_all env r acc (fun y hy => h y (List.mem_cons_of_mem _ hy)) ha
      refine ⟨cl, ?_, h1, h2, fun y hy hf => ?_⟩
      · rw [List.forIn_cons]
        have : (k == NameKind.free) = false := by simpa using hk
        simp only [this, Bool.false_eq_true, if_false]
        exact e
      · rcases List.mem_cons.mp hy with rfl | hy
        · exact absurd hf hk
        · exact h3 y hy hf
theorem closureFor_all {scope : Scope} {env : Env} (h : ∀ y ∈ scope.names, y.2 = .free → ∃ c, env.cells.lookup y.1 = some c) :
    ∃ cl, closureFor scope env = pure cl ∧ (∀ y c, cl.lookup y = some c → env.cells.lookup y = some c) ∧ ∀ y ∈ scope.names, y.2 = .free → ∃ c, cl.lookup y.1 = some c := by
  obtain ⟨cl, e, h1, _, h3⟩ := closure_all env scope.names [] h (fun y c e => by cases e)
  refine ⟨cl, ?_, h1, h3⟩
  unfold closureFor
  first
    | exact e
    | (simp only [bind_pure]; exact e)
    | (rw [e]; rfl)
theorem compLoop_own {prog : Program} {w : World} {A : Around} {R : Result → Shared → Prop} {s : Shared} {elt target iter : Expr} {ifs : List Expr} {scope : Scope} {pos : Pos} {it acc : Value} {env : Env} (I : Nat → Shared → Prop)
    (turn : ∀ n s, I n s → wpAny (model prog w) A (pyNext it) (fun r s₁ => match r with
      | none => R (.ok .next) s₁
      | some v => wpAny (model prog w) A (letOwnedTupleGo target it v) (fun _ s₀ => wpAny (model prog w) A (assign target env v) (fun _ s₂ =>
          wpAny (model prog w) A (forIn ifs true fun c r => if r = true then do let ok ← isTrue c env (eval c env); pure (ForInStep.yield ok) else pure (ForInStep.yield r)) (fun ok s₃ =>
            if ok = true then wpAny (model prog w) A (eval elt env) (fun x s₄ =>
              wpAny (model prog w) A (call (.builtin "list.append") [acc, x]) (fun _ s₅ => ∃ m, m < n ∧ I m s₅) (fun _ _ => False) s₄) (fun _ _ => False) s₃
            else ∃ m, m < n ∧ I m s₃) (fun _ _ => False) s₂) (fun _ _ => False) s₀) (fun _ _ => False) s₁) (fun _ _ => False) s)
    (n : Nat) (h : I n s) :
    codeAny (model prog w) A (.compLoop (.ListComp elt [⟨target, iter, ifs, 0⟩] scope pos) 0 it acc env) R s := by
  refine codeAny_loop rfl I (fun n s hI => ?_) n h
  show wpAny _ A ((compTurn (.ListComp elt [⟨target, iter, ifs, 0⟩] scope pos) 0 it acc env).onRaise (fun x => do noteFrame x env; theTreesLotGoes x)) _ _ s
  refine wpAny_noted ?_
  rw [compTurn_list]
  refine wpAny_bind (wpAny_standAt (wpAny_bind (wpAny_mono (turn n s hI) (fun r s₁ h₁ => ?_) fun _ _ h' => h'.elim)))
  cases r with
  | none => exact wpAny_pure h₁
  | some v =>
    refine wpAny_bind (wpAny_mono h₁ (fun _ s₀ h₀ => ?_) fun _ _ h' => h'.elim)
    refine wpAny_bind (wpAny_mono h₀ (fun _ s₂ h₂ => wpAny_bind (wpAny_mono h₂ (fun ok s₃ h₃ => ?_) fun _ _ h' => h'.elim)) fun _ _ h' => h'.elim)
    cases ok with
    | false => exact wpAny_pure ⟨rfl, h₃⟩
    | true =>
      exact wpAny_bind (wpAny_bind (wpAny_mono h₃ (fun x s₄ h₄ => wpAny_bind (wpAny_mono h₄ (fun _ s₅ h₅ => wpAny_pure (wpAny_pure ⟨rfl, h₅⟩)) fun _ _ h' => h'.elim)) fun _ _ h' => h'.elim))
/-- the comprehension's own context: its variable, then the names that it takes from around -/
def Cx.comp (X : Cx) (N' : List Str) (scope : Scope) (cl : List (Str × Addr)) (C : Addr) (s₃ : Shared) (H₃ : Hp) (fp : List Addr) (pins : List (Addr × Obj)) : Cx :=
  { X with N := N', s₀ := s₃, H₀ := H₃, env := compEnvC scope cl C X.env, outer := X.stack, ex := fp, fn := fun _ => false, pn := X.pn ++ pins, xe := fun _ _ => False }
/-- the tests of a clause -/
def PIf (X : Cx) (ifs : List Expr) (t : TT) : Prop :=
  ∀ (pins : List (Addr × Obj)) (s : Shared) (σ : St) (H : Hp) (Q : Bool → Hp → Prop), Inv X pins σ H s → t σ H Q →
    wpAny (model X.prog X.w) X.A (forIn ifs true fun c r => if r = true then do let ok ← isTrue c X.env (eval c X.env); pure (ForInStep.yield ok) else pure (ForInStep.yield r)) (TP X pins σ Q) X.xe s
def tAll : TT := fun _ H Q => Q true H
theorem pif_nil {X : Cx} : PIf X [] tAll := fun pins s σ H Q I h => wpAny_tests_nil ⟨H, I, h⟩
theorem pif_one {X : Cx} {c : Expr} {t : TT} (h : PT X c t) : PIf X [c] t := fun pins s σ H Q I hw => wpAny_tests_one (h pins s σ H Q I hw)
def capV (σ : St) (p : Str × Nat) : Option V := (σ[p.2]?).join
def compGo (acc : Addr) (J : It) (caps : List (Str × Nat)) (tt : TT) (te : TE) (σ : St) (fin : Addr → List V → Hp → Prop) (H1 : Hp) : Prop :=
  ∃ W : Nat → Nat → List V → Hp → Prop, (∃ m, W 0 m [] (upd H1 acc (.lst []))) ∧ ∀ i m ys H, W i m ys H → H acc = some (.lst ys) ∧
    ((J.stop i H ∧ fin acc ys H) ∨ (J.go i H ∧ ∀ x H', J.yld i H x H' → tt (some x :: caps.map (capV σ)) H' fun b H2 =>
      if b = true then te (some x :: caps.map (capV σ)) H2 fun y H3 => H3 acc = some (.lst ys) ∧ ys.length < sizeLine ∧ ∃ m', m' < m ∧ W (i + 1) m' (ys ++ [y]) (upd H3 acc (.lst (ys ++ [y])))
      else ∃ m', m' < m ∧ W (i + 1) m' ys H2))
def tComp (wi : TI) (caps : List (Str × Nat)) (tt : TT) (te : TE) : TE := fun σ H Q => wi σ H fun J H1 => ∀ acc, H1 acc = none → compGo acc J caps tt te σ (fun a _ H => Q (.ref a) H) H1
/-- what the scopes must say (closed: by decide +kernel) -/
def compOk (N : List Str) (sc scope : Scope) (x : Str) (caps : List (Str × Nat)) : Bool :=
  scope.kind == .function && sc.kind == .function && (scope.names.lookup x == some .local) &&
  scope.names.all (fun y => y.2 != .cell && (y.2 != .local || scope.names.lookup y.1 == some .local) && (y.2 != .free || (scope.names.lookup y.1 == some .free && (sc.names.lookup y.1 == some .cell || sc.names.lookup y.1 == some .free)))) &&
  caps.all (fun p => N[p.2]? == some p.1 && scope.names.lookup p.1 == some .free && (sc.names.lookup p.1 == some .cell || sc.names.lookup p.1 == some .free)) && decide ((x :: caps.map (·.1)).Nodup)

theorem relabel_map (env : Env) (y : Str) : ∀ names : List (Str × NameKind),
    (names.map fun (n, k) => if (k == NameKind.free && env.scope.kind == .function && env.kindOf n == some .cell) then (n, NameKind.cell) else (n, k)).lookup y =
      (names.lookup y).map fun k => if (k == NameKind.free && env.scope.kind == .function && env.kindOf y == some .cell) = true then NameKind.cell else k
  | [] => rfl
  | (n, k) :: r => by
    have ih := relabel_map env y r
    show List.lookup y ((if (k == NameKind.free && env.scope.kind == .function && env.kindOf n == some .cell) = true then (n, NameKind.cell) else (n, k)) :: _) = _
    by_cases hc : (k == NameKind.free && env.scope.kind == .function && env.kindOf n == some .cell) = true
    · rw [if_pos hc]
      cases q : y == n with
      | true =>
        have e : y = n := by simpa using q
        subst e
        simp only [List.lookup_cons, q, Option.map_some]
        rw [if_pos hc]
      | false =>
        simp only [List.lookup_cons, q]
        exact ih
    · rw [if_neg hc]
      cases q : y == n with
      | true =>
        have e : y = n := by simpa using q
        subst e
        simp only [List.lookup_cons, q, Option.map_some]
        rw [if_neg hc]
      | false =>
        simp only [List.lookup_cons, q]
        exact ih
theorem relabel_free {scope : Scope} {env : Env} {y : Str} (h : scope.names.lookup y = some .free) : (relabel scope env).names.lookup y = some .cell ∨ (relabel scope env).names.lookup y = some .free := by
  have e : (relabel scope env).names.lookup y = _ := relabel_map env y scope.names
  rw [e, h, Option.map_some]
  split
  · exact .inl rfl
  · exact .inr rfl
structure CompOk (N : List Str) (sc scope : Scope) (x : Str) (caps : List (Str × Nat)) : Prop where
  kind : scope.kind = .function
  hx : scope.names.lookup x = some .local
  nocell : ∀ y ∈ scope.names, y.2 ≠ .cell
  loc : ∀ y ∈ scope.names, y.2 = .local → scope.names.lookup y.1 = some .local
  free : ∀ y ∈ scope.names, y.2 = .free → sc.names.lookup y.1 = some .cell ∨ sc.names.lookup y.1 = some .free
  cps : ∀ p ∈ caps, N[p.2]? = some p.1 ∧ scope.names.lookup p.1 = some .free ∧ (sc.names.lookup p.1 = some .cell ∨ sc.names.lookup p.1 = some .free)
  nd : (x :: caps.map (·.1)).Nodup
theorem CompOk.of {N : List Str} {sc scope : Scope} {x : Str} {caps : List (Str × Nat)} (h : compOk N sc scope x caps = true) : CompOk N sc scope x caps := by
  unfold compOk at h
  simp only [Bool.and_eq_true, beq_iff_eq, decide_eq_true_eq, List.all_eq_true, Bool.or_eq_true, bne_iff_ne] at h
  obtain ⟨⟨⟨⟨⟨h1, h2⟩, h3⟩, h4⟩, h5⟩, h6⟩ := h
  refine ⟨h1, h3, fun y hy => (h4 y hy).1.1, fun y hy e => ?_, fun y hy e => ?_, fun p hp => ⟨(h5 p hp).1.1, (h5 p hp).1.2, (h5 p hp).2⟩, h6⟩
  · rcases (h4 y hy).1.2 with z | z
    · exact absurd e z
    · exact z
  · rcases (h4 y hy).2 with z | z
    · exact absurd e z
    · exact z.2
theorem mem_of_lk {α : Type} {y : Str} {k : α} : ∀ {l : List (Str × α)}, l.lookup y = some k → (y, k) ∈ l := fun h => PySem.mem_of_lookup h
section
variable {X : Cx} {pins : List (Addr × Obj)} {s2 : Shared} {σ : St} {H2 : Hp} {x : Str} {px pos : Pos} {elt iter : Expr} {ifs : List Expr} {N : List Str} {scope sc : Scope} {caps : List (Str × Nat)} {tt : TT} {te : TE} {wi : TI}
theorem comp_block {it : Addr} {fp : List Addr} {tn : Nat → Heap → Prop} {J : It} {fin : Addr → List V → Hp → Prop} {cl : List (Str × Addr)} {E : Value → Shared → Prop} {RR : Value → Addr → Result → Shared → Prop}
    (hc : X.calm = true) (hsc : X.env.scope = sc) (hN : X.N = N) (ck : CompOk N sc scope x caps)
    (hcl : ∀ y c, cl.lookup y = some c → X.env.cells.lookup y = some c) (hclh : ∀ y ∈ scope.names, y.2 = .free → ∃ c, cl.lookup y.1 = some c)
    (I2 : Inv X pins σ H2 s2) (T : Turn X.prog X.w X.K (.Name x px) J fp it tn) (st2 : tn 0 s2.heap) (f2 : ∀ b ∈ fp, FpOk X pins H2 b)
    (hif : ∀ cl C s3 H3 fp pins, PIf (X.comp (x :: caps.map (·.1)) scope cl C s3 H3 fp pins) ifs tt)
    (he : ∀ cl C s3 H3 fp pins, PE (X.comp (x :: caps.map (·.1)) scope cl C s3 H3 fp pins) elt te)
    (go : ∀ acc, H2 acc = none → compGo acc J caps tt te σ fin H2)
    (hRR : ∀ (acc C : Addr) (ys : List V) (H' : Hp) (s' : Shared) (m : Str → Option Value), Inv X pins σ H' s' → FpOk X pins H' C → s'.heap.Ns C m → fin acc ys H' → RR (.ref acc) C (.ok .next) s') :
    wpAny (model X.prog X.w) X.A (newList []) (fun acc s₃ => wpAny (model X.prog X.w) X.A (newFunctionEnv scope X.env.globals cl [] X.env.qual none .none (some X.env)) (fun cenv s₄ =>
      codeAny (model X.prog X.w) X.A (.compStart (.ListComp elt [⟨.Name x px, iter, ifs, 0⟩] scope pos) 0 (.ref it) acc { cenv with scope := relabel scope X.env }) (RR acc cenv.locals) s₄) E s₃) E s2 := by
  have hacc : H2 s2.heap.objs.size = none := I2.fresh
  obtain ⟨W, ⟨m0, w0⟩, turn⟩ := go _ hacc
  have I3 : Inv X pins σ (upd H2 s2.heap.objs.size (.lst [])) { s2 with heap := s2.heap.push { cls := .type "list", data := .seq ([] : List Value).toArray }, toks := s2.toks } := I2.lnew (its := []) .nil (Nat.zero_le _)
  refine wpAny_newObj_type (wpAny_newFunctionEnv ck.nocell (by intro y hy; simp at hy) (fun h₁ hns₁ hsb₁ => ?_) ck.kind)
  dsimp only at hns₁ hsb₁ ⊢
  generalize hH3 : s2.heap.push { cls := .type "list", dict := none, data := .seq ([] : List Value).toArray } = h3 at hns₁ hsb₁ I3 ⊢
  generalize hU : upd H2 s2.heap.objs.size (.lst []) = H3 at w0 I3
  have hsz3 : h3.objs.size = s2.heap.objs.size + 1 := by rw [← hH3, Heap.size_push]
  have keep1 : ∀ b o, h3.get? b = some o → h₁.get? b = some o := fun b o e => hsb₁.extBut b o (Nat.ne_of_lt (Heap.lt_size e)) (Heap.get?_push_of_some _ e)
  have keep0 : ∀ b o, s2.heap.get? b = some o → h3.get? b = some o := fun b o e => hH3 ▸ Heap.get?_push_of_some _ e
  -- the block's own context
  let s3 : Shared := { s2 with heap := h3, toks := s2.toks }
  let X' : Cx := X.comp (x :: caps.map (·.1)) scope cl h3.objs.size s3 H3 fp pins
  have I3 : Inv X pins σ H3 s3 := I3
  have fp3 : ∀ b ∈ fp, b ≠ s2.heap.objs.size := fun b hb => by
    obtain ⟨o, e, _⟩ := T.obj 0 _ st2 b hb
    exact Nat.ne_of_lt (Heap.lt_size e)
  have f3 : ∀ b ∈ fp, H3 b = none := fun b hb => by rw [← hU, upd_ne (fp3 b hb)]; exact (f2 b hb).1
  have hkx : X'.env.scope.names.lookup x = some .local := lookup_relabel_local ck.hx
  have fpC : ∀ b ∈ fp, b ≠ h3.objs.size := fun b hb => by
    obtain ⟨o, e, _⟩ := T.obj 0 _ st2 b hb
    rw [hsz3]
    exact Nat.ne_of_lt (Nat.lt_succ_of_lt (Heap.lt_size e))
  have fpS : ∀ b ∈ fp, b ∉ frs X.stack := fun b hb z => by
    rcases List.mem_cons.mp (I3.stkSub b z) with e | e
    · exact (f2 b hb).2.1 e
    · exact (f2 b hb).2.2.1 e
  have ok' : X'.Ok := by
    refine ⟨I3.ok.mod, ck.kind, I3.ok.glob, I3.ok.blt, Nat.le_refl _, fun y z c h1 h2 => I3.ok.inj y z c (hcl y c h1) (hcl z c h2), fun y hy => ?_, fun y c hf _ => (Bool.false_ne_true hf).elim, I3.ok.hd, I3.ok.frames, .inl rfl, fun b hb => ⟨fpC b hb, fun y c h1 => (f2 b hb).2.2.2.2.1 y c (hcl y c h1)⟩, I3.bs, Nat.le_trans I3.ok.bsz I3.sz, fun b o e hb => ?_, fpS, I3.stack, I3.stkFree⟩
    · have hy' : (relabel scope X.env).names.lookup y = some .cell ∨ (relabel scope X.env).names.lookup y = some .free := hy
      have e : (relabel scope X.env).names.lookup y = _ := relabel_map X.env y scope.names
      rw [e] at hy'
      cases q : scope.names.lookup y with
      | none => rw [q] at hy'; rcases hy' with z | z <;> cases z
      | some k =>
        have hm := mem_of_lk q
        cases k with
        | free => exact hclh _ hm rfl
        | cell => exact absurd rfl (ck.nocell _ hm)
        | _ => rw [q] at hy'; rcases hy' with z | z <;> exact absurd z (by simp)
    · rcases (f2 b hb).2.2.2.1 with z | z
      · exact I3.ok.noex b o e z
      · exact absurd (Nat.lt_of_lt_of_le (Heap.lt_size e) (Nat.le_trans I3.ok.bsz z)) (Nat.lt_irrefl _)
  have H3C : H3 h3.objs.size = none := I3.fresh
  have I4 : Inv X' [] (none :: caps.map (capV σ)) H3 { s3 with heap := h₁, toks := s2.toks + ([] : List (Str × Value)).length } := by
    refine ⟨ok', rfl, I3.bare, Un.kept keep1, ⟨_, hns₁, fun i y v h1 h2 h3' => ?_⟩, fun y c h1 => ?_, H3C, fun y c h1 => I3.freeC y c (hcl y c h1), fun p hp => ?_, I3.hok.kept keep1, ?_⟩
    · cases i with
      | zero => cases h2
      | succ i =>
        have h1' : (caps.map (·.1))[i]? = some y := h1
        have h2' : (caps.map (capV σ))[i]? = some (some v) := h2
        rw [List.getElem?_map] at h1' h2'
        cases q : caps[i]? with
        | none => rw [q] at h1'; cases h1'
        | some p =>
          rw [q] at h1' h2'
          cases h1'
          have hv : capV σ p = some v := Option.some.inj h2'
          obtain ⟨c1, c2, c3⟩ := ck.cps p (List.mem_of_getElem? q)
          obtain ⟨m, hn, hl⟩ := I3.loc
          have hσ : σ[p.2]? = some (some v) := by
            unfold capV at hv
            cases z : σ[p.2]? with
            | none => rw [z] at hv; cases hv
            | some ov => rw [z] at hv; exact congrArg some hv
          obtain ⟨u, r, lk⟩ := hl p.2 p.1 v (by rw [hN]; exact c1) hσ (by rw [hsc]; exact .inr c3)
          refine ⟨u, r, .inr ⟨relabel_free c2, ?_⟩⟩
          rcases lk with ⟨kk, _⟩ | ⟨_, c, hcc, hcell⟩
          · have kk' : X.env.scope.names.lookup p.1 = some .local := kk
            rw [hsc] at kk'
            rcases c3 with z | z <;> (rw [z] at kk'; cases kk')
          · obtain ⟨c', hc'⟩ := hclh (p.1, .free) (mem_of_lk c2) rfl
            have e2 := hcl _ _ hc'
            rw [hcc] at e2
            cases e2
            obtain ⟨o, ho, hd⟩ := hcell
            exact ⟨c, hc', o, keep1 _ _ ho, hd⟩
    · obtain ⟨v, o, ho, hd⟩ := I3.cell y c (hcl y c h1)
      exact ⟨v, o, keep1 _ _ ho, hd⟩
    · have hp' : p ∈ X.pn ++ pins := by simpa [X', Cx.comp] using hp
      obtain ⟨p1, p2, p3, p4, p5⟩ := I3.pin p hp'
      refine ⟨keep1 _ _ p1, p2, Nat.ne_of_lt (Heap.lt_size p1), fun z => ?_, p5⟩
      rcases List.mem_cons.mp (I3.stkSub _ z) with e | e
      · exact p3 e
      · exact p4 e
    · show (none :: caps.map (capV σ)).length = (x :: caps.map (·.1)).length
      simp
  have fpOk' : ∀ {H' : Hp} {b : Addr}, b ∈ fp → H' b = none → FpOk X' [] H' b := fun {H' b} hb hn =>
    ⟨hn, fpC b hb, fpS b hb, .inl hb, fun y c h1 => (f2 b hb).2.2.2.2.1 y c (hcl y c h1), fun p hp => (f2 b hb).2.2.2.2.2 p (by simpa [X', Cx.comp] using hp)⟩
  have tn4 : tn 0 h₁ := T.keep _ _ _ st2 fun b _ o e => keep1 b o (keep0 b o e)
  have nd' : X'.N.Nodup := ck.nd
  have loop : ∀ s4 : Shared, s4 = { s2 with heap := h₁, toks := s2.toks + ([] : List (Str × Value)).length } →
      codeAny (model X.prog X.w) X.A (.compLoop (.ListComp elt [⟨.Name x px, iter, ifs, 0⟩] scope pos) 0 (.ref it) (.ref s2.heap.objs.size) X'.env) (RR (.ref s2.heap.objs.size) h3.objs.size) s4 := by
    rintro s4 rfl
    refine compLoop_own (fun n s' => ∃ i ys v H', Inv X' [] (v :: caps.map (capV σ)) H' s' ∧ tn i s'.heap ∧ (∀ b ∈ fp, H' b = none) ∧ W i n ys H') ?_ m0 ⟨0, [], none, H3, I4, tn4, f3, w0⟩
    rintro n s5 ⟨i, ys, v, H5, I5, st5, fr5, w5⟩
    obtain ⟨hacc5, alt⟩ := turn i n ys H5 w5
    rcases alt with ⟨stop, qn⟩ | ⟨go5, step⟩
    · refine thn (T.done X' rfl rfl rfl hc i [] s5 _ H5 _ I5 (fun b hb => fpOk' hb (fr5 b hb)) st5 stop) fun r s6 ⟨hr, I6⟩ => ?_
      subst hr
      obtain ⟨m, hn, _⟩ := id I6.loc
      have u := I6.base
      have I7 : Inv X pins σ H5 s6 := I3.call' (ch := fp) I6.os u I6.hok I6.bare fun b hb => ⟨(f2 b hb).2.2.2.1, (f2 b hb).2.1, (f2 b hb).2.2.2.2.1, (f2 b hb).2.2.2.2.2⟩
      refine hRR _ _ ys H5 s6 m I7 ?_ hn qn
      refine ⟨I6.free, Nat.ne_of_gt I3.lt, fun z => ?_, .inr I3.sz, fun y c h1 z => ?_, fun p hp z => ?_⟩
      · obtain ⟨_, o, ho, _⟩ := I3.ok.funs.mem z
        have := Nat.lt_of_lt_of_le (Heap.lt_size ho) I3.sz
        exact Nat.lt_irrefl _ this
      · obtain ⟨v', q⟩ := I3.cell y c h1
        rw [z] at q
        exact Nat.lt_irrefl _ q.lt
      · have := (I3.pin p hp).1
        rw [z] at this
        exact Nat.lt_irrefl _ (Heap.lt_size this)
    · refine thn (T.item X' rfl rfl rfl hc i [] s5 _ H5 _ I5 (fun b hb => fpOk' hb (fr5 b hb)) st5 go5) fun r s6 ⟨u, hr, h6⟩ => ?_
      subst hr
      refine thn h6 fun _ s7 ⟨y, H7, I7, r7, y7, st7, fr7⟩ => ?_
      have I7' := I7.pinned (fun b hb => fpOk' hb (fr7 b hb)) (T.obj _ _ st7)
      have hset : ((v :: caps.map (capV σ)).set 0 (some y)) = some y :: caps.map (capV σ) := rfl
      refine thn (pg_name (X := X') (i := 0) (pos := px) nd' rfl (.inl hkx) (.inr hkx) _ s7 _ H7 y u (fun σ8 H8 => σ8 = some y :: caps.map (capV σ) ∧ H8 = H7) I7' r7 ⟨hset, rfl⟩) fun _ s8 ⟨σ8, H8, I8, e8, e8'⟩ => ?_
      subst e8 e8'
      have again : ∀ {σ9 : St} {H9 : Hp} {s9 : Shared} {v9 : Option V}, σ9 = v9 :: caps.map (capV σ) → Inv X' ([] ++ pinsAt fp s7.heap) σ9 H9 s9 → (tn (i + 1) s9.heap ∧ ∀ b ∈ fp, H9 b = none) := fun {σ9 H9 s9 v9} _ I9 => by
        refine ⟨T.keep _ _ _ st7 fun b hb o e => (I9.pin (b, o) (List.mem_append_right _ (List.mem_append_right _ (mem_pinsAt hb e)))).1, fun b hb => ?_⟩
        obtain ⟨o, e, d⟩ := T.obj _ _ st7 b hb
        exact (I9.pin (b, o) (List.mem_append_right _ (List.mem_append_right _ (mem_pinsAt hb e)))).2.1
      refine thn (hif cl _ _ _ fp pins _ s8 _ H8 _ I8 (step y H8 y7)) fun ok s9 ⟨H9, I9, q9⟩ => ?_
      cases ok with
      | false =>
        rw [if_neg Bool.false_ne_true] at q9 ⊢
        obtain ⟨m', hm, w9⟩ := q9
        obtain ⟨a1, a2⟩ := again rfl I9
        exact ⟨m', hm, i + 1, ys, _, H9, I9.unpinned, a1, a2, w9⟩
      | true =>
        rw [if_pos rfl] at q9 ⊢
        refine thn (he cl _ _ _ fp pins _ s9 _ H9 _ I9 q9) fun ev s10 ⟨y10, H10, I10, r10, h10, hz, m', hm, w10⟩ => ?_
        refine thn (mt_append (X := X') _ s10 _ H10 (.ref s2.heap.objs.size) [y10] (.ref s2.heap.objs.size) [ev] (fun _ H11 => H11 = upd H10 s2.heap.objs.size (.lst (ys ++ [y10]))) I10 rfl (.cons r10 .nil) ⟨_, ys, y10, rfl, rfl, h10, hz, rfl⟩) fun _ s11 ⟨_, H11, I11, _, e11⟩ => ?_
        subst e11
        obtain ⟨a1, a2⟩ := again rfl I11
        exact ⟨m', hm, i + 1, ys ++ [y10], _, _, I11.unpinned, a1, a2, w10⟩
  exact codeAny_compStart_list (loop _ rfl) (T.self _ 0 _ _ _ tn4 (loop _ rfl))
/-- [elt for x in iter if ..], where its value is handed on -/
theorem pe_comp (hc : X.calm = true) (hi : PI X (.Name x px) iter wi) (hsc : X.env.scope = sc) (hN : X.N = N) (ck : compOk N sc scope x caps = true)
    (hif : ∀ cl C s3 H3 fp pins, PIf (X.comp (x :: caps.map (·.1)) scope cl C s3 H3 fp pins) ifs tt)
    (he : ∀ cl C s3 H3 fp pins, PE (X.comp (x :: caps.map (·.1)) scope cl C s3 H3 fp pins) elt te)
    (hs : ∀ v, foldedSetIterable iter X.env v = pure v := by intro _; rfl) : PE X (.ListComp elt [⟨.Name x px, iter, ifs, 0⟩] scope pos) (tComp wi caps tt te) := by
  intro pins s σ H Q I h
  have ck := CompOk.of ck
  obtain ⟨cl, hclos, hcl, hclh⟩ := closureFor_all (scope := scope) (env := X.env) fun y hy hf => by
    have := ck.free y hy hf
    rw [← hsc] at this
    exact I.ok.has y.1 this
  rw [eval_ListComp]
  refine wpAny_comprehension_free (use := none) rfl hs hclos ck.kind ck.loc ?_
  refine thn (hi pins s σ H _ I h) fun v s1 h1 => thn h1 fun itv s2 h2 => ?_
  obtain ⟨it, fp, tn, J, H2, e, I2, T, st2, f2, R⟩ := h2
  subst e
  refine comp_block hc hsc hN ck hcl hclh I2 T st2 f2 hif he R fun acc C ys H' s' m I' fC hn q => ?_
  refine ⟨m, hn, fun h' sb => ⟨.ref acc, H', ?_, rfl, q⟩⟩
  exact I'.turned (t' := s'.toks) (fun b o hb e => (sb.2 b hb).trans e) fC.1 fC.2.1 fC.2.2.2.1 fC.2.2.2.2.1 fC.2.2.2.2.2
/-- y = [elt for x in iter if ..] -/
def tSetComp (wi : TI) (caps : List (Str × Nat)) (tt : TT) (te : TE) (k : Nat) : TS := fun D σ H => wi σ H fun J H1 => ∀ acc, H1 acc = none → compGo acc J caps tt te σ (fun a _ H => D.nx (σ.set k (some (.ref a))) H) H1
theorem ps_setComp {y : Str} {py spos : Pos} {k : Nat} (hc : X.calm = true) (hi : PI X (.Name x px) iter wi) (hsc : X.env.scope = sc) (hN : X.N = N) (ck : compOk N sc scope x caps = true)
    (hif : ∀ cl C s3 H3 fp pins, PIf (X.comp (x :: caps.map (·.1)) scope cl C s3 H3 fp pins) ifs tt)
    (he : ∀ cl C s3 H3 fp pins, PE (X.comp (x :: caps.map (·.1)) scope cl C s3 H3 fp pins) elt te)
    (hnd : X.N.Nodup) (hk : X.N[k]? = some y) (hy : Loc X.env.scope y)
    (hsw : swapsWith (.ListComp elt [⟨.Name x px, iter, ifs, 0⟩] scope pos) (some (.Name y py)) spos.line X.env = pure true := by rfl)
    (hf : X.fn y = true ∨ X.env.scope.names.lookup y = some .local := by first | exact .inl rfl | exact .inr rfl | assumption)
    (hs : ∀ v, foldedSetIterable iter X.env v = pure v := by intro _; rfl) : PS X (.Assign [.Name y py] (.ListComp elt [⟨.Name x px, iter, ifs, 0⟩] scope pos) spos) (tSetComp wi caps tt te k) := by
  intro pins s σ H D I h
  have ck := CompOk.of ck
  obtain ⟨cl, hclos, hcl, hclh⟩ := closureFor_all (scope := scope) (env := X.env) fun y hy hf => by
    have := ck.free y hy hf
    rw [← hsc] at this
    exact I.ok.has y.1 this
  rw [exec_Assign_Name_used _ _ _ _ hsw]
  refine wpAny_bind (wpAny_standAt (wpAny_bind ?_))
  show wpAny _ _ (do let _ ← comprehension (.ListComp elt [⟨.Name x px, iter, ifs, 0⟩] scope pos) scope X.env _ (newList []) false (eval iter X.env) (some (assign (.Name y py) X.env))) _ _ s
  refine wpAny_bind (wpAny_mono (wpAny_comprehension_free (use := some (assign (.Name y py) X.env)) (Q := fun _ s' => SP X pins D .next s') rfl hs hclos ck.kind ck.loc ?_) (fun _ s' hq => wpAny_pure (wpAny_pure hq)) fun _ _ e => e)
  refine thn (hi pins s σ H _ I h) fun v s1 h1 => thn h1 fun itv s2 h2 => ?_
  obtain ⟨it, fp, tn, J, H2, e, I2, T, st2, f2, R⟩ := h2
  subst e
  refine comp_block hc hsc hN ck hcl hclh I2 T st2 f2 hif he R fun acc C ys H' s' m I' fC hn q => ?_
  show wpAny _ _ (assign (.Name y py) X.env (.ref acc)) _ _ _
  obtain ⟨oC, esC, epC, hoC, hdC, restC⟩ := id hn
  have I'' : Inv X (pins ++ [(C, oC)]) σ H' s' := I'.pins_of fun p hp => by
    rcases List.mem_append.mp hp with z | z
    · exact I'.pin p (List.mem_append_right _ z)
    · rw [List.mem_singleton] at z
      subst z
      exact ⟨hoC, fC.1, fC.2.1, fC.2.2.1, fun v z => by rw [hdC] at z; cases z⟩
  refine thn (pg_name (X := X) (i := k) (pos := py) hnd hk hy hf _ s' σ H' (.ref acc) (.ref acc) (fun σ8 H8 => σ8 = σ.set k (some (.ref acc)) ∧ H8 = H') I'' rfl ⟨rfl, rfl⟩) fun _ s8 ⟨σ8, H8, I8, e8, e8'⟩ => ?_
  subst e8 e8'
  have pC := I8.pin (C, oC) (List.mem_append_right _ (List.mem_append_right _ (List.mem_singleton.mpr rfl)))
  have I9 : Inv X pins (σ.set k (some (.ref acc))) H8 s8 := I8.pins_of fun p hp => I8.pin p (List.mem_append_right _ (List.mem_append_left _ hp))
  refine ⟨m, ⟨oC, esC, epC, pC.1, hdC, restC⟩, fun h' sb => ?_⟩
  exact ⟨_, H8, I9.turned (t' := s8.toks) (fun b o hb e => (sb.2 b hb).trans e) fC.1 fC.2.1 fC.2.2.2.1 fC.2.2.2.2.1 fC.2.2.2.2.2, q⟩
end
end L2
/-! ### More rules over the layer: lists, join, split, isinstance -/
namespace L2
open PySem PySem.Spec PyProof.Rows PySem.Builtin PySem.Builtin.Str
set_option linter.all false
theorem Ns_inj {h : Heap} {a : Addr} {m m' : Str → Option Value} (n : h.Ns a m) (n' : h.Ns a m') : m = m' := by
  obtain ⟨o, es, ep, ho, hd, _, hm⟩ := n
  obtain ⟨o', es', ep', ho', hd', _, hm'⟩ := n'
  rw [ho] at ho'
  cases ho'
  rw [hd] at hd'
  cases hd'
  funext x
  rw [← hm x, ← hm' x]
section
variable {X : Cx} {pins : List (Addr × Obj)} {σ : St} {H : Hp} {s : Shared}
/-- behind a rule that speaks of the frame and of the objects made: all is kept, one object more is tracked -/
theorem Inv.newsLaid {h' : Heap} {tk : Nat} {o : HO} {m : Str → Option Value} (I : Inv X pins σ H s) (hn : s.heap.Ns X.env.locals m) (F' : Fr (Att.noObjs s.heap) X.env.locals h' m)
    (N' : News (Att.noObjs s.heap) X.env.locals h' (allNews (Att.noObjs s.heap) s.heap X.env.locals)) (new : ObjOk X.prog X.w (upd H s.heap.objs.size o) h' s.heap.objs.size o) :
    Inv X pins σ (upd H s.heap.objs.size o) { s with heap := h', toks := tk } := by
  have keep : ∀ b u, b ≠ X.env.locals → s.heap.get? b = some u → h'.get? b = some u := fun b u hb e => (N' (b, u) (mem_allNews hb (Att.noObjs_get _ _) e)).1
  have nsz : ∀ b u, s.heap.get? b = some u → b ≠ s.heap.objs.size := fun b u e => Nat.ne_of_lt (Heap.lt_size e)
  have nH : ∀ b u, H b = some u → b ≠ s.heap.objs.size := fun b u e => Nat.ne_of_lt (I.hok.lt e)
  refine I.step (g' := s.gens) (d' := s.drawn) (ch := []) (fun _ z => nomatch z) (fun b u hb _ _ e _ => keep b u hb e) (fun b u hb _ _ e _ => ⟨u.slots, keep b u hb e⟩) (fun b u _ e n => by rw [upd_ne (nsz b u e)]; exact n)
    (fun b u _ e => ?_) (fun b xs e => by rw [upd_ne (nH b _ e)]; exact e) (fun b u xs e => by rw [upd_ne (nH b _ e)]; exact e) (fun b ps e => ⟨#[], by rw [upd_ne (nH b _ e), e]; simp⟩) (fun m' hm' => by rw [Ns_inj hm' hn]; exact F'.ns) (fun b u e => ?_) I.bare
  · by_cases hb : b = X.env.locals
    · subst hb
      obtain ⟨o', _, _, ho', _⟩ := F'.ns
      exact ⟨o', ho'⟩
    · exact ⟨u, keep b u hb e⟩
  · by_cases hb : b = s.heap.objs.size
    · subst hb
      rw [upd_same] at e
      cases e
      exact new
    · rw [upd_ne hb] at e
      refine (I.hok b u e).stay (fun c v hc q => keep c v ?_ q) (fun c q => by rw [upd_ne (nH c _ q)]; exact q) fun c xs q => by rw [upd_ne (nH c _ q)]; exact q
      rcases hc with z | z
      · rintro rfl; rw [← z, I.free] at e; cases e
      · rintro rfl; rw [I.free] at z; cases z
theorem Inv.newsKept {h' : Heap} {tk : Nat} {m : Str → Option Value} (I : Inv X pins σ H s) (hn : s.heap.Ns X.env.locals m) (F' : Fr (Att.noObjs s.heap) X.env.locals h' m)
    (N' : News (Att.noObjs s.heap) X.env.locals h' (allNews (Att.noObjs s.heap) s.heap X.env.locals)) : Inv X pins σ H { s with heap := h', toks := tk } := by
  have keep : ∀ b u, b ≠ X.env.locals → s.heap.get? b = some u → h'.get? b = some u := fun b u hb e => (N' (b, u) (mem_allNews hb (Att.noObjs_get _ _) e)).1
  refine I.step (g' := s.gens) (d' := s.drawn) (ch := []) (fun _ z => nomatch z) (fun b u hb _ _ e _ => keep b u hb e) (fun b u hb _ _ e _ => ⟨u.slots, keep b u hb e⟩) (fun b u _ e n => n)
    (fun b u _ e => ?_) (fun b xs e => e) (fun b u xs e => e) (fun b ps e => ⟨#[], by rw [e]; simp⟩) (fun m' hm' => by rw [Ns_inj hm' hn]; exact F'.ns) (fun b u e => ?_) I.bare
  · by_cases hb : b = X.env.locals
    · subst hb
      obtain ⟨o', _, _, ho', _⟩ := F'.ns
      exact ⟨o', ho'⟩
    · exact ⟨u, keep b u hb e⟩
  · refine (I.hok b u e).stay (fun c v hc q => keep c v ?_ q) (fun c q => q) fun c xs q => q
    rcases hc with z | z
    · rintro rfl; rw [← z, I.free] at e; cases e
    · rintro rfl; rw [I.free] at z; cases z
/-! ### xs == [], xs != [] -/
def rEqNil (K : PySem.W.Frag) (neg : Bool) : R2 := fun x y H Q => ∃ p q xs, x = .ref p ∧ y = .ref q ∧ SqL K H p xs ∧ SqL K H q [] ∧ Q (.bl (if neg then !xs.isEmpty else xs.isEmpty)) H
theorem op_eq_nil (hu : X.A.units < cLine) : OpR X (compareOp .Eq) (rEqNil X.K false) := by
  intro pins s σ H x y v u Q I rx ry h
  obtain ⟨p, q, xs, rfl, rfl, hp, hq, k⟩ := h
  cases rx
  cases ry
  obtain ⟨its, r1, p1, _⟩ := I.list hp
  obtain ⟨its2, r2, p2, _⟩ := I.list hq
  cases r2
  cases xs with
  | nil =>
    cases r1
    exact SeqAt.eq_listAt (e := fun _ => true) p1.isList p2.isList rfl hu (fun j h1 => absurd h1 (by simp)) ⟨.bl true, H, I, rfl, k⟩
  | cons a l =>
    refine SeqAt.eq_list_lengthsAt p1.isList p2.isList ?_ hu ⟨.bl false, H, I, rfl, k⟩
    have hl : its.length = l.length + 1 := by simpa using r1.length.symm
    simp [hl]
theorem op_ne_nil (hu : X.A.units < cLine) : OpR X (compareOp .NotEq) (rEqNil X.K true) := by
  intro pins s σ H x y v u Q I rx ry h
  obtain ⟨p, q, xs, rfl, rfl, hp, hq, k⟩ := h
  cases rx
  cases ry
  obtain ⟨its, r1, p1, _⟩ := I.list hp
  obtain ⟨its2, r2, p2, _⟩ := I.list hq
  cases r2
  cases xs with
  | nil =>
    cases r1
    exact SeqAt.RcNeAt.lists (e := fun _ => true) p1.isList p2.isList rfl hu (fun j h1 => absurd h1 (by simp)) _ _ _ _ ⟨.bl false, H, I, rfl, k⟩
  | cons a l =>
    refine SeqAt.RcNeAt.lists_lengths p1.isList p2.isList ?_ hu _ _ _ _ ⟨.bl true, H, I, rfl, k⟩
    have hl : its.length = l.length + 1 := by simpa using r1.length.symm
    simp [hl]
/-! ### xs.extend(ys), ys a list or a tuple -/
def rExtendS : V → List V → Hp → VK → Prop := fun x vs H Q => ∃ l b xs zs, x = .ref l ∧ vs = [.ref b] ∧ H l = some (.lst xs) ∧ (H b = some (.lst zs) ∨ H b = some (.tup zs)) ∧ xs.length + zs.length ≤ sizeLine ∧ Q .non (upd H l (.lst (xs ++ zs)))
theorem extend_tup (l : Addr) (items : Array Value) (n : Nat) (b : Addr) (items2 : Array Value) (n2 : Nat) (dd : Option Addr) (sl : Array (Option Value)) (hs0 : ¬(!items.isEmpty && Builtin.List.listTooLong (items.size + items2.size)) = true)
    (hs1 : items.size ≤ sizeLine) (hs2 : items.size + items2.size ≤ sizeLine + 1) :
    Meets (Builtin.«list.extend» ⟨[.ref l, .ref b], []⟩) (fun _ R s => s.heap.get? l = some { cls := .type "list", dict := none, data := .seq items n, slots := #[] } ∧ s.heap.get? b = some { cls := .type "tuple", dict := dd, data := .seq items2 n2, slots := sl } ∧
      R (.ok (.ret Value.none)) { s with heap := s.heap.update l (Obj.mapSeq fun x => x ++ items2), toks := s.toks }) :=
  .of_wp fun prog w A R s h => by
    obtain ⟨hp, g, d, tk, os⟩ := s
    obtain ⟨hl, hb, h⟩ := h
    have f1 := AutoSeq1.idx_int
    have f2 := AutoSeq1.sub_tuple_tuple
    have f3 := AutoSeq1.sub_list_list
    have f4 := AutoSeq1.sub_tuple_list
    have f5 := AutoSeq1.sub_list_tuple
    have hz' : (items ++ items2).size ≤ sizeLine + 1 := by rw [Array.size_append]; exact hs2
    wp_walk using (wpAny_updateSeq hl rfl (hz := hs1) (_hz' := hz')), AutoSeq1.wpAny_loadPart' hl, AutoSeq1.wpAny_loadPart' hb
    exact ⟨_, rfl, h⟩
theorem mt_extendS : MtR X "list.extend" rExtendS := by
  intro pins s σ H x vs v us Q I rx rv h
  obtain ⟨l, b, xs, zs, rfl, rfl, hH, hB, hz, q⟩ := h
  rcases hB with hB | hB
  · exact mt_extend pins s σ H _ _ v us Q I rx rv ⟨l, b, xs, zs, rfl, rfl, hH, hB, hz, q⟩
  cases rx
  obtain ⟨u, rfl, ru⟩ := rv.one
  cases ru
  obtain ⟨z, its, n, r, hl, e⟩ := I.lstM hH
  obtain ⟨z2, its2, r2, ob2, e2, c2, n2, d2⟩ := I.hok b _ hB
  obtain ⟨cls2, dd, dt2, sl⟩ := ob2
  simp only at c2 d2
  subst c2 d2
  have hl2 := r2.length
  have hsz : its.toArray.size + its2.toArray.size ≤ sizeLine := by rw [List.size_toArray, List.size_toArray]; omega
  have hlong : ¬ (!its.toArray.isEmpty && Builtin.List.listTooLong (its.toArray.size + its2.toArray.size)) = true := by
    rw [notLongL hsz, Bool.and_false]
    exact Bool.false_ne_true
  refine call_meets F.slot_list_extend ⟨_, e, rfl⟩ F.entry_list_extend (F.args_list_extend_2 _ _)
    (extend_tup l its.toArray n b its2.toArray n2 dd sl hlong (by rw [List.size_toArray]; omega) (by omega)) ⟨e, e2, ?_⟩
  refine ⟨.non, _, I.lset (its' := its ++ its2) hH e (by simp) (r.append r2) ?_, rfl, q⟩
  rw [List.length_append]
  omega
/-! ### isinstance(x, (A, B)) -/
theorem TyOf.kit {x : V} {u t : Value} (I : Inv X pins σ H s) (rx : RelV x u) (ty : TyOf X.K H x t) : ∃ P : Heap → Prop, PySem.W.KitX X.K u t P ∧ P s.heap ∧ u ≠ .builtin "__main__.__loader__#opaque" := by
  cases ty with
  | non => cases (show u = Value.none from rx); exact ⟨_, PySem.W.kitx_none, True.intro, fun z => nomatch z⟩
  | bl y => cases (show u = Value.bool y from rx); exact ⟨_, PySem.W.kitx_bool, True.intro, fun z => nomatch z⟩
  | int i => obtain ⟨t, q⟩ := (show ∃ t, u = Value.int i t from rx); cases q; exact ⟨_, PySem.W.kitx_int, True.intro, fun z => nomatch z⟩
  | str y => obtain ⟨t, q⟩ := (show ∃ t, u = Value.str y t from rx); cases q; exact ⟨_, PySem.W.kitx_str, True.intro, fun z => nomatch z⟩
  | flt y => obtain ⟨t, q⟩ := (show ∃ t, u = Value.float y t from rx); cases q; exact ⟨_, PySem.W.kitx_float, True.intro, fun z => nomatch z⟩
  | @lst a xs ea =>
    cases (show u = Value.ref a from rx)
    obtain ⟨_, _, n, _, h1⟩ := (show ObjOk X.prog X.w H s.heap a (.lst xs) from I.hok a _ ea)
    exact ⟨_, PySem.W.kitx_list, ⟨_, h1, rfl⟩, fun z => nomatch z⟩
  | @frz a ob xs ea =>
    cases (show u = Value.ref a from rx)
    obtain ⟨_, _, _, n, _, h1⟩ := (show ObjOk X.prog X.w H s.heap a (.frz ob (.lst xs)) from I.hok a _ ea)
    exact ⟨_, PySem.W.kitx_list, ⟨_, h1, rfl⟩, fun z => nomatch z⟩
  | @tup a xs ea =>
    cases (show u = Value.ref a from rx)
    obtain ⟨_, _, _, p⟩ := (show ObjOk X.prog X.w H s.heap a (.tup xs) from I.hok a _ ea)
    obtain ⟨o, h1, h2, _⟩ := p
    exact ⟨_, PySem.W.kitx_tuple, ⟨o, h1, h2⟩, fun z => nomatch z⟩
  | @dK a kvs ea =>
    cases (show u = Value.ref a from rx)
    obtain ⟨_, _, vs, _, p⟩ := (show ObjOk X.prog X.w H s.heap a (.dK kvs) from I.hok a _ ea)
    obtain ⟨o, es, ep, h1, h2, _⟩ := p
    exact ⟨_, PySem.W.kitx_dict, ⟨o, h1, h2.1⟩, fun z => nomatch z⟩
  | @dT a kvs ea =>
    cases (show u = Value.ref a from rx)
    obtain ⟨_, _, xs, _, o, es, ep, h1, h2, _⟩ := (show ObjOk X.prog X.w H s.heap a (.dT kvs) from I.hok a _ ea)
    exact ⟨_, PySem.W.kitx_dict, ⟨o, h1, h2.1⟩, fun z => nomatch z⟩
  | @ins a C dx fs ea cl ha hn htk hm =>
    cases (show u = Value.ref a from rx)
    obtain ⟨mA, O, _⟩ := ins_get I.hok ea
    obtain ⟨od, J, _⟩ := O.look
    exact ⟨_, PySem.W.kitx_own (cl.get _) cl.hd ha hn htk hm, J, fun z => nomatch z⟩
theorem tys_of : ∀ {ns : List String} {us : List Value}, Vals (ns.map V.ty) us → us = ns.map Value.type
  | [], _, r => by cases r; rfl
  | n :: ns, _, r => by
    cases r with
    | cons r1 r2 =>
      cases (show _ = Value.type n from r1)
      rw [tys_of r2]
      rfl
theorem call_isiT : CallR X (.builtin "isinstance") (fun xs H Q => ∃ (x : V) (p : Addr) (ns : List String) (t : Value) (b : Bool), xs = [x, .ref p] ∧ H p = some (.tup (ns.map V.ty)) ∧ TyOf X.K H x t ∧ PySem.W.kitAny X.K t (ns.map Value.type) = some b ∧ Q (.bl b) H) := by
  intro pins s σ H xs us Q I r h
  obtain ⟨x, p, ns, t, b, rfl, hp, ty, e, q⟩ := h
  obtain ⟨u, w', rfl, rx, ry⟩ := vals2 r
  cases (show w' = Value.ref p from ry)
  obtain ⟨_, its, r1, ob, ho, hc, n, hd⟩ := I.hok p _ hp
  obtain ⟨cls, dd, dt, sl⟩ := ob
  simp only at hc hd
  subst hc hd
  have eits := tys_of r1
  subst eits
  obtain ⟨P, Z, pP, hx⟩ := TyOf.kit I rx ty
  exact PySem.W.kia_tup Z I.kIn pP ho e hx fun tk => ⟨.bl b, H, I.tok _, rfl, q⟩
/-! ### strip, max -/
theorem mt_strip : MtR X "str.strip" (fun x xs H Q => ∃ l c, x = .str (tx l) ∧ xs = [.str (tx c)] ∧ l.length ≤ sizeLine ∧ Q (.str (Txt.stripChars (tx l) (tx c))) H) := by
  intro pins s σ H x xs v us Q I rx rs h
  obtain ⟨l, c, rfl, rfl, hz, q⟩ := h
  obtain ⟨t, rfl⟩ := rx
  obtain ⟨u, rfl, t', rfl⟩ := vals1 rs
  exact SC.stripChars (fun t' k => ⟨.str _, H, I.tok _, ⟨_, rfl⟩, q⟩) (by rw [tx_len]; exact hz)
theorem mt_rstrip : MtR X "str.rstrip" (fun x xs H Q => ∃ l c, x = .str (tx l) ∧ xs = [.str (tx c)] ∧ l.length ≤ sizeLine ∧ Q (.str (Txt.rstripChars (tx l) (tx c))) H) := by
  intro pins s σ H x xs v us Q I rx rs h
  obtain ⟨l, c, rfl, rfl, hz, q⟩ := h
  obtain ⟨t, rfl⟩ := rx
  obtain ⟨u, rfl, t', rfl⟩ := vals1 rs
  exact SC.rstripChars (fun t' k => ⟨.str _, H, I.tok _, ⟨_, rfl⟩, q⟩) (by rw [tx_len]; exact hz)
theorem Inv.ledger (I : Inv X pins σ H s) : ∃ m, s.heap.Ns X.env.locals m ∧ Fr (Att.noObjs s.heap) X.env.locals s.heap m ∧ News (Att.noObjs s.heap) X.env.locals s.heap (allNews (Att.noObjs s.heap) s.heap X.env.locals) := by
  obtain ⟨m, hn, _⟩ := I.loc
  exact ⟨m, hn, Att.fr_all hn, news_all⟩
theorem call_maxL (hc : X.calm = true) : CallR X (.builtin "max") (fun xs H Q => ∃ (p : Addr) (ns : List Int), xs = [.ref p] ∧ SqL X.K H p (ns.map V.int) ∧ 0 < ns.length ∧ ∀ M, M ∈ ns → (∀ a, a ∈ ns → a ≤ M) → Q (.int M) H) := by
  intro pins s σ H xs us Q I r h
  obtain ⟨p, ns, rfl, hp, hne, q⟩ := h
  obtain ⟨u, rfl, ru⟩ := vals1 r
  cases ru
  obtain ⟨its, r1, p1, _⟩ := I.list hp
  obtain ⟨m, hn, F0, N0⟩ := I.ledger
  exact max_list_N (I.ok.hd hc) F0 N0 p1.isList (intsAre_of r1) hne fun h' M t tk F' N' hM hle => ⟨.int M, H, I.newsKept hn F' N', ⟨t, rfl⟩, q M hM hle⟩
/-! ### x.split(c) -/
theorem vals_strs : ∀ (l : List (Str × Tok)) (ls : List (List Nat)), l.map (·.1) = ls.map tx → Vals (ls.map fun a => V.str (tx a)) (strValues l)
  | [], [], _ => .nil
  | [], _ :: _, e => by cases e
  | _ :: _, [], e => by cases e
  | (x, t) :: l, a :: ls, e => by
    rw [List.map_cons, List.map_cons] at e
    have e1 := (List.cons.inj e).1
    have e2 := (List.cons.inj e).2
    refine .cons ⟨t, ?_⟩ (vals_strs l ls e2)
    have e1' : x = tx a := e1
    rw [e1']
theorem mt_split : MtR X "str.split" (fun x xs H Q => ∃ (l : List Nat) (c : Nat) (ls : List (List Nat)), x = .str (tx l) ∧ xs = [.str (tx [c])] ∧ l.length ≤ 1000000 ∧ (Txt.split (tx l) (tx [c])) = ls.map tx ∧ ∀ p, H p = none → Q (.ref p) (upd H p (.lst (ls.map fun a => V.str (tx a))))) := by
  intro pins s σ H x xs v us Q I rx rs h
  obtain ⟨l, c, ls, rfl, rfl, hz, hs, q⟩ := h
  obtain ⟨t, rfl⟩ := rx
  obtain ⟨u, rfl, t', rfl⟩ := vals1 rs
  obtain ⟨m, hn, F0, N0⟩ := I.ledger
  have hsl : sizeLine = 16777216 := sizeLine_eq
  have hlen : (ls.map fun a => V.str (tx a)).length ≤ sizeLine := by
    rw [List.length_map]
    have h1 := split_le (tx l) (tx [c])
    rw [hs, List.length_map, tx_len] at h1
    omega
  refine splitN1 F0 N0 (by rw [tx_len]; rfl) (fun l' h' k e F' N' => ?_) (by rw [tx_len]; omega)
  have N2 : News (Att.noObjs s.heap) X.env.locals h' (allNews (Att.noObjs s.heap) s.heap X.env.locals) := fun p hp => N' p (List.mem_cons_of_mem _ hp)
  have o1 := (N' _ List.mem_cons_self).1
  refine ⟨.ref s.heap.objs.size, _, I.newsLaid hn F' N2 (o := .lst (ls.map fun a => V.str (tx a))) ?_, rfl, q _ I.fresh⟩
  exact ⟨hlen, strValues l', 0, vals_strs l' ls (e.trans hs), o1⟩
/-! ### sep.join(xs), x.split(c) -/
def joinN (sep : List Nat) : List (List Nat) → List Nat
  | [] => []
  | [x] => x
  | x :: y :: r => x ++ sep ++ joinN sep (y :: r)
theorem join_tx (sep : List Nat) : ∀ ls : List (List Nat), Str.join (tx sep) (ls.map tx) = tx (joinN sep ls)
  | [] => rfl
  | [x] => rfl
  | x :: y :: r => by
    have ih := join_tx sep (y :: r)
    show tx x ++ tx sep ++ Str.join (tx sep) ((y :: r).map tx) = _
    rw [ih, tx_app, tx_app]
    rfl
theorem strs_of : ∀ {ls : List (List Nat)} {us : List Value}, Vals (ls.map fun l => V.str (tx l)) us → StrsAre us (ls.map tx)
  | [], _, r => by cases r; exact .nil
  | l :: ls, _, r => by
    cases r with
    | cons r1 r2 =>
      obtain ⟨t, rfl⟩ := r1
      exact .cons _ t (strs_of r2)
def sumLen (ls : List (List Nat)) : Nat := (ls.map List.length).sum
theorem sumLen_tx (ls : List (List Nat)) : ((ls.map tx).map (·.length)).sum = sumLen ls := by
  unfold sumLen
  rw [List.map_map]
  congr 1
theorem mt_join : MtR X "str.join" (fun x xs H Q => ∃ sep p ls, x = .str (tx sep) ∧ xs = [.ref p] ∧ SqL X.K H p (ls.map fun l => V.str (tx l)) ∧ sumLen ls + ls.length * sep.length ≤ 16777216 ∧ Q (.str (tx (joinN sep ls))) H) := by
  intro pins s σ H x xs v us Q I rx rs h
  obtain ⟨sep, p, ls, rfl, rfl, hp, hz, q⟩ := h
  obtain ⟨t, rfl⟩ := rx
  obtain ⟨u, rfl, ru⟩ := vals1 rs
  cases ru
  obtain ⟨its, r1, p1, _⟩ := I.list hp
  have e : Txt.join (tx sep) (ls.map tx) = tx (joinN sep ls) := by
    rw [← join_tx]
    exact beq_iff_eq.mp (join_plain_closes _ _)
  exact join_list p1.isList (strs_of r1) (by rw [sumLen_tx, List.length_map, tx_len]; exact hz) fun t' k => ⟨.str (tx (joinN sep ls)), H, I.tok _, ⟨t', by rw [e]⟩, q⟩
end
end L2
/-! ### What the law builds and compares, over the abstract heap -/
namespace L2
open PySem PySem.Spec PyProof.Rows
set_option linter.all false
theorem Same.put {H H' : Hp} {p : Addr} (s : Same H H') (h : H p = none) (o : HO) : Same H (upd H' p o) := fun b u q => by
  rw [upd_ne (ne_of_none q h)]
  exact s b u q
theorem Same.new {H H' : Hp} {p : Addr} (s : Same H H') (h : H' p = none) (o : HO) : Same H (upd H' p o) := s.put (s.free h) o
theorem kit_ne (K : PySem.W.Frag) (T U : String) (h1 : (Value.type T == Value.type U) = false) (h2 : PySem.W.kitMeta U = true) (h3 : PySem.W.subIn K (.type T) (.type U) = some false) : PySem.W.kitOne K (.type T) (.type U) = some false := by
  unfold PySem.W.kitOne
  rw [if_neg (by rw [h1]; exact Bool.false_ne_true)]
  unfold PySem.W.kitCls
  simp only
  rw [if_pos h2]
  exact h3
theorem sub_no (T U : String) (h : ((fastBuiltinMro T).map (·.contains (Value.type U))) = some false) (K : PySem.W.Frag) : PySem.W.subIn K (.type T) (.type U) = some false := h
theorem kit_tuple_list (K : PySem.W.Frag) : PySem.W.kitOne K (.type "tuple") (.type "list") = some false := kit_ne K _ _ (by decide) (by decide +kernel) (sub_no _ _ (by decide +kernel) K)
theorem kit_list_tuple (K : PySem.W.Frag) : PySem.W.kitOne K (.type "list") (.type "tuple") = some false := kit_ne K _ _ (by decide) (by decide +kernel) (sub_no _ _ (by decide +kernel) K)
theorem kit_str_list (K : PySem.W.Frag) : PySem.W.kitOne K (.type "str") (.type "list") = some false := kit_ne K _ _ (by decide) (by decide +kernel) (sub_no _ _ (by decide +kernel) K)
theorem kit_str_tuple (K : PySem.W.Frag) : PySem.W.kitOne K (.type "str") (.type "tuple") = some false := kit_ne K _ _ (by decide) (by decide +kernel) (sub_no _ _ (by decide +kernel) K)
theorem kit_int_list (K : PySem.W.Frag) : PySem.W.kitOne K (.type "int") (.type "list") = some false := kit_ne K _ _ (by decide) (by decide +kernel) (sub_no _ _ (by decide +kernel) K)
theorem kit_int_tuple (K : PySem.W.Frag) : PySem.W.kitOne K (.type "int") (.type "tuple") = some false := kit_ne K _ _ (by decide) (by decide +kernel) (sub_no _ _ (by decide +kernel) K)
theorem kit_int_str (K : PySem.W.Frag) : PySem.W.kitOne K (.type "int") (.type "str") = some false := kit_ne K _ _ (by decide) (by decide +kernel) (sub_no _ _ (by decide +kernel) K)
theorem kit_int_bool (K : PySem.W.Frag) : PySem.W.kitOne K (.type "int") (.type "bool") = some false := kit_ne K _ _ (by decide) (by decide +kernel) (sub_no _ _ (by decide +kernel) K)
theorem kitA_list (K : PySem.W.Frag) : PySem.W.kitAny K (.type "list") [.type "list", .type "tuple"] = some true := by
  unfold PySem.W.kitAny
  rw [kit_same]
theorem kitA_tuple (K : PySem.W.Frag) : PySem.W.kitAny K (.type "tuple") [.type "list", .type "tuple"] = some true := by
  unfold PySem.W.kitAny
  rw [kit_tuple_list]
  unfold PySem.W.kitAny
  rw [kit_same]
theorem kitA_str (K : PySem.W.Frag) : PySem.W.kitAny K (.type "str") [.type "list", .type "tuple"] = some false := by
  unfold PySem.W.kitAny
  rw [kit_str_list]
  unfold PySem.W.kitAny
  rw [kit_str_tuple]
  rfl
theorem kitA_int (K : PySem.W.Frag) : PySem.W.kitAny K (.type "int") [.type "list", .type "tuple"] = some false := by
  unfold PySem.W.kitAny
  rw [kit_int_list]
  unfold PySem.W.kitAny
  rw [kit_int_tuple]
  rfl
/-! ### data of texts, numbers, lists and tuples -/
inductive Dt where
  | s (l : List Nat) | i (n : Int) | l (xs : List Dt) | t (xs : List Dt)
mutual
def Rep (H : Hp) : Dt → V → Prop
  | .s l, v => v = .str (tx l)
  | .i n, v => v = .int n
  | .l xs, v => ∃ p vs, v = .ref p ∧ H p = some (.lst vs) ∧ Reps H xs vs
  | .t xs, v => ∃ p vs, v = .ref p ∧ H p = some (.tup vs) ∧ Reps H xs vs
def Reps (H : Hp) : List Dt → List V → Prop
  | [], vs => vs = []
  | x :: xs, vs => ∃ v r, vs = v :: r ∧ Rep H x v ∧ Reps H xs r
end
mutual
def Dt.size : Dt → Nat
  | .s _ => 1
  | .i _ => 1
  | .l xs => 1 + Dt.sizes xs
  | .t xs => 1 + Dt.sizes xs
def Dt.sizes : List Dt → Nat
  | [] => 0
  | x :: xs => x.size + Dt.sizes xs
end
theorem Reps.length {H : Hp} : ∀ {xs : List Dt} {vs : List V}, Reps H xs vs → xs.length = vs.length
  | [], _, h => by rw [Reps] at h; subst h; rfl
  | x :: xs, _, h => by
    rw [Reps] at h
    obtain ⟨v, r, rfl, _, h⟩ := h
    rw [List.length_cons, List.length_cons, Reps.length h]
theorem Reps.append {H : Hp} : ∀ {xs ys : List Dt} {vs us : List V}, Reps H xs vs → Reps H ys us → Reps H (xs ++ ys) (vs ++ us)
  | [], _, _, _, h, k => by rw [Reps] at h; subst h; exact k
  | x :: xs, _, _, _, h, k => by
    rw [Reps] at h
    obtain ⟨v, r, rfl, h1, h⟩ := h
    rw [List.cons_append, List.cons_append, Reps]
    exact ⟨v, _, rfl, h1, Reps.append h k⟩
theorem Reps.snoc {H : Hp} : ∀ {xs : List Dt} {x : Dt} {vs : List V}, Reps H (xs ++ [x]) vs → ∃ r v, vs = r ++ [v] ∧ Reps H xs r ∧ Rep H x v
  | [], x, _, h => by
    rw [List.nil_append, Reps] at h
    obtain ⟨v, r, rfl, h1, h⟩ := h
    rw [Reps] at h
    subst h
    exact ⟨[], v, rfl, by rw [Reps], h1⟩
  | y :: xs, x, _, h => by
    rw [List.cons_append, Reps] at h
    obtain ⟨v, r, rfl, h1, h⟩ := h
    obtain ⟨r', v', rfl, h2, h3⟩ := Reps.snoc h
    exact ⟨v :: r', v', rfl, by rw [Reps]; exact ⟨v, r', rfl, h1, h2⟩, h3⟩
theorem sizes_snoc : ∀ (xs : List Dt) (x : Dt), Dt.sizes (xs ++ [x]) = Dt.sizes xs + x.size
  | [], x => by simp [Dt.sizes]
  | y :: xs, x => by
    rw [List.cons_append, Dt.sizes, Dt.sizes, sizes_snoc xs x]
    omega
theorem sizes_append : ∀ (xs ys : List Dt), Dt.sizes (xs ++ ys) = Dt.sizes xs + Dt.sizes ys
  | [], ys => by simp [Dt.sizes]
  | y :: xs, ys => by
    rw [List.cons_append, Dt.sizes, Dt.sizes, sizes_append xs ys]
    omega
theorem Dt.size_pos : ∀ d : Dt, 1 ≤ d.size
  | .s _ => by rw [Dt.size]; exact Nat.le_refl _
  | .i _ => by rw [Dt.size]; exact Nat.le_refl _
  | .l _ => by rw [Dt.size]; omega
  | .t _ => by rw [Dt.size]; omega
theorem length_sizes : ∀ xs : List Dt, xs.length ≤ Dt.sizes xs
  | [] => Nat.le_refl _
  | x :: xs => by
    have := Dt.size_pos x
    have := length_sizes xs
    rw [Dt.sizes, List.length_cons]
    omega
mutual
theorem Rep.same {H H' : Hp} (s : Same H H') : ∀ {d : Dt} {v : V}, Rep H d v → Rep H' d v
  | .s _, _, h => by rw [Rep] at h ⊢; exact h
  | .i _, _, h => by rw [Rep] at h ⊢; exact h
  | .l xs, _, h => by
    rw [Rep] at h ⊢
    obtain ⟨p, vs, e, hp, h⟩ := h
    exact ⟨p, vs, e, s p _ hp, Reps.same s h⟩
  | .t xs, _, h => by
    rw [Rep] at h ⊢
    obtain ⟨p, vs, e, hp, h⟩ := h
    exact ⟨p, vs, e, s p _ hp, Reps.same s h⟩
theorem Reps.same {H H' : Hp} (s : Same H H') : ∀ {xs : List Dt} {vs : List V}, Reps H xs vs → Reps H' xs vs
  | [], _, h => by rw [Reps] at h ⊢; exact h
  | x :: xs, _, h => by
    rw [Reps] at h ⊢
    obtain ⟨v, r, e, h1, h2⟩ := h
    exact ⟨v, r, e, Rep.same s h1, Reps.same s h2⟩
end
end L2
/-! Mathematics of the fields and cells, over lists of codes. -/
namespace Cb
def signs : List Nat := (List.range 93).filterMap fun i => if i + 33 = 37 ∨ i + 33 = 124 then none else some (i + 33)
theorem signs_len : signs.length = 91 := by decide +kernel
def okc (c : Nat) : Prop := 32 ≤ c ∧ c ≤ 125 ∧ c ≠ 37 ∧ c ≠ 124
theorem signs_ok : ∀ c ∈ signs, 33 ≤ c ∧ c ≤ 125 ∧ c ≠ 37 ∧ c ≠ 124 := by decide +kernel
def fsign (a : Int) (k : Nat) : Nat := if (a + k) % 6 = 1 then 32 else signs.getD ((a / 3 + k * (2 + a % 5)) % 91).toNat 0
def fraw (a : Int) (n : Nat) : List Nat := (List.range n).map (fsign a)
def ends32 (l : List Nat) : Bool := l.getLast? == some 32
def ffix (l : List Nat) : List Nat := if ends32 l then l.dropLast ++ [122] else l
def fieldOf (a most : Int) : List Nat := ffix (fraw a (a / 7 % (most + 1)).toNat)
def Good (l : List Nat) : Prop := (∀ c ∈ l, okc c) ∧ ends32 l = false
theorem spot_bound (a : Int) (k : Nat) : ((a / 3 + k * (2 + a % 5)) % 91).toNat < 91 := by
  have h1 := Int.emod_nonneg (a / 3 + k * (2 + a % 5)) (show (91 : Int) ≠ 0 by decide)
  have h2 := Int.emod_lt_of_pos (a / 3 + k * (2 + a % 5)) (show (0 : Int) < 91 by decide)
  omega
theorem fsign_ok (a : Int) (k : Nat) : okc (fsign a k) := by
  unfold fsign
  split
  · exact ⟨by decide, by decide, by decide, by decide⟩
  · have hb := spot_bound a k
    have hl : ((a / 3 + k * (2 + a % 5)) % 91).toNat < signs.length := by rw [signs_len]; exact hb
    rw [List.getD_eq_getElem?_getD, List.getElem?_eq_getElem hl, Option.getD_some]
    obtain ⟨h1, h2, h3, h4⟩ := signs_ok _ (List.getElem_mem hl)
    exact ⟨by omega, h2, h3, h4⟩
theorem fraw_succ (a : Int) (n : Nat) : fraw a (n + 1) = fraw a n ++ [fsign a n] := by
  unfold fraw
  rw [List.range_succ, List.map_append]
  rfl
theorem fraw_len (a : Int) (n : Nat) : (fraw a n).length = n := by
  unfold fraw
  rw [List.length_map, List.length_range]
theorem fraw_ok (a : Int) (n : Nat) : ∀ c ∈ fraw a n, okc c := by
  intro c hc
  obtain ⟨k, _, rfl⟩ := List.mem_map.mp hc
  exact fsign_ok a k
theorem ends32_snoc (l : List Nat) (c : Nat) : ends32 (l ++ [c]) = (c == 32) := by
  unfold ends32
  rw [List.getLast?_append]
  by_cases h : c = 32
  · subst h; rfl
  · have e : (c == 32) = false := by simpa using h
    rw [e]
    simp [h]
theorem ffix_len (l : List Nat) : (ffix l).length = l.length := by
  unfold ffix
  split
  · rename_i h
    cases l with
    | nil => simp [ends32] at h
    | cons a r => simp
  · rfl
theorem fieldOf_len (a most : Int) : (fieldOf a most).length = (a / 7 % (most + 1)).toNat := by
  unfold fieldOf
  rw [ffix_len, fraw_len]
theorem ffix_good {l : List Nat} (h : ∀ c ∈ l, okc c) : Good (ffix l) := by
  unfold ffix
  split
  · refine ⟨fun c hc => ?_, by rw [ends32_snoc]; rfl⟩
    rcases List.mem_append.mp hc with hc | hc
    · exact h c ((List.dropLast_subset l) hc)
    · rw [List.mem_singleton] at hc
      subst hc
      exact ⟨by decide, by decide, by decide, by decide⟩
  · rename_i e
    exact ⟨h, by simpa using e⟩
theorem fieldOf_good (a most : Int) : Good (fieldOf a most) := ffix_good (fraw_ok a _)
/-- a cell -/
def cellOf (l : List Nat) (w : Nat) : List Nat := if w < l.length then l.take (w - 1) ++ [126] else l ++ List.replicate (w - l.length) 32
theorem cellOf_len {l : List Nat} {w : Nat} (h : 1 ≤ w) : (cellOf l w).length = w := by
  unfold cellOf
  split
  · rw [List.length_append, List.length_take, List.length_singleton]
    omega
  · rw [List.length_append, List.length_replicate]
    omega
/-- can it stand in a column -/
def colSign (c : Nat) : Bool := decide (32 ≤ c ∧ c ≤ 126 ∧ c ≠ 37 ∧ c ≠ 124 ∧ c ≠ 126)
def isField (l : List Nat) : Bool := l.all colSign && !ends32 l
theorem isField_good {l : List Nat} (h : Good l) : isField l = true := by
  unfold isField
  rw [h.2, Bool.not_false, Bool.and_true, List.all_eq_true]
  intro c hc
  obtain ⟨h1, h2, h3, h4⟩ := h.1 c hc
  exact decide_eq_true ⟨h1, by omega, h3, h4, by omega⟩
theorem isField_mem {l : List Nat} {c : Nat} (hc : c ∈ l) (h : c = 124 ∨ c = 126) : isField l = false := by
  unfold isField
  have e : l.all colSign = false := by
    rw [List.all_eq_false]
    refine ⟨c, hc, ?_⟩
    unfold colSign
    rw [decide_eq_false (by omega)]
    decide
  rw [e, Bool.false_and]
theorem isField_blank (l : List Nat) : isField (l ++ [32]) = false := by
  unfold isField
  rw [ends32_snoc]
  simp
end Cb
/-! The table that the law builds, over lists of codes. -/
namespace Cb
/-- one field more: the rows that are whole, the row under way -/
def tabStep (cols : Nat) (s : List (List (List Nat)) × List (List Nat)) (f : List Nat) : List (List (List Nat)) × List (List Nat) :=
  if (s.2 ++ [f]).length = cols then (s.1 ++ [s.2 ++ [f]], []) else (s.1, s.2 ++ [f])
def tabFold (cols : Nat) (fs : List (List Nat)) : List (List (List Nat)) × List (List Nat) := fs.foldl (tabStep cols) ([], [])
theorem tabFold_snoc (cols : Nat) (fs : List (List Nat)) (f : List Nat) : tabFold cols (fs ++ [f]) = tabStep cols (tabFold cols fs) f := by
  unfold tabFold
  rw [List.foldl_append]
  rfl
structure TabOk (cols n : Nat) (P : List Nat → Prop) (s : List (List (List Nat)) × List (List Nat)) : Prop where
  rows : ∀ r ∈ s.1, r.length = cols ∧ ∀ f ∈ r, P f
  row : s.2.length < cols ∧ ∀ f ∈ s.2, P f
  size : s.1.length + s.2.length ≤ n
theorem TabOk.step {cols n : Nat} {P : List Nat → Prop} {s : List (List (List Nat)) × List (List Nat)} {f : List Nat} (h : TabOk cols n P s) (hf : P f) : TabOk cols (n + 1) P (tabStep cols s f) := by
  have hr : ∀ g ∈ s.2 ++ [f], P g := fun g hg => by
    rcases List.mem_append.mp hg with hg | hg
    · exact h.row.2 g hg
    · rw [List.mem_singleton] at hg
      subst hg
      exact hf
  have hl : (s.2 ++ [f]).length = s.2.length + 1 := by simp
  have h1 := h.row.1
  have h2 := h.size
  unfold tabStep
  split
  · rename_i e
    refine ⟨fun r hm => ?_, ⟨by show 0 < cols; omega, fun g hg => by cases hg⟩, ?_⟩
    · rcases List.mem_append.mp hm with hm | hm
      · exact h.rows r hm
      · rw [List.mem_singleton] at hm
        subst hm
        exact ⟨e, hr⟩
    · show (s.1 ++ [s.2 ++ [f]]).length + 0 ≤ n + 1
      rw [List.length_append, List.length_singleton]
      omega
  · rename_i e
    refine ⟨h.rows, ⟨by show (s.2 ++ [f]).length < cols; omega, hr⟩, by show s.1.length + (s.2 ++ [f]).length ≤ n + 1; omega⟩
theorem tabFold_ok {cols : Nat} (hc : 1 ≤ cols) {P : List Nat → Prop} (fs : List (List Nat)) (h : ∀ f ∈ fs, P f) : TabOk cols fs.length P (tabFold cols fs) := by
  have all : ∀ (l : List (List Nat)) (n : Nat) (s : List (List (List Nat)) × List (List Nat)), TabOk cols n P s → (∀ f ∈ l, P f) → TabOk cols (n + l.length) P (l.foldl (tabStep cols) s) := by
    intro l
    induction l with
    | nil => intro n s hs _; exact hs
    | cons f r ih =>
      intro n s hs hf
      have := ih (n + 1) (tabStep cols s f) (hs.step (hf f List.mem_cons_self)) fun g hg => hf g (List.mem_cons_of_mem _ hg)
      rw [List.foldl_cons, List.length_cons]
      have e : n + (r.length + 1) = n + 1 + r.length := by omega
      rw [e]
      exact this
  have := all fs 0 ([], []) ⟨fun r hm => (nomatch hm), ⟨by show 0 < cols; omega, fun g hg => (nomatch hg)⟩, by show 0 + 0 ≤ 0; omega⟩ h
  rw [Nat.zero_add] at this
  exact this
end Cb
/-! ### a table on the abstract heap -/
namespace L2
open PySem PySem.Spec PyProof.Rows
set_option linter.all false
def rowV (r : List (List Nat)) : List V := r.map fun f => V.str (tx f)
abbrev RowsAt (H : Hp) : List Addr → List (List (List Nat)) → Prop := Paired fun a r => H a = some (.lst (rowV r))
structure TabAt (H : Hp) (p : Addr) (rs : List Addr) (t : List (List (List Nat))) : Prop where
  tab : H p = some (.lst (rs.map V.ref))
  rows : RowsAt H rs t
theorem Paired.getL {α β : Type} {F : α → β → Prop} : ∀ {l₁ : List α} {l₂ : List β} {i : Nat} {a : α}, Paired F l₁ l₂ → l₁[i]? = some a → ∃ b, l₂[i]? = some b ∧ F a b
  | _, _, _, _, .nil, e => by simp at e
  | _, _, 0, _, .cons r _, e => by simp at e; subst e; exact ⟨_, rfl, r⟩
  | _, _, i + 1, _, .cons _ t, e => by
    obtain ⟨b, h1, h2⟩ := Paired.getL (i := i) t (by simpa using e)
    exact ⟨b, by simpa using h1, h2⟩
theorem Paired.getR {α β : Type} {F : α → β → Prop} : ∀ {l₁ : List α} {l₂ : List β} {i : Nat} {b : β}, Paired F l₁ l₂ → l₂[i]? = some b → ∃ a, l₁[i]? = some a ∧ F a b
  | _, _, _, _, .nil, e => by simp at e
  | _, _, 0, _, .cons r _, e => by simp at e; subst e; exact ⟨_, rfl, r⟩
  | _, _, i + 1, _, .cons _ t, e => by
    obtain ⟨b, h1, h2⟩ := Paired.getR (i := i) t (by simpa using e)
    exact ⟨b, by simpa using h1, h2⟩
theorem RowsAt.same {H H' : Hp} (s : Same H H') {rs : List Addr} {t : List (List (List Nat))} (h : RowsAt H rs t) : RowsAt H' rs t := Paired.mapP h fun a r q => s a _ q
theorem TabAt.same {H H' : Hp} (s : Same H H') {p : Addr} {rs : List Addr} {t : List (List (List Nat))} (h : TabAt H p rs t) : TabAt H' p rs t := ⟨s p _ h.tab, RowsAt.same s h.rows⟩
theorem Paired.memP {α β : Type} {F G : α → β → Prop} : ∀ {l₁ : List α} {l₂ : List β}, Paired F l₁ l₂ → (∀ a b, a ∈ l₁ → F a b → G a b) → Paired G l₁ l₂
  | _, _, .nil, _ => .nil
  | _, _, .cons r t, f => .cons (f _ _ List.mem_cons_self r) (Paired.memP t fun a b ha => f a b (List.mem_cons_of_mem _ ha))
theorem RowsAt.put {H : Hp} {rs : List Addr} {t : List (List (List Nat))} {p : Addr} (h : RowsAt H rs t) (n : p ∉ rs) (o : HO) : RowsAt (upd H p o) rs t := Paired.memP h fun a r ha q => by
  have e : a ≠ p := fun z => n (by rw [← z]; exact ha)
  rw [upd_ne e]
  exact q
/-- the data of a table -/
def tabD (t : List (List (List Nat))) : Dt := .l (t.map fun r => .l (r.map .s))
theorem reps_row (H : Hp) : ∀ r : List (List Nat), Reps H (r.map .s) (rowV r)
  | [] => by
    show Reps H [] []
    rw [Reps]
  | f :: r => by
    show Reps H (.s f :: r.map .s) (V.str (tx f) :: rowV r)
    rw [Reps]
    exact ⟨_, _, rfl, by rw [Rep], reps_row H r⟩
theorem reps_rows {H : Hp} : ∀ {rs : List Addr} {t : List (List (List Nat))}, RowsAt H rs t → Reps H (t.map fun r => .l (r.map .s)) (rs.map V.ref)
  | _, _, .nil => by
    show Reps H [] []
    rw [Reps]
  | _, _, .cons (a := a) (b := r) q h => by
    rw [List.map_cons, List.map_cons, Reps]
    exact ⟨_, _, rfl, by rw [Rep]; exact ⟨a, _, rfl, q, reps_row H r⟩, reps_rows h⟩
theorem TabAt.rep {H : Hp} {p : Addr} {rs : List Addr} {t : List (List (List Nat))} (h : TabAt H p rs t) : Rep H (tabD t) (.ref p) := by
  unfold tabD
  rw [Rep]
  exact ⟨p, _, rfl, h.tab, reps_rows h.rows⟩
theorem sizes_s : ∀ r : List (List Nat), Dt.sizes (r.map .s) = r.length
  | [] => rfl
  | f :: r => by
    rw [List.map_cons, Dt.sizes, sizes_s r, Dt.size, List.length_cons]
    omega
theorem sizes_rows (c : Nat) : ∀ t : List (List (List Nat)), (∀ r ∈ t, r.length ≤ c) → Dt.sizes (t.map fun r => .l (r.map .s)) ≤ t.length * (c + 1)
  | [], _ => by rw [List.map_nil, Dt.sizes]; omega
  | r :: t, h => by
    have h1 := h r List.mem_cons_self
    have h2 := sizes_rows c t fun r hr => h r (List.mem_cons_of_mem _ hr)
    rw [List.map_cons, Dt.sizes, Dt.size, sizes_s, List.length_cons, Nat.succ_mul]
    omega
end L2
namespace Cb
/-- the fields that the cells make -/
def fieldsOf (ns : List Int) (most : Int) : List (List Nat) := (List.range ns.length).map fun k => fieldOf (ns.getD k 0 + 13 * (k : Int)) most
def tableOf (ns : List Int) (cols : Nat) (most : Int) : List (List (List Nat)) := (tabFold cols (fieldsOf ns most)).1
theorem fieldsOf_len (ns : List Int) (most : Int) : (fieldsOf ns most).length = ns.length := by
  unfold fieldsOf
  rw [List.length_map, List.length_range]
theorem fieldsOf_take (ns : List Int) (most : Int) {i : Nat} (h : i < ns.length) : (fieldsOf ns most).take (i + 1) = (fieldsOf ns most).take i ++ [fieldOf (ns.getD i 0 + 13 * (i : Int)) most] := by
  have h2 : i < (fieldsOf ns most).length := by rw [fieldsOf_len]; exact h
  rw [List.take_succ_eq_append_getElem h2]
  congr 1
  simp [fieldsOf]
def FieldOk (most : Int) (f : List Nat) : Prop := Good f ∧ (f.length : Int) ≤ most
theorem fieldOf_ok (a : Int) {most : Int} (h : 0 ≤ most) : FieldOk most (fieldOf a most) := by
  refine ⟨fieldOf_good a most, ?_⟩
  rw [fieldOf_len]
  have h1 := Int.emod_nonneg (a / 7) (show most + 1 ≠ 0 by omega)
  have h2 := Int.emod_lt_of_pos (a / 7) (show (0 : Int) < most + 1 by omega)
  omega
theorem fieldsOf_ok (ns : List Int) {most : Int} (h : 0 ≤ most) : ∀ f ∈ fieldsOf ns most, FieldOk most f := by
  intro f hf
  obtain ⟨k, _, rfl⟩ := List.mem_map.mp hf
  exact fieldOf_ok _ h
structure TableOk (cols n : Nat) (most : Int) (t : List (List (List Nat))) : Prop where
  rows : ∀ r ∈ t, r.length = cols ∧ ∀ f ∈ r, FieldOk most f
  size : t.length ≤ n
theorem tableOf_ok (ns : List Int) {cols : Nat} (hc : 1 ≤ cols) {most : Int} (h : 0 ≤ most) : TableOk cols ns.length most (tableOf ns cols most) := by
  have := tabFold_ok hc (fieldsOf ns most) (fieldsOf_ok ns h)
  rw [fieldsOf_len] at this
  exact ⟨this.rows, by have := this.size; unfold tableOf; omega⟩
end Cb
/-! ### the rules that name the fragment, for a context whose fragment is known by an equation -/
namespace L2
open PySem PySem.Spec PyProof.Rows
set_option linter.all false
section
variable {X : Cx} {K : PySem.W.Frag}
theorem ix_listK (hK : X.K = K) : IxR X (rIxL K) := by subst hK; exact ix_list
theorem ix_tupK (hK : X.K = K) : IxR X (rIxT K) := by subst hK; exact ix_tup
theorem sl_listK (hK : X.K = K) : SlR X (rSlL K) := by subst hK; exact sl_list
theorem call_len_seqK (hK : X.K = K) : CallR X (.builtin "len") (fun xs H Q => ∃ p ys, xs = [.ref p] ∧ (SqL K H p ys ∨ SqT K H p ys) ∧ Q (.int ys.length) H) := by subst hK; exact call_len_seq
theorem call_list_ofK (hK : X.K = K) : CallR X (.type "list") (fun xs H Q => ∃ p ys, xs = [.ref p] ∧ (SqL K H p ys ∨ SqT K H p ys) ∧ ∀ l, H l = none → Q (.ref l) (upd H l (.lst ys))) := by subst hK; exact call_list_of
theorem call_isiK (hK : X.K = K) : CallR X (.builtin "isinstance") (fun xs H Q => ∃ x n t b, xs = [x, .ty n] ∧ TyOf K H x t ∧ PySem.W.kitOne K t (.type n) = some b ∧ Q (.bl b) H) := by subst hK; exact call_isi
theorem call_maxLK (hK : X.K = K) (hc : X.calm = true) : CallR X (.builtin "max") (fun xs H Q => ∃ (p : Addr) (ns : List Int), xs = [.ref p] ∧ SqL K H p (ns.map V.int) ∧ 0 < ns.length ∧ ∀ M, M ∈ ns → (∀ a, a ∈ ns → a ≤ M) → Q (.int M) H) := by subst hK; exact call_maxL hc
theorem mt_joinK (hK : X.K = K) : MtR X "str.join" (fun x xs H Q => ∃ sep p ls, x = .str (tx sep) ∧ xs = [.ref p] ∧ SqL K H p (ls.map fun l => V.str (tx l)) ∧ sumLen ls + ls.length * sep.length ≤ 16777216 ∧ Q (.str (tx (joinN sep ls))) H) := by subst hK; exact mt_join
theorem op_eq_nilK (hK : X.K = K) (hu : X.A.units < cLine) : OpR X (compareOp .Eq) (rEqNil K false) := by subst hK; exact op_eq_nil hu
theorem op_ne_nilK (hK : X.K = K) (hu : X.A.units < cLine) : OpR X (compareOp .NotEq) (rEqNil K true) := by subst hK; exact op_ne_nil hu
variable {o e : Expr} {es : List Expr} {to : TE} {t : TA} {name : Str} {apos cpos : Pos} {T id : String} {r : V → List V → Hp → VK → Prop}
theorem pe_bm0K (hK : X.K = K) (pa : PlainAttrs T) (slot : Slot T name id) (hty : typeOf (.builtin id) = pure (.type "method_descriptor")) (hm : MtR X id r) (ho : PE X o to)
    (hbase : attributeBase o name X.env (eval o X.env) = eval o X.env := by rfl) (hline : (apos.endLine == cpos.line) = true := by rfl) : PE X (.Call (.Attribute o name apos) [] [] cpos) (tBM0 K T r to) := by
  subst hK
  exact pe_bm0 pa slot hty hm ho hbase hline
theorem pe_bmK (hK : X.K = K) (pa : PlainAttrs T) (slot : Slot T name id) (hty : typeOf (.builtin id) = pure (.type "method_descriptor")) (hm : MtR X id r) (ho : PE X o to) (ha : PA X (e :: es) t)
    (hbase : attributeBase o name X.env (eval o X.env) = eval o X.env := by rfl)
    (hfew : ((backTo cpos (starEach (e :: es) X.env)).all (fun x => !x.1) && (backToKw cpos (keywordEach [] X.env)).all (fun x => x.1.isSome)
      && decide ((e :: es).length + ([] : List Keyword).length + (if ([] : List Keyword).isEmpty then 0 else 1) < 30)) = true := by rfl)
    (hline : (apos.endLine == cpos.line) = true := by rfl) (hs : starEach (e :: es) X.env = (false, eval e X.env) :: starEach es X.env := by rfl) (hplain : (backTo cpos (starEach es X.env)).any (·.1) = false := by rfl) :
    PE X (.Call (.Attribute o name apos) (e :: es) [] cpos) (tBM K T r to t) := by
  subst hK
  exact pe_bm pa slot hty hm ho ha hbase hfew hline hs hplain
end
end L2
/-! ### short words for what the laws do -/
namespace L2
open PySem PySem.Spec PyProof.Rows
set_option linter.all false
theorem tSeq_mid {t u : TS} {D : Ends} {σ : St} {H : Hp} (N : St → Hp → Prop) (h2 : ∀ σ' H', N σ' H' → u D σ' H') (h1 : ∀ U : St → Hp → Prop, (∀ σ' H', N σ' H' → U σ' H') → t { D with nx := U } σ H) : tSeq t u D σ H := h1 (u D) h2
theorem iteD {c A B : Prop} [Decidable c] (h : ¬ c) (b : B) : if decide c = true then A else B := by
  rw [if_neg (fun z => h (of_decide_eq_true z))]
  exact b
theorem pick2 (x y : V) (a b : Int) : atI [x, y] (if decide (V.int a = V.int b) = true then 1 else 0) = some (if a = b then y else x) := by
  by_cases h : a = b
  · rw [if_pos (decide_eq_true (congrArg V.int h)), if_pos h]
    exact atI_nat (j := 1) rfl
  · rw [if_neg (fun z => h (V.int.inj (of_decide_eq_true z))), if_neg h]
    exact atI_nat (j := 0) rfl
theorem pick2n (x y : V) {k : Int} (h0 : 0 ≤ k) (h1 : k < 2) : atI [x, y] k = some (if k = 1 then y else x) := by
  have : k = 0 ∨ k = 1 := by omega
  rcases this with rfl | rfl
  · exact atI_nat (j := 0) rfl
  · exact atI_nat (j := 1) rfl
theorem cutV_from (xs : List V) (k : Nat) : cutV xs (some (k : Int)) none = xs.drop k := by
  unfold cutV
  rw [HT.sIx_nat, HT.sIx_none]
  by_cases h : k ≤ xs.length
  · rw [Nat.min_eq_left h, List.take_of_length_le]
    rw [List.length_drop]
    exact Nat.le_refl _
  · have e : min k xs.length = xs.length := by omega
    rw [e, Nat.sub_self, List.take_zero, List.drop_eq_nil_of_le (by omega)]
/-- a comprehension over a list, each item's value known, the heap as it was -/
theorem comp_pure {K : PySem.W.Frag} {a acc : Addr} {xs : List V} {caps : List (Str × Nat)} {te : TE} {σ : St} {fin : Addr → List V → Hp → Prop} {H1 : Hp} (g : Nat → V) (hacc : H1 acc = none) (hsq : SqL K H1 a xs) (hz : xs.length ≤ 100000)
    (he : ∀ i x H' Qk, xs[i]? = some x → Same H1 H' → (∀ H2, Same H' H2 → Qk (g i) H2) → te (some x :: caps.map (capV σ)) H' Qk)
    (hfin : ∀ H', Same H1 H' → H' acc = some (.lst ((List.range xs.length).map g)) → fin acc ((List.range xs.length).map g) H') : compGo acc (Itl K a) caps tAll te σ fin H1 := by
  refine ⟨fun i m ys H' => ys = (List.range i).map g ∧ m = xs.length - i ∧ i ≤ xs.length ∧ Same H1 H' ∧ H' acc = some (.lst ys), ⟨_, rfl, rfl, Nat.zero_le _, same_new hacc _, upd_same⟩, ?_⟩
  rintro i m ys H' ⟨rfl, rfl, hi, hs, ha⟩
  refine ⟨ha, ?_⟩
  by_cases hlt : i < xs.length
  · refine .inr ⟨⟨xs, xs[i], hs.seq hsq, List.getElem?_eq_getElem hlt⟩, fun x H2 y => ?_⟩
    obtain ⟨rfl, y⟩ := y
    have ex := y _ (hs.seq hsq)
    refine he i x H2 _ ex hs fun H3 s3 => ⟨s3 _ _ ha, ?_, xs.length - (i + 1), by omega, ?_, rfl, hlt, (hs.trans s3).put hacc _, upd_same⟩
    · rw [List.length_map, List.length_range, sizeLine_eq]
      omega
    · rw [List.range_succ, List.map_append]
      rfl
  · have e : i = xs.length := by omega
    subst e
    exact .inl ⟨⟨xs, hs.seq hsq, Nat.le_refl _⟩, hfin H' hs ha⟩
/-- the same over a range -/
theorem comp_range {acc : Addr} {n : Nat} {caps : List (Str × Nat)} {te : TE} {σ : St} {fin : Addr → List V → Hp → Prop} {H1 : Hp} (g : Nat → V) (hacc : H1 acc = none) (hz : n ≤ 100000)
    (he : ∀ i H' Qk, i < n → Same H1 H' → (∀ H2, Same H' H2 → Qk (g i) H2) → te (some (.int (0 + i)) :: caps.map (capV σ)) H' Qk)
    (hfin : ∀ H', Same H1 H' → H' acc = some (.lst ((List.range n).map g)) → fin acc ((List.range n).map g) H') : compGo acc (Itr 0 n) caps tAll te σ fin H1 := by
  refine ⟨fun i m ys H' => ys = (List.range i).map g ∧ m = n - i ∧ i ≤ n ∧ Same H1 H' ∧ H' acc = some (.lst ys), ⟨_, rfl, rfl, Nat.zero_le _, same_new hacc _, upd_same⟩, ?_⟩
  rintro i m ys H' ⟨rfl, rfl, hi, hs, ha⟩
  refine ⟨ha, ?_⟩
  by_cases hlt : i < n
  · refine .inr ⟨hlt, fun x H2 y => ?_⟩
    obtain ⟨rfl, rfl⟩ := y
    refine he i H2 _ hlt hs fun H3 s3 => ⟨s3 _ _ ha, ?_, n - (i + 1), by omega, ?_, rfl, hlt, (hs.trans s3).put hacc _, upd_same⟩
    · rw [List.length_map, List.length_range, sizeLine_eq]
      omega
    · rw [List.range_succ, List.map_append]
      rfl
  · have e : i = n := by omega
    subst e
    exact .inl ⟨Nat.le_refl _, hfin H' hs ha⟩
end L2
namespace Cb
/-- the width of a column -/
def longest (t : List (List (List Nat))) (k : Nat) : Nat := (t.map fun r => (r.getD k []).length).foldl max 1
def colWidth (t : List (List (List Nat))) (cap k : Nat) : Nat := min cap (longest t k)
theorem foldl_max_le (l : List Nat) : ∀ a : Nat, a ≤ l.foldl max a ∧ (∀ x ∈ l, x ≤ l.foldl max a) ∧ (l.foldl max a = a ∨ l.foldl max a ∈ l) := by
  induction l with
  | nil => intro a; exact ⟨Nat.le_refl _, fun x hx => (nomatch hx), .inl rfl⟩
  | cons b r ih =>
    intro a
    obtain ⟨h1, h2, h3⟩ := ih (max a b)
    rw [List.foldl_cons]
    refine ⟨by omega, fun x hx => ?_, ?_⟩
    · rcases List.mem_cons.mp hx with rfl | hx
      · omega
      · exact h2 x hx
    · rcases h3 with h3 | h3
      · rw [h3]
        rcases Nat.le_total a b with h | h
        · exact .inr (by rw [Nat.max_eq_right h]; exact List.mem_cons_self)
        · exact .inl (Nat.max_eq_left h)
      · exact .inr (List.mem_cons_of_mem _ h3)
theorem longest_ge (t : List (List (List Nat))) (k : Nat) : 1 ≤ longest t k := (foldl_max_le _ 1).1
theorem longest_mem {t : List (List (List Nat))} {r : List (List Nat)} (k : Nat) (h : r ∈ t) : (r.getD k []).length ≤ longest t k := (foldl_max_le _ 1).2.1 _ (List.mem_map.mpr ⟨r, h, rfl⟩)
theorem longest_is (t : List (List (List Nat))) (k : Nat) : longest t k = 1 ∨ ∃ r ∈ t, longest t k = (r.getD k []).length := by
  rcases (foldl_max_le (t.map fun r => (r.getD k []).length) 1).2.2 with h | h
  · exact .inl h
  · obtain ⟨r, hr, e⟩ := List.mem_map.mp h
    exact .inr ⟨r, hr, e.symm⟩
def widthsOf (t : List (List (List Nat))) (cols cap : Nat) : List Nat := if t = [] then [] else (List.range cols).map (colWidth t cap)
end Cb
namespace Cb
/-- the places of the fields that are cut: row i up to column j; the rows up to i -/
def cutsRow (t : List (List (List Nat))) (cap i j : Nat) : List (Nat × Nat) := ((List.range j).filter fun k => decide (cap < ((t.getD i []).getD k []).length)).map fun k => (i, k)
def cutsUp (t : List (List (List Nat))) (cap n : Nat) : List (Nat × Nat) := (List.range n).flatMap fun i => cutsRow t cap i (t.getD i []).length
def cutsOf (t : List (List (List Nat))) (cap : Nat) : List (Nat × Nat) := cutsUp t cap t.length
theorem cutsRow_zero (t : List (List (List Nat))) (cap i : Nat) : cutsRow t cap i 0 = [] := rfl
theorem cutsRow_succ_pos {t : List (List (List Nat))} {cap i j : Nat} (h : cap < ((t.getD i []).getD j []).length) : cutsRow t cap i (j + 1) = cutsRow t cap i j ++ [(i, j)] := by
  unfold cutsRow
  rw [List.range_succ, List.filter_append, List.map_append]
  congr 1
  rw [List.filter_cons_of_pos (p := fun k => decide (cap < ((t.getD i []).getD k []).length)) (decide_eq_true h)]
  rfl
theorem cutsRow_succ_neg {t : List (List (List Nat))} {cap i j : Nat} (h : ¬ cap < ((t.getD i []).getD j []).length) : cutsRow t cap i (j + 1) = cutsRow t cap i j := by
  unfold cutsRow
  rw [List.range_succ, List.filter_append, List.filter_cons_of_neg (by simpa using h)]
  simp
theorem cutsUp_succ (t : List (List (List Nat))) (cap i : Nat) : cutsUp t cap (i + 1) = cutsUp t cap i ++ cutsRow t cap i (t.getD i []).length := by
  unfold cutsUp
  rw [List.range_succ, List.flatMap_append]
  simp
theorem cutsRow_len (t : List (List (List Nat))) (cap i j : Nat) : (cutsRow t cap i j).length ≤ j := by
  unfold cutsRow
  rw [List.length_map]
  have := List.length_filter_le (fun k => decide (cap < ((t.getD i []).getD k []).length)) (List.range j)
  rw [List.length_range] at this
  exact this
theorem cutsUp_len (t : List (List (List Nat))) (cap c : Nat) (h : ∀ r ∈ t, r.length ≤ c) : ∀ n : Nat, (cutsUp t cap n).length ≤ n * c
  | 0 => by rw [Nat.zero_mul]; exact Nat.le_refl _
  | n + 1 => by
    have ih := cutsUp_len t cap c h n
    have h1 := cutsRow_len t cap n (t.getD n []).length
    have h2 : (t.getD n []).length ≤ c := by
      rw [List.getD_eq_getElem?_getD]
      cases q : t[n]? with
      | none => exact Nat.zero_le _
      | some r => exact h r (List.mem_of_getElem? q)
    rw [cutsUp_succ, List.length_append, Nat.succ_mul]
    omega
end Cb
namespace L2
open PySem PySem.Spec PyProof.Rows
/-- the heap but for one object -/
def hide (H : Hp) (p : Addr) : Hp := fun b => if b = p then none else H b
theorem hide_ne {H : Hp} {p b : Addr} (h : b ≠ p) : hide H p b = H b := if_neg h
theorem hide_put (H : Hp) (p : Addr) (o : HO) : hide (upd H p o) p = hide H p := by
  funext b
  by_cases h : b = p
  · unfold hide
    rw [if_pos h, if_pos h]
  · rw [hide_ne h, hide_ne h, upd_ne h]
theorem hide_same (H : Hp) (p : Addr) : Same (hide H p) H := fun b o h => by
  by_cases e : b = p
  · unfold hide at h
    rw [if_pos e] at h
    cases h
  · rw [hide_ne e] at h
    exact h
theorem hide_mono {H H' : Hp} (s : Same H H') (p : Addr) : Same (hide H p) (hide H' p) := fun b o h => by
  by_cases e : b = p
  · unfold hide at h
    rw [if_pos e] at h
    cases h
  · rw [hide_ne e] at h ⊢
    exact s b o h
def cutsD (l : List (Nat × Nat)) : List Dt := l.map fun p => .t [.i p.1, .i p.2]
theorem sizes_cuts : ∀ l : List (Nat × Nat), Dt.sizes (cutsD l) = 3 * l.length
  | [] => rfl
  | p :: l => by
    show Dt.sizes (.t [.i p.1, .i p.2] :: cutsD l) = _
    rw [Dt.sizes, sizes_cuts l, List.length_cons]
    simp only [Dt.size, Dt.sizes]
    omega
end L2
/-! ### texts: strip, join, split, over codes -/
namespace L2
open PySem PySem.Spec PyProof.Rows PySem.Builtin PySem.Builtin.Str
set_option linter.all false
/-- the blanks at the end taken away -/
def rsN (l : List Nat) : List Nat := (l.reverse.dropWhile (· == 32)).reverse
theorem takeWhile_dropWhile (p : Nat → Bool) (l : List Nat) : l.drop (l.takeWhile p).length = l.dropWhile p := by
  induction l with
  | nil => rfl
  | cons a r ih =>
    by_cases h : p a = true
    · rw [List.takeWhile_cons_of_pos h, List.dropWhile_cons_of_pos h, List.length_cons, List.drop_succ_cons, ih]
    · rw [List.takeWhile_cons_of_neg h, List.dropWhile_cons_of_neg h]
      rfl
theorem take_rs (p : Nat → Bool) (l : List Nat) : l.take (l.length - (l.reverse.takeWhile p).length) = (l.reverse.dropWhile p).reverse := by
  rw [← takeWhile_dropWhile, List.reverse_drop, List.reverse_reverse, List.length_reverse]
theorem goes32 : (fun c => (tx [32]).cps.contains c) = fun c => c == 32 := by
  funext c
  by_cases h : c = 32
  · subst h; simp
  · simp [h]
theorem strSub_tx (l : List Nat) (a b : Nat) : strSub (tx l) a b = tx ((l.take b).drop a) := by
  unfold strSub
  refine tx_of (Str.mk _) ▸ ?_
  simp [List.extract, List.drop_take]
theorem rstrip_tx (l : List Nat) : Txt.rstripChars (tx l) (tx [32]) = tx (rsN l) := by
  have e1 : stripped (fun c => (tx [32]).cps.contains c) false true (tx l) = tx (rsN l) := by
    rw [goes32]
    unfold stripped stripHi stripLo
    rw [strSub_tx]
    simp only [Bool.false_eq_true, if_false, if_true, tx_codes, tx_len, List.drop_zero]
    rw [take_rs]
    rfl
  unfold Txt.rstripChars Txt.stripBy
  split
  · rename_i h
    have h2 : stripSame (fun c => (tx [32]).cps.contains c) false true (tx l) = true := h
    rw [← e1]
    unfold stripSame at h2
    rw [Bool.and_eq_true] at h2
    have h3 : stripHi (fun c => (tx [32]).cps.contains c) true (tx l) (stripLo (fun c => (tx [32]).cps.contains c) false (tx l)) = (tx l).length := by simpa using h2.2
    unfold stripped
    rw [h3]
    have h4 : stripLo (fun c => (tx [32]).cps.contains c) false (tx l) = 0 := rfl
    rw [h4, strSub_tx, tx_len, List.drop_zero, List.take_length]
  · exact e1
theorem strip_blanks (n : Nat) : Txt.stripChars (tx (List.replicate n 32)) (tx [32]) = tx [] := by
  have hw : (List.replicate n 32).takeWhile (fun c => c == 32) = List.replicate n 32 := by
    rw [List.takeWhile_replicate]
    rfl
  unfold Txt.stripChars Txt.stripBy
  have hlo : stripLo (tx [32]).cps.contains true (tx (List.replicate n 32)) = n := by
    show (if true = true then ((tx (List.replicate n 32)).cps.toList.takeWhile fun c => (tx [32]).cps.contains c).length else 0) = n
    rw [if_pos rfl, goes32, tx_codes, hw, List.length_replicate]
  split
  · rename_i h
    unfold stripSame at h
    rw [hlo, Bool.and_eq_true] at h
    have : n = 0 := by simpa using h.1
    subst this
    rfl
  · unfold stripped
    rw [hlo, strSub_tx]
    refine tx_inj.mpr ?_
    refine List.drop_eq_nil_of_le ?_
    rw [List.length_take, List.length_replicate]
    omega
/-! ### join -/
theorem joinN_cons2 (sep x : List Nat) {r : List (List Nat)} (h : r ≠ []) : joinN sep (x :: r) = x ++ sep ++ joinN sep r := by
  cases r with
  | nil => exact absurd rfl h
  | cons y r => rfl
def preN (sep : List Nat) (cs : List (List Nat)) (j : Nat) : List Nat := ((cs.take j).map (· ++ sep)).flatten
theorem joinN_at (sep : List Nat) : ∀ (cs : List (List Nat)) (j : Nat), j < cs.length → joinN sep cs = preN sep cs j ++ joinN sep (cs.drop j)
  | [], j, h => by cases h
  | c :: cs, 0, _ => rfl
  | c :: cs, j + 1, h => by
    have h' : j < cs.length := by simpa using h
    have ne : cs ≠ [] := by rintro rfl; cases h'
    rw [joinN_cons2 sep c ne, joinN_at sep cs j h']
    unfold preN
    rw [List.take_succ_cons, List.map_cons, List.flatten_cons, List.drop_succ_cons, List.append_assoc, List.append_assoc, List.append_assoc]
theorem preN_succ (sep : List Nat) (cs : List (List Nat)) {j : Nat} (h : j < cs.length) : preN sep cs (j + 1) = preN sep cs j ++ (cs[j] ++ sep) := by
  unfold preN
  rw [List.take_succ_eq_append_getElem h, List.map_append, List.flatten_append]
  simp
theorem joinN_drop (sep : List Nat) (cs : List (List Nat)) {j : Nat} (h : j < cs.length) : joinN sep (cs.drop j) = cs[j] ++ (if j + 1 < cs.length then sep ++ joinN sep (cs.drop (j + 1)) else []) := by
  rw [List.drop_eq_getElem_cons h]
  by_cases h2 : j + 1 < cs.length
  · rw [if_pos h2, joinN_cons2, List.append_assoc]
    intro z
    have := congrArg List.length z
    rw [List.length_drop] at this
    simp at this
    omega
  · rw [if_neg h2, List.drop_eq_nil_of_le (by omega), List.append_nil]
    rfl
theorem joinN_len (sep : List Nat) : ∀ cs : List (List Nat), cs ≠ [] → (joinN sep cs).length + sep.length = (preN sep cs cs.length).length
  | [], h => absurd rfl h
  | [c], _ => by simp [joinN, preN]
  | c :: d :: r, _ => by
    have ih := joinN_len sep (d :: r) (by simp)
    rw [joinN_cons2 sep c (by simp), List.length_append, List.length_append]
    have e : preN sep (c :: d :: r) (c :: d :: r).length = (c ++ sep) ++ preN sep (d :: r) (d :: r).length := by
      unfold preN
      rw [List.take_length, List.take_length, List.map_cons, List.flatten_cons]
    rw [e, List.length_append, List.length_append]
    omega
/-! ### split -/
def splitN (c : Nat) : List Nat → List (List Nat)
  | [] => [[]]
  | x :: r => if x = c then [] :: splitN c r else match splitN c r with
    | h :: t => (x :: h) :: t
    | [] => [[x]]
theorem splitN_ne (c : Nat) : ∀ l : List Nat, splitN c l ≠ []
  | [] => by simp [splitN]
  | x :: r => by
    unfold splitN
    split
    · simp
    · split <;> simp
theorem splitN_free (c : Nat) : ∀ q : List Nat, c ∉ q → splitN c q = [q]
  | [], _ => rfl
  | x :: r, h => by
    have h1 : ¬ x = c := fun z => h (z ▸ List.mem_cons_self)
    have ih := splitN_free c r fun z => h (List.mem_cons_of_mem _ z)
    unfold splitN
    rw [if_neg h1, ih]
theorem splitN_cons (c : Nat) (rest : List Nat) : ∀ q : List Nat, c ∉ q → splitN c (q ++ c :: rest) = q :: splitN c rest
  | [], _ => by
    show splitN c (c :: rest) = _
    rw [splitN, if_pos rfl]
  | x :: r, h => by
    have h1 : ¬ x = c := fun z => h (z ▸ List.mem_cons_self)
    have ih := splitN_cons c rest r fun z => h (List.mem_cons_of_mem _ z)
    show splitN c (x :: (r ++ c :: rest)) = _
    rw [splitN, if_neg h1, ih]
theorem splitN_join (c : Nat) : ∀ qs : List (List Nat), qs ≠ [] → (∀ q ∈ qs, c ∉ q) → splitN c (joinN [c] qs) = qs
  | [], h, _ => absurd rfl h
  | [q], _, hf => splitN_free c q (hf q List.mem_cons_self)
  | q :: p :: r, _, hf => by
    have ih := splitN_join c (p :: r) (by simp) fun x hx => hf x (List.mem_cons_of_mem _ hx)
    rw [joinN_cons2 [c] q (by simp), List.append_assoc]
    show splitN c (q ++ c :: joinN [c] (p :: r)) = _
    rw [splitN_cons c _ q (hf q List.mem_cons_self), ih]
theorem split_tx (l : List Nat) (c : Nat) : Txt.split (tx l) (tx [c]) = (splitN c l).map tx := by
  have h1 : Str.join (tx [c]) (Txt.split (tx l) (tx [c])) = tx l := StrLaws.join_split (tx l) (tx [c])
  have h2 : ∀ p ∈ Txt.split (tx l) (tx [c]), c ∉ p.cps.toList := StrLaws.split_free (tx l) c
  have h3 : 1 ≤ (Txt.split (tx l) (tx [c])).length := split_pos _ _
  generalize Txt.split (tx l) (tx [c]) = ps at h1 h2 h3
  have e : ps = (ps.map fun p => p.cps.toList).map tx := by
    rw [List.map_map]
    refine (List.map_id _).symm.trans (List.map_congr_left fun p _ => (tx_of p).symm)
  rw [e, join_tx] at h1
  have h4 := tx_inj.mp h1
  rw [← h4, splitN_join c _ (fun z => by rw [List.map_eq_nil_iff] at z; subst z; exact absurd h3 (by decide)) fun q hq => by
    obtain ⟨p, hp, rfl⟩ := List.mem_map.mp hq
    exact h2 p hp]
  exact e
end L2
namespace L2
open PySem PySem.Spec PyProof.Rows
theorem cut_range (l : List Nat) (a b : Nat) : cutN l (some (a : Int)) (some (b : Int)) = (l.drop a).take (b - a) := by
  unfold cutN
  rw [HT.sIx_nat, HT.sIx_nat]
  by_cases h : a ≤ l.length
  · rw [Nat.min_eq_left h]
    by_cases h2 : b ≤ l.length
    · rw [Nat.min_eq_left h2]
    · rw [Nat.min_eq_right (by omega), List.take_of_length_le (by rw [List.length_drop]; exact Nat.le_refl _), List.take_of_length_le (by rw [List.length_drop]; omega)]
  · have e : min a l.length = l.length := by omega
    have e2 : l.drop a = [] := List.drop_eq_nil_of_le (by omega)
    rw [e, List.drop_length, e2, List.take_nil, List.take_nil]
theorem cut_mid (A B C : List Nat) : cutN (A ++ (B ++ C)) (some ((A.length : Nat) : Int)) (some (((A.length : Nat) : Int) + ((B.length : Nat) : Int))) = B := by
  have e : ((A.length : Nat) : Int) + ((B.length : Nat) : Int) = ((A.length + B.length : Nat) : Int) := by omega
  rw [e, cut_range, List.drop_left, Nat.add_sub_cancel_left, List.take_left]
end L2
namespace Cb
def cellsOf (t : List (List (List Nat))) (cap : Nat) (r : List (List Nat)) : List (List Nat) := (List.range r.length).map fun k => cellOf (r.getD k []) (colWidth t cap k)
def lineOf (t : List (List (List Nat))) (cap : Nat) (r : List (List Nat)) : List Nat := L2.joinN [124] (cellsOf t cap r)
def shownOf (t : List (List (List Nat))) (cap : Nat) : List (List Nat) := t.map (lineOf t cap)
theorem cellsOf_len (t : List (List (List Nat))) (cap : Nat) (r : List (List Nat)) : (cellsOf t cap r).length = r.length := by
  unfold cellsOf
  rw [List.length_map, List.length_range]
theorem cellsOf_get (t : List (List (List Nat))) (cap : Nat) (r : List (List Nat)) {j : Nat} (h : j < (cellsOf t cap r).length) : (cellsOf t cap r)[j] = cellOf (r.getD j []) (colWidth t cap j) := by
  simp [cellsOf]
theorem longest_le {t : List (List (List Nat))} {k b : Nat} (hb : 1 ≤ b) (h : ∀ r ∈ t, (r.getD k []).length ≤ b) : longest t k ≤ b := by
  rcases longest_is t k with e | ⟨r, hr, e⟩
  · omega
  · rw [e]
    exact h r hr
theorem colWidth_pos (t : List (List (List Nat))) {cap : Nat} (h : 2 ≤ cap) (k : Nat) : 1 ≤ colWidth t cap k := by
  have := longest_ge t k
  unfold colWidth
  omega
theorem colWidth_le {t : List (List (List Nat))} {cap k b : Nat} (hb : 1 ≤ b) (h : ∀ r ∈ t, (r.getD k []).length ≤ b) : colWidth t cap k ≤ b := by
  have := longest_le hb h
  unfold colWidth
  omega
theorem getD_le {r : List (List Nat)} {b : Nat} (h : ∀ f ∈ r, f.length ≤ b) (k : Nat) : (r.getD k []).length ≤ b := by
  rw [List.getD_eq_getElem?_getD]
  cases q : r[k]? with
  | none => exact Nat.zero_le _
  | some f => exact h f (List.mem_of_getElem? q)
theorem preN_le (b : Nat) : ∀ (cs : List (List Nat)) (j : Nat), (∀ c ∈ cs, c.length ≤ b) → (L2.preN [124] cs j).length ≤ j * (b + 1)
  | [], j, _ => by
    unfold L2.preN
    simp
  | c :: cs, 0, _ => Nat.zero_le _
  | c :: cs, j + 1, h => by
    have ih := preN_le b cs j fun x hx => h x (List.mem_cons_of_mem _ hx)
    have h1 := h c List.mem_cons_self
    have e : L2.preN [124] (c :: cs) (j + 1) = (c ++ [124]) ++ L2.preN [124] cs j := by
      unfold L2.preN
      rw [List.take_succ_cons, List.map_cons, List.flatten_cons]
    rw [e, List.length_append, List.length_append, Nat.succ_mul]
    show c.length + 1 + _ ≤ _
    omega
end Cb
/-! ### enumerate, zip, min, all, any, comprehensions over pairs -/
namespace L2
open PySem PySem.Spec PyProof.Rows PySem.Builtin PySem.Builtin.Str
set_option linter.all false
section
variable {X : Cx} {pins : List (Addr × Obj)} {σ : St} {H : Hp} {s : Shared}
theorem bls_of : ∀ {bs : List Bool} {us : List Value}, Vals (bs.map V.bl) us → us = bs.map Value.bool
  | [], _, r => by cases r; rfl
  | b :: bs, _, r => by
    cases r with
    | cons r1 r2 =>
      cases (show _ = Value.bool b from r1)
      rw [bls_of r2]
      rfl
theorem rng_all (bs : List Bool) : ((List.range bs.length).all fun i => (bs[i]?).getD true) = bs.all id := by
  rw [Bool.eq_iff_iff, List.all_eq_true, List.all_eq_true]
  constructor
  · intro h b hb
    obtain ⟨i, hi, e⟩ := List.getElem_of_mem hb
    have := h i (List.mem_range.mpr hi)
    simp only [List.getElem?_eq_getElem hi, Option.getD_some, e] at this
    exact this
  · intro h i hi
    have hi' := List.mem_range.mp hi
    simp only [List.getElem?_eq_getElem hi', Option.getD_some]
    exact h _ (List.getElem_mem hi')
theorem rng_any (bs : List Bool) : ((List.range bs.length).any fun i => (bs[i]?).getD false) = bs.any id := by
  rw [Bool.eq_iff_iff, List.any_eq_true, List.any_eq_true]
  constructor
  · rintro ⟨i, hi, e⟩
    have hi' := List.mem_range.mp hi
    simp only [List.getElem?_eq_getElem hi', Option.getD_some] at e
    exact ⟨_, List.getElem_mem hi', e⟩
  · rintro ⟨b, hb, e⟩
    obtain ⟨i, hi, rfl⟩ := List.getElem_of_mem hb
    exact ⟨i, List.mem_range.mpr hi, by simp only [List.getElem?_eq_getElem hi, Option.getD_some]; exact e⟩
theorem kept_it {h h' : Heap} {o : Obj} (hk : ∀ b x, b ∉ [h.objs.size] → (h.push o).get? b = some x → h'.get? b = some x) : ∀ b x, h.get? b = some x → h'.get? b = some x :=
  fun b x e => hk b x (fun hm => by rw [List.mem_singleton.mp hm] at e; exact Nat.lt_irrefl _ (Heap.lt_size e)) (Heap.get?_push_of_some _ e)
theorem bl_at {bs : List Bool} {i : Nat} {v : Value} (h : (bs.map Value.bool)[i]? = some v) : ∃ b, bs[i]? = some b ∧ v = .bool b := by
  rw [List.getElem?_map] at h
  cases e : bs[i]? with
  | none => rw [e] at h; cases h
  | some b => rw [e] at h; cases h; exact ⟨b, rfl, rfl⟩
theorem call_allL (hc : X.calm = true) : CallR X (.builtin "all") (fun xs H Q => ∃ (p : Addr) (bs : List Bool), xs = [.ref p] ∧ SqL X.K H p (bs.map V.bl) ∧ Q (.bl (bs.all id)) H) := by
  intro pins s σ H xs us Q I r h
  obtain ⟨p, bs, rfl, hp, q⟩ := h
  obtain ⟨u, rfl, ru⟩ := vals1 r
  cases ru
  obtain ⟨its, r1, p1, _⟩ := I.list hp
  have e := bls_of r1
  subst e
  have hl := p1.isList
  have hlt : p < s.heap.objs.size := by obtain ⟨_, e, _⟩ := hl; exact Heap.lt_size e
  refine call_all_walk (wpAny_pyIter_list hl ?_)
  refine ⟨s.heap.objs.size, [s.heap.objs.size, p], [s.heap.objs.size], (bs.map Value.bool).toArray.size, _, _, fun i => (bs[i]?).getD true, rfl, Walks.list (A := X.A.in1) (I.ok.hd hc) _ p (Nat.ne_of_lt hlt) _,
    ⟨⟨_, Heap.get?_push_size _ rfl, rfl, rfl⟩, hl.push _⟩, fun i v s' Q' E' hP hQ => ?_, fun h' tk hk => ?_⟩
  · obtain ⟨b, e, rfl⟩ := bl_at (by simpa using hP)
    simp only [e, Option.getD_some] at hQ
    exact wpAny_truthy_bool hQ
  · have e : ((List.range (bs.map Value.bool).toArray.size).all fun i => (bs[i]?).getD true) = bs.all id := by
      rw [List.size_toArray, List.length_map]
      exact rng_all bs
    rw [e]
    exact ⟨.bl _, H, I.kept (t' := tk) (kept_it hk), rfl, q⟩
theorem call_anyL (hc : X.calm = true) : CallR X (.builtin "any") (fun xs H Q => ∃ (p : Addr) (bs : List Bool), xs = [.ref p] ∧ SqL X.K H p (bs.map V.bl) ∧ Q (.bl (bs.any id)) H) := by
  intro pins s σ H xs us Q I r h
  obtain ⟨p, bs, rfl, hp, q⟩ := h
  obtain ⟨u, rfl, ru⟩ := vals1 r
  cases ru
  obtain ⟨its, r1, p1, _⟩ := I.list hp
  have e := bls_of r1
  subst e
  have hl := p1.isList
  have hlt : p < s.heap.objs.size := by obtain ⟨_, e, _⟩ := hl; exact Heap.lt_size e
  refine call_any_walk (wpAny_pyIter_list hl ?_)
  refine ⟨s.heap.objs.size, [s.heap.objs.size, p], [s.heap.objs.size], (bs.map Value.bool).toArray.size, _, _, fun i => (bs[i]?).getD false, rfl, Walks.list (A := X.A.in1) (I.ok.hd hc) _ p (Nat.ne_of_lt hlt) _,
    ⟨⟨_, Heap.get?_push_size _ rfl, rfl, rfl⟩, hl.push _⟩, fun i v s' Q' E' hP hQ => ?_, fun h' tk hk => ?_⟩
  · obtain ⟨b, e, rfl⟩ := bl_at (by simpa using hP)
    simp only [e, Option.getD_some] at hQ
    exact wpAny_truthy_bool hQ
  · have e : ((List.range (bs.map Value.bool).toArray.size).any fun i => (bs[i]?).getD false) = bs.any id := by
      rw [List.size_toArray, List.length_map]
      exact rng_any bs
    rw [e]
    exact ⟨.bl _, H, I.kept (t' := tk) (kept_it hk), rfl, q⟩
theorem call_minL (hc : X.calm = true) : CallR X (.builtin "min") (fun xs H Q => ∃ (p : Addr) (ns : List Int), xs = [.ref p] ∧ SqL X.K H p (ns.map V.int) ∧ 0 < ns.length ∧ ∀ M, M ∈ ns → (∀ a, a ∈ ns → M ≤ a) → Q (.int M) H) := by
  intro pins s σ H xs us Q I r h
  obtain ⟨p, ns, rfl, hp, hne, q⟩ := h
  obtain ⟨u, rfl, ru⟩ := vals1 r
  cases ru
  obtain ⟨its, r1, p1, _⟩ := I.list hp
  obtain ⟨m, hn, F0, N0⟩ := I.ledger
  exact min_list_N (I.ok.hd hc) F0 N0 p1.isList (intsAre_of r1) hne fun h' M t tk F' N' hM hle => ⟨.int M, H, I.newsKept hn F' N', ⟨t, rfl⟩, q M hM hle⟩
/-- the records at ch have turned, one new object is laid and tracked -/
theorem Inv.turnedNew {h' : Heap} {t' : Nat} {ch : List Addr} {o : HO} (I : Inv X pins σ H s) (hch : ∀ b ∈ ch, FpOk X pins H b)
    (k : ∀ b u, b ∉ ch → s.heap.get? b = some u → h'.get? b = some u) (new : ObjOk X.prog X.w (upd H s.heap.objs.size o) h' s.heap.objs.size o) :
    Inv X pins σ (upd H s.heap.objs.size o) { s with heap := h', toks := t' } := by
  have nsz : ∀ b u, s.heap.get? b = some u → b ≠ s.heap.objs.size := fun b u e => Nat.ne_of_lt (Heap.lt_size e)
  have nH : ∀ b u, H b = some u → b ≠ s.heap.objs.size := fun b u e => Nat.ne_of_lt (I.hok.lt e)
  have nch : ∀ b u, H b = some u → b ∉ ch := fun b u e z => by rw [(hch b z).1] at e; cases e
  refine I.step (g' := s.gens) (d' := s.drawn) (ch := ch) (fun b hb => ⟨(hch b hb).2.2.2.1, (hch b hb).2.1, (hch b hb).2.2.2.2.1, (hch b hb).2.2.2.2.2⟩) (fun b u _ _ hc e _ => k b u hc e) (fun b u _ _ hc e _ => ⟨u.slots, k b u hc e⟩)
    (fun b u _ e n => by rw [upd_ne (nsz b u e)]; exact n) (fun b u hc e => ⟨u, k b u hc e⟩) (fun b xs e => by rw [upd_ne (nH b _ e)]; exact e) (fun b u xs e => by rw [upd_ne (nH b _ e)]; exact e) (fun b ps e => ⟨#[], by rw [upd_ne (nH b _ e), e]; simp⟩) (fun m hm => ?_) (fun b u e => ?_) I.bare
  · obtain ⟨o, es, ep, ho, r⟩ := hm
    exact ⟨o, es, ep, k _ o (fun z => (hch _ z).2.1 rfl) ho, r⟩
  · by_cases hb : b = s.heap.objs.size
    · subst hb
      rw [upd_same] at e
      cases e
      exact new
    · rw [upd_ne hb] at e
      refine (I.hok b u e).stay (fun c v hc q => k c v ?_ q) (fun c q => by rw [upd_ne (nH c _ q)]; exact q) fun c xs q => by rw [upd_ne (nH c _ q)]; exact q
      rcases hc with z | z
      · rw [z]; exact nch b u e
      · exact nch c _ z
/-- the records at ch have turned -/
theorem Inv.turnedAll {h' : Heap} {t' : Nat} {ch : List Addr} (I : Inv X pins σ H s) (hch : ∀ b ∈ ch, FpOk X pins H b)
    (k : ∀ b u, b ∉ ch → s.heap.get? b = some u → h'.get? b = some u) : Inv X pins σ H { s with heap := h', toks := t' } := by
  have nch : ∀ b u, H b = some u → b ∉ ch := fun b u e z => by rw [(hch b z).1] at e; cases e
  refine I.step (g' := s.gens) (d' := s.drawn) (ch := ch) (fun b hb => ⟨(hch b hb).2.2.2.1, (hch b hb).2.1, (hch b hb).2.2.2.2.1, (hch b hb).2.2.2.2.2⟩) (fun b u _ _ hc e _ => k b u hc e) (fun b u _ _ hc e _ => ⟨u.slots, k b u hc e⟩)
    (fun b u _ e n => n) (fun b u hc e => ⟨u, k b u hc e⟩) (fun b xs e => e) (fun b u xs e => e) (fun b ps e => ⟨#[], by rw [e]; simp⟩) (fun m hm => ?_) (fun b u e => ?_) I.bare
  · obtain ⟨o, es, ep, ho, r⟩ := hm
    exact ⟨o, es, ep, k _ o (fun z => (hch _ z).2.1 rfl) ho, r⟩
  · refine (I.hok b u e).stay (fun c v hc q => k c v ?_ q) (fun c q => q) fun c xs q => q
    rcases hc with z | z
    · rw [z]; exact nch b u e
    · exact nch c _ z
end
/-! ### enumerate -/
def Ite (K : PySem.W.Frag) (a : Addr) : It :=
  ⟨fun i H => ∃ xs x, SqL K H a xs ∧ xs[i]? = some x, fun i H y H' => ∃ T x, H T = none ∧ y = .ref T ∧ H' = upd H T (.tup [.int i, x]) ∧ ∀ xs, SqL K H a xs → xs[i]? = some x, fun i H => ∃ xs, SqL K H a xs ∧ xs.length ≤ i⟩
theorem two_small : 2 ≤ sizeLine := by rw [sizeLine_eq]; decide
theorem turn_enum {P : Program} {w : World} {K : PySem.W.Frag} {elts : List Expr} {x1} {pos : Pos} (a e it : Addr) :
    Turn P w K (.Tuple elts x1 pos) (Ite K a) [e, it] e (fun i h => e ≠ it ∧ h.IsListIter it a i ∧ ∃ old, IsEnum h e it ((i : Nat) : Int) old) where
  mem := by simp
  obj := fun i h st b hb => by
    obtain ⟨_, st, old, en⟩ := st
    have hb' : b = e ∨ b = it := by simpa using hb
    rcases hb' with rfl | rfl
    · exact ⟨_, en, fun v z => by
        have z' : Data.fields _ = Data.cell v := z
        cases z'⟩
    · obtain ⟨o, e, c, d⟩ := st
      exact ⟨o, e, fun v z => by rw [d] at z; cases z⟩
  keep := fun i h h' st k => by
    obtain ⟨ne, st, old, en⟩ := st
    exact ⟨ne, st.at fun o e => k it (by simp) o e, old, k e (by simp) _ en⟩
  item := by
    intro X hP hw hK hc i pins s σ H E I hf st hg
    subst hP hw hK
    obtain ⟨ne, st, old, en⟩ := st
    obtain ⟨xs, x, hq, hx⟩ := hg
    obtain ⟨its, rv, p, hz⟩ := I.list hq
    obtain ⟨u, hu, ru⟩ := rv.get hx
    refine wpAny_pyNext_enum_item en st p.isList (x := u) (by simpa using hu) ne fun h' out st' tup sz kk => ⟨_, rfl, ?_⟩
    refine wpAny_letOwnedTupleGo_enum (s := { s with heap := h', toks := s.toks + 1 }) out fun h'' en' sb => ?_
    have hlt : e < s.heap.objs.size := Heap.lt_size en
    have I1 : Inv X pins σ (upd H s.heap.objs.size (.tup [.int i, x])) { s with heap := h'', toks := s.toks + 1 } := I.turnedNew (ch := [e, it]) hf (fun b u hb q => by
        have h1 : b ≠ e := fun z => hb (by simp [z])
        have h2 : b ≠ it := fun z => hb (by simp [z])
        exact (sb.2 b h1).trans (kk b u h1 h2 q))
      ⟨two_small, [.int i s.toks, u], .cons ⟨_, rfl⟩ (.cons ru .nil), _, (sb.2 _ (Nat.ne_of_gt hlt)).trans tup, rfl, _, rfl⟩
    have e1 : ((i + 1 : Nat) : Int) = (i : Int) + 1 := by omega
    refine ⟨.ref s.heap.objs.size, _, I1, rfl, ⟨_, x, I.fresh, rfl, rfl, fun ys hy => by rw [I.list_inj hy hq]; exact hx⟩, ⟨ne, st'.at fun o q => (sb.2 it (Ne.symm ne)).trans q, u, by rw [e1]; exact en'⟩, fun b hb => ?_⟩
    have hb2 : b < s.heap.objs.size := by
      have hb' : b = e ∨ b = it := by simpa using hb
      rcases hb' with rfl | rfl
      · exact hlt
      · obtain ⟨o, ho, _⟩ := st; exact Heap.lt_size ho
    rw [upd_ne (Nat.ne_of_lt hb2)]
    exact (hf b hb).1
  done := by
    intro X hP hw hK hc i pins s σ H E I hf st hg
    subst hP hw hK
    obtain ⟨ne, st, old, en⟩ := st
    obtain ⟨xs, hq, hx⟩ := hg
    obtain ⟨its, rv, p, hz⟩ := I.list hq
    obtain ⟨f0, f1, f2, f3, f4, f5⟩ := hf it (by simp)
    have hl := rv.length
    exact wpAny_pyNext_enum_end (I.ok.hd hc) en st p.isList (by simp; omega) fun h' eb => ⟨rfl, I.turned (t' := s.toks) (fun b o hb e => eb b o hb e) f0 f1 f3 f4 f5⟩
  self := fun _ _ _ _ _ st h => by
    obtain ⟨ne, st, old, en⟩ := st
    exact wpAny_pyIter_enum en h
def iEnum (K : PySem.W.Frag) (ta : TA) : TI := fun σ H R => ta σ H fun vs H1 => ∃ a, vs = [.ref a] ∧ (∃ xs, SqL K H1 a xs) ∧ R (Ite K a) H1
section
variable {X : Cx} {elts : List Expr} {x1 : Nat} {tpos : Pos}
theorem pi_enum {a : Expr} {ta : TA} {p pos : Pos} {k1} (hg : Gl X "enumerate") (hm : X.mg "enumerate" = none) (ha : PA X [a] ta) (hs : starEach [a] X.env = [(false, eval a X.env)] := by rfl) :
    PI X (.Tuple elts k1 tpos) (.Call (.Name "enumerate" p) [a] [] pos) (iEnum X.K ta) := by
  intro pins s σ H R I h
  refine Call_ (ld_blt I hg hm bt_enumerate (PyProof.Rows.callWith_type1 (thn (ha pos pins s σ H _ I h) fun us s1 ⟨vs, H1, I1, r1, q1⟩ => ?_) hs rfl))
  obtain ⟨l, e, ⟨xs, hq⟩, q⟩ := q1
  subst e
  obtain ⟨u, rfl, ru⟩ := vals1 r1
  cases ru
  obtain ⟨its, rv, pl, hz⟩ := I1.list hq
  refine call_enumerate_list pl.isList fun h' en st sz kk => wpAny_pyIter_enum en ?_
  refine ⟨s1.heap.objs.size + 1, [s1.heap.objs.size + 1, s1.heap.objs.size], _, _, H1, rfl, I1.kept (t' := s1.toks) kk, turn_enum l _ _, ⟨Nat.succ_ne_self _, st, _, en⟩, fun b hb => ?_, q⟩
  have hb' : b = s1.heap.objs.size + 1 ∨ b = s1.heap.objs.size := by simpa using hb
  have hb2 : s1.heap.objs.size ≤ b := by
    rcases hb' with rfl | rfl
    · exact Nat.le_add_right _ _
    · exact Nat.le_refl _
  exact I1.fpOk hb2 (I1.hok.fresh hb2)
/-- over enumerate(xs), xs as it is through the loop -/
theorem for_enum {K : PySem.W.Frag} {a : Addr} {xs : List V} {t : TGs} {tb : TS} {D : Ends} {σ : St} {H : Hp} (Pv : Nat → St → Hp → Prop) (h0 : Pv 0 σ H) (hl : ∀ i σ H, i ≤ xs.length → Pv i σ H → SqL K H a xs)
    (hs : ∀ i x T σ H, xs[i]? = some x → Pv i σ H → H T = none → t [.int i, x] σ (upd H T (.tup [.int i, x])) fun σ2 H2 => tb { D with nx := Pv (i + 1), ct := Pv (i + 1), bk := D.nx } σ2 H2) (hd : ∀ σ H, Pv xs.length σ H → D.nx σ H) :
    ∃ W : Nat → Nat → St → Hp → Prop, (∃ m, W 0 m σ H) ∧ ∀ i m σ H, W i m σ H →
      ((Ite K a).stop i H ∧ D.nx σ H) ∨ ((Ite K a).go i H ∧ ∃ N : St → Hp → Prop, (∀ σ' H', N σ' H' → ∃ m', m' < m ∧ W (i + 1) m' σ' H') ∧ ∀ x H', (Ite K a).yld i H x H' → gTup K 2 t x σ H' fun σ2 H2 => tb { D with nx := N, ct := N, bk := D.nx } σ2 H2) := by
  refine ⟨fun i m σ H => m = xs.length - i ∧ i ≤ xs.length ∧ Pv i σ H, ⟨xs.length, by simp, Nat.zero_le _, h0⟩, ?_⟩
  rintro i m σ H ⟨rfl, hi, p⟩
  have q := hl i σ H hi p
  by_cases hlt : i < xs.length
  · refine .inr ⟨⟨xs, xs[i], q, by simp [hlt]⟩, Pv (i + 1), fun σ' H' p' => ⟨xs.length - (i + 1), by omega, rfl, hlt, p'⟩, fun x H' y => ?_⟩
    obtain ⟨T, v, hT, rfl, rfl, y⟩ := y
    exact ⟨T, _, rfl, SqT.of upd_same, rfl, hs i v T σ H (y xs q) p hT⟩
  · have e : i = xs.length := by omega
    subst e
    exact .inl ⟨⟨xs, q, Nat.le_refl _⟩, hd σ H p⟩
end
/-! ### zip -/
theorem ne_add {n i j : Nat} (h : i ≠ j) : n + i ≠ n + j := by omega
theorem ne_add0 {n j : Nat} (h : 0 ≠ j) : n ≠ n + j := by omega
def Itz (K : PySem.W.Frag) (a b : Addr) : It :=
  ⟨fun i H => ∃ xs ys x y, SqL K H a xs ∧ SqL K H b ys ∧ xs[i]? = some x ∧ ys[i]? = some y,
    fun i H v H' => ∃ T x y, H T = none ∧ v = .ref T ∧ H' = upd H T (.tup [x, y]) ∧ (∀ xs, SqL K H a xs → xs[i]? = some x) ∧ ∀ ys, SqL K H b ys → ys[i]? = some y,
    fun i H => ∃ xs ys, SqL K H a xs ∧ SqL K H b ys ∧ (xs.length ≤ i ∨ ys.length ≤ i)⟩
structure ZipAt (h : Heap) (z TI TO i1 i2 a b : Addr) (i : Nat) : Prop where
  TIz : TI ≠ z
  TOz : TO ≠ z
  i1z : i1 ≠ z
  i2z : i2 ≠ z
  TITO : TI ≠ TO
  TIi1 : TI ≠ i1
  TIi2 : TI ≠ i2
  TOi1 : TO ≠ i1
  TOi2 : TO ≠ i2
  i12 : i1 ≠ i2
  hz : IsZip h z TI TO .none
  hTI : IsPair h TI (.ref i1) (.ref i2)
  hTO : ∃ u v, IsPair h TO u v
  h1 : h.IsListIter i1 a i
  h2 : h.IsListIter i2 b i
theorem cls_ne {h : Heap} {l z : Addr} {vs : Array Value} {o : Obj} (hl : h.IsList l vs) (hz : h.get? z = some o) (hc : o.cls ≠ .type "list") : l ≠ z := by
  rintro rfl
  obtain ⟨o', ho, hcl, _⟩ := hl
  rw [ho] at hz
  cases hz
  exact hc hcl
theorem ZipAt.apart {h : Heap} {z TI TO i1 i2 a b : Addr} {i : Nat} (Z : ZipAt h z TI TO i1 i2 a b i) {xs ys : Array Value} (ha : h.IsList a xs) (hb : h.IsList b ys) : ZipApart z TI TO i1 i2 a b := by
  obtain ⟨u, v, hTO⟩ := Z.hTO
  obtain ⟨o1, e1, c1, _⟩ := Z.h1
  obtain ⟨o2, e2, c2, _⟩ := Z.h2
  have n1 : o1.cls ≠ .type "list" := by rw [c1]; decide
  have n2 : o2.cls ≠ .type "list" := by rw [c2]; decide
  exact ⟨Z.TIz, Z.TOz, Z.i1z, Z.i2z, Z.TITO, Z.TIi1, Z.TIi2, Z.TOi1, Z.TOi2, Z.i12, cls_ne ha Z.hz (by show Value.type "zip" ≠ _; decide), cls_ne ha hTO (by show Value.type "tuple" ≠ _; decide), cls_ne ha e1 n1, cls_ne ha e2 n2,
    cls_ne hb Z.hz (by show Value.type "zip" ≠ _; decide), cls_ne hb hTO (by show Value.type "tuple" ≠ _; decide), cls_ne hb e1 n1, cls_ne hb e2 n2⟩
theorem turn_zip {P : Program} {w : World} {K : PySem.W.Frag} {elts : List Expr} {x1} {pos : Pos} (z TI TO i1 i2 a b : Addr) :
    Turn P w K (.Tuple elts x1 pos) (Itz K a b) [z, TI, TO, i1, i2] z (fun i h => ZipAt h z TI TO i1 i2 a b i) where
  mem := by simp
  obj := fun i h st c hb => by
    have hb' : c = z ∨ c = TI ∨ c = TO ∨ c = i1 ∨ c = i2 := by simpa using hb
    obtain ⟨u, v, hTO⟩ := st.hTO
    rcases hb' with rfl | rfl | rfl | rfl | rfl
    · exact ⟨_, st.hz, fun v z => by
        have z' : Data.fields _ = Data.cell v := z
        cases z'⟩
    · exact ⟨_, st.hTI, fun v z => by
        have z' : Data.seq _ _ = Data.cell v := z
        cases z'⟩
    · exact ⟨_, hTO, fun v z => by
        have z' : Data.seq _ _ = Data.cell v := z
        cases z'⟩
    · obtain ⟨o, e, c, d⟩ := st.h1
      exact ⟨o, e, fun v z => by rw [d] at z; cases z⟩
    · obtain ⟨o, e, c, d⟩ := st.h2
      exact ⟨o, e, fun v z => by rw [d] at z; cases z⟩
  keep := fun i h h' st k => by
    obtain ⟨u, v, hTO⟩ := st.hTO
    exact ⟨st.TIz, st.TOz, st.i1z, st.i2z, st.TITO, st.TIi1, st.TIi2, st.TOi1, st.TOi2, st.i12, k z (by simp) _ st.hz, k TI (by simp) _ st.hTI, ⟨u, v, k TO (by simp) _ hTO⟩, st.h1.at fun o e => k i1 (by simp) o e, st.h2.at fun o e => k i2 (by simp) o e⟩
  item := by
    intro X hP hw hK hc i pins s σ H E I hf st hg
    subst hP hw hK
    obtain ⟨xs, ys, x, y, hqa, hqb, hx, hy⟩ := hg
    obtain ⟨ia, ra, pa, za⟩ := I.list hqa
    obtain ⟨ib, rb, pb, zb⟩ := I.list hqb
    obtain ⟨u, hu, ru⟩ := ra.get hx
    obtain ⟨v, hv, rv⟩ := rb.get hy
    obtain ⟨o1, o2, hTO⟩ := st.hTO
    have D := st.apart pa.isList pb.isList
    refine wpAny_pyNext_zip_item D st.hz st.hTI hTO st.h1 st.h2 pa.isList pb.isList (x := u) (y := v) (by simpa using hu) (by simpa using hv) fun h' z' t' j1 j2 tup sz kk => ⟨_, rfl, ?_⟩
    refine wpAny_letOwnedTupleGo_zip (s := { s with heap := h' }) z' fun h'' z2 sb => ?_
    have hlt : z < s.heap.objs.size := Heap.lt_size st.hz
    have hall : ∀ c ∈ [z, TI, TO, i1, i2], c < s.heap.objs.size := fun c hb => by
      have hb' : c = z ∨ c = TI ∨ c = TO ∨ c = i1 ∨ c = i2 := by simpa using hb
      rcases hb' with rfl | rfl | rfl | rfl | rfl
      · exact hlt
      · exact Heap.lt_size st.hTI
      · exact Heap.lt_size hTO
      · obtain ⟨o, e, _⟩ := st.h1; exact Heap.lt_size e
      · obtain ⟨o, e, _⟩ := st.h2; exact Heap.lt_size e
    have I1 : Inv X pins σ (upd H s.heap.objs.size (.tup [x, y])) { s with heap := h'', toks := s.toks } := I.turnedNew (ch := [z, TI, TO, i1, i2]) hf (fun c u hb q => by
        have n1 : c ≠ z := fun e => hb (by simp [e])
        have n2 : c ≠ TO := fun e => hb (by simp [e])
        have n3 : c ≠ i1 := fun e => hb (by simp [e])
        have n4 : c ≠ i2 := fun e => hb (by simp [e])
        exact (sb.2 c n1).trans (kk c u n1 n2 n3 n4 q))
      ⟨two_small, [u, v], .cons ru (.cons rv .nil), _, (sb.2 _ (Nat.ne_of_gt hlt)).trans tup, rfl, _, rfl⟩
    refine ⟨.ref s.heap.objs.size, _, I1, rfl, ⟨_, x, y, I.fresh, rfl, rfl, fun l hl => by rw [I.list_inj hl hqa]; exact hx, fun l hl => by rw [I.list_inj hl hqb]; exact hy⟩, ?_, fun c hb => ?_⟩
    · exact ⟨st.TIz, st.TOz, st.i1z, st.i2z, st.TITO, st.TIi1, st.TIi2, st.TOi1, st.TOi2, st.i12, z2, (sb.2 TI st.TIz).trans (kk TI _ st.TIz st.TITO st.TIi1 st.TIi2 st.hTI), ⟨u, v, (sb.2 TO st.TOz).trans t'⟩,
        j1.at fun o q => (sb.2 i1 st.i1z).trans q, j2.at fun o q => (sb.2 i2 st.i2z).trans q⟩
    · rw [upd_ne (Nat.ne_of_lt (hall c hb))]
      exact (hf c hb).1
  done := by
    intro X hP hw hK hc i pins s σ H E I hf st hg
    subst hP hw hK
    obtain ⟨xs, ys, hqa, hqb, hend⟩ := hg
    obtain ⟨ia, ra, pa, za⟩ := I.list hqa
    obtain ⟨ib, rb, pb, zb⟩ := I.list hqb
    obtain ⟨o1, o2, hTO⟩ := st.hTO
    have la := ra.length
    have lb := rb.length
    have D := st.apart pa.isList pb.isList
    refine wpAny_pyNext_zip_end (I.ok.hd hc) D st.hz st.hTI hTO st.h1 st.h2 pa.isList pb.isList (by
      rcases hend with h | h
      · exact .inl (by simp; omega)
      · exact .inr (by simp; omega)) fun h' kk => ⟨rfl, I.turnedAll (t' := s.toks) (ch := [z, TI, TO, i1, i2]) hf fun c u hb q => ?_⟩
    have n1 : c ≠ z := fun e => hb (by simp [e])
    have n2 : c ≠ TO := fun e => hb (by simp [e])
    have n3 : c ≠ i1 := fun e => hb (by simp [e])
    have n4 : c ≠ i2 := fun e => hb (by simp [e])
    exact kk c u n1 n2 n3 n4 q
  self := fun _ _ _ _ _ st h => wpAny_pyIter_zip st.hz h
def iZip (K : PySem.W.Frag) (ta : TA) : TI := fun σ H R => ta σ H fun vs H1 => ∃ a b, vs = [.ref a, .ref b] ∧ (∃ xs, SqL K H1 a xs) ∧ (∃ ys, SqL K H1 b ys) ∧ R (Itz K a b) H1
section
variable {X : Cx} {elts : List Expr} {tpos : Pos}
theorem pi_zip {a b : Expr} {ta : TA} {p pos : Pos} {k1} (hg : Gl X "zip") (hm : X.mg "zip" = none) (ha : PA X [a, b] ta) (hs : starEach [a, b] X.env = [(false, eval a X.env), (false, eval b X.env)] := by rfl) (hs2 : starEach [b] X.env = [(false, eval b X.env)] := by rfl) :
    PI X (.Tuple elts k1 tpos) (.Call (.Name "zip" p) [a, b] [] pos) (iZip X.K ta) := by
  intro pins s σ H R I h
  refine Call_ (ld_blt I hg hm bt_zip (PyProof.Rows.callWith_type1 (thn (ha pos pins s σ H _ I h) fun us s1 ⟨vs, H1, I1, r1, q1⟩ => ?_) (by rw [hs, hs2]) (by rw [hs2]; rfl)))
  obtain ⟨l1, l2, e, ⟨xs, hq1⟩, ⟨ys, hq2⟩, q⟩ := q1
  subst e
  obtain ⟨u, v, rfl, ru, rv⟩ := vals2 r1
  cases ru
  cases rv
  obtain ⟨ia, ra, pa, za⟩ := I1.list hq1
  obtain ⟨ib, rb, pb, zb⟩ := I1.list hq2
  refine call_zip_2 pa.isList pb.isList fun h' hz hTI hTO h1 h2 sz kk => wpAny_pyIter_zip hz ?_
  refine ⟨s1.heap.objs.size + 4, [s1.heap.objs.size + 4, s1.heap.objs.size + 2, s1.heap.objs.size + 3, s1.heap.objs.size, s1.heap.objs.size + 1], _, _, H1, rfl, I1.kept (t' := s1.toks) kk, turn_zip _ _ _ _ _ l1 l2,
    ⟨ne_add (by decide), ne_add (by decide), ne_add0 (by decide), ne_add (by decide), ne_add (by decide), (ne_add0 (by decide)).symm, ne_add (by decide), (ne_add0 (by decide)).symm, ne_add (by decide), ne_add0 (by decide), hz, hTI, ⟨_, _, hTO⟩, h1, h2⟩, fun b hb => ?_, q⟩
  have hb' : b = s1.heap.objs.size + 4 ∨ b = s1.heap.objs.size + 2 ∨ b = s1.heap.objs.size + 3 ∨ b = s1.heap.objs.size ∨ b = s1.heap.objs.size + 1 := by simpa using hb
  have hb2 : s1.heap.objs.size ≤ b := by
    rcases hb' with rfl | rfl | rfl | rfl | rfl <;> first | exact Nat.le_add_right _ _ | exact Nat.le_refl _
  exact I1.fpOk hb2 (I1.hok.fresh hb2)
end
end L2
namespace L2
open PySem PySem.Spec PyProof.Rows
set_option linter.all false
/-! ### [elt for x, y in iter] -/
def compGo2 (K : PySem.W.Frag) (acc : Addr) (J : It) (caps : List (Str × Nat)) (te : TE) (σ : St) (fin : Addr → List V → Hp → Prop) (H1 : Hp) : Prop :=
  ∃ W : Nat → Nat → List V → Hp → Prop, (∃ m, W 0 m [] (upd H1 acc (.lst []))) ∧ ∀ i m ys H, W i m ys H → H acc = some (.lst ys) ∧
    ((J.stop i H ∧ fin acc ys H) ∨ (J.go i H ∧ ∀ v H', J.yld i H v H' → ∃ T x y, v = .ref T ∧ SqT K H' T [x, y] ∧ te (some x :: some y :: caps.map (capV σ)) H' fun z H3 =>
      H3 acc = some (.lst ys) ∧ ys.length < sizeLine ∧ ∃ m', m' < m ∧ W (i + 1) m' (ys ++ [z]) (upd H3 acc (.lst (ys ++ [z])))))
def tComp2 (K : PySem.W.Frag) (wi : TI) (caps : List (Str × Nat)) (te : TE) : TE := fun σ H Q => wi σ H fun J H1 => ∀ acc, H1 acc = none → compGo2 K acc J caps te σ (fun a _ H => Q (.ref a) H) H1
section
variable {X : Cx} {pins : List (Addr × Obj)} {s2 : Shared} {σ : St} {H2 : Hp} {x y : Str} {px py tp pos : Pos} {tk : Nat} {elt iter : Expr} {N : List Str} {scope sc : Scope} {caps : List (Str × Nat)} {te : TE} {wi : TI}
theorem comp_block2 {it : Addr} {fp : List Addr} {tn : Nat → Heap → Prop} {J : It} {fin : Addr → List V → Hp → Prop} {cl : List (Str × Addr)} {E : Value → Shared → Prop} {RR : Value → Addr → Result → Shared → Prop}
    (hc : X.calm = true) (hsc : X.env.scope = sc) (hN : X.N = N) (ck : CompOk N sc scope x caps) (hy : scope.names.lookup y = some .local) (ndy : (x :: y :: caps.map (·.1)).Nodup)
    (hcl : ∀ y c, cl.lookup y = some c → X.env.cells.lookup y = some c) (hclh : ∀ y ∈ scope.names, y.2 = .free → ∃ c, cl.lookup y.1 = some c)
    (I2 : Inv X pins σ H2 s2) (T : Turn X.prog X.w X.K (.Tuple [.Name x px, .Name y py] tk tp) J fp it tn) (st2 : tn 0 s2.heap) (f2 : ∀ b ∈ fp, FpOk X pins H2 b)
    (he : ∀ cl C s3 H3 fp pins, PE (X.comp (x :: y :: caps.map (·.1)) scope cl C s3 H3 fp pins) elt te)
    (go : ∀ acc, H2 acc = none → compGo2 X.K acc J caps te σ fin H2)
    (hRR : ∀ (acc C : Addr) (ys : List V) (H' : Hp) (s' : Shared) (m : Str → Option Value), Inv X pins σ H' s' → FpOk X pins H' C → s'.heap.Ns C m → fin acc ys H' → RR (.ref acc) C (.ok .next) s') :
    wpAny (model X.prog X.w) X.A (newList []) (fun acc s₃ => wpAny (model X.prog X.w) X.A (newFunctionEnv scope X.env.globals cl [] X.env.qual none .none (some X.env)) (fun cenv s₄ =>
      codeAny (model X.prog X.w) X.A (.compStart (.ListComp elt [⟨.Tuple [.Name x px, .Name y py] tk tp, iter, [], 0⟩] scope pos) 0 (.ref it) acc { cenv with scope := relabel scope X.env }) (RR acc cenv.locals) s₄) E s₃) E s2 := by
  have hacc : H2 s2.heap.objs.size = none := I2.fresh
  obtain ⟨W, ⟨m0, w0⟩, turn⟩ := go _ hacc
  have I3 : Inv X pins σ (upd H2 s2.heap.objs.size (.lst [])) { s2 with heap := s2.heap.push { cls := .type "list", data := .seq ([] : List Value).toArray }, toks := s2.toks } := I2.lnew (its := []) .nil (Nat.zero_le _)
  refine wpAny_newObj_type (wpAny_newFunctionEnv ck.nocell (by intro y hy; simp at hy) (fun h₁ hns₁ hsb₁ => ?_) ck.kind)
  dsimp only at hns₁ hsb₁ ⊢
  generalize hH3 : s2.heap.push { cls := .type "list", dict := none, data := .seq ([] : List Value).toArray } = h3 at hns₁ hsb₁ I3 ⊢
  generalize hU : upd H2 s2.heap.objs.size (.lst []) = H3 at w0 I3
  have hsz3 : h3.objs.size = s2.heap.objs.size + 1 := by rw [← hH3, Heap.size_push]
  have keep1 : ∀ b o, h3.get? b = some o → h₁.get? b = some o := fun b o e => hsb₁.extBut b o (Nat.ne_of_lt (Heap.lt_size e)) (Heap.get?_push_of_some _ e)
  have keep0 : ∀ b o, s2.heap.get? b = some o → h3.get? b = some o := fun b o e => hH3 ▸ Heap.get?_push_of_some _ e
  -- the block's own context
  let s3 : Shared := { s2 with heap := h3, toks := s2.toks }
  let X' : Cx := X.comp (x :: y :: caps.map (·.1)) scope cl h3.objs.size s3 H3 fp pins
  have I3 : Inv X pins σ H3 s3 := I3
  have fp3 : ∀ b ∈ fp, b ≠ s2.heap.objs.size := fun b hb => by
    obtain ⟨o, e, _⟩ := T.obj 0 _ st2 b hb
    exact Nat.ne_of_lt (Heap.lt_size e)
  have f3 : ∀ b ∈ fp, H3 b = none := fun b hb => by rw [← hU, upd_ne (fp3 b hb)]; exact (f2 b hb).1
  have hkx : X'.env.scope.names.lookup x = some .local := lookup_relabel_local ck.hx
  have hky : X'.env.scope.names.lookup y = some .local := lookup_relabel_local hy
  have fpC : ∀ b ∈ fp, b ≠ h3.objs.size := fun b hb => by
    obtain ⟨o, e, _⟩ := T.obj 0 _ st2 b hb
    rw [hsz3]
    exact Nat.ne_of_lt (Nat.lt_succ_of_lt (Heap.lt_size e))
  have fpS : ∀ b ∈ fp, b ∉ frs X.stack := fun b hb z => by
    rcases List.mem_cons.mp (I3.stkSub b z) with e | e
    · exact (f2 b hb).2.1 e
    · exact (f2 b hb).2.2.1 e
  have ok' : X'.Ok := by
    refine ⟨I3.ok.mod, ck.kind, I3.ok.glob, I3.ok.blt, Nat.le_refl _, fun y z c h1 h2 => I3.ok.inj y z c (hcl y c h1) (hcl z c h2), fun z hz => ?_, fun z c hf _ => (Bool.false_ne_true hf).elim, I3.ok.hd, I3.ok.frames, .inl rfl, fun b hb => ⟨fpC b hb, fun y c h1 => (f2 b hb).2.2.2.2.1 y c (hcl y c h1)⟩, I3.bs, Nat.le_trans I3.ok.bsz I3.sz, fun b o e hb => ?_, fpS, I3.stack, I3.stkFree⟩
    · have hy' : (relabel scope X.env).names.lookup z = some .cell ∨ (relabel scope X.env).names.lookup z = some .free := hz
      have e : (relabel scope X.env).names.lookup z = _ := relabel_map X.env z scope.names
      rw [e] at hy'
      cases q : scope.names.lookup z with
      | none => rw [q] at hy'; rcases hy' with z | z <;> cases z
      | some k =>
        have hm := mem_of_lk q
        cases k with
        | free => exact hclh _ hm rfl
        | cell => exact absurd rfl (ck.nocell _ hm)
        | _ => rw [q] at hy'; rcases hy' with z | z <;> exact absurd z (by simp)
    · rcases (f2 b hb).2.2.2.1 with z | z
      · exact I3.ok.noex b o e z
      · exact absurd (Nat.lt_of_lt_of_le (Heap.lt_size e) (Nat.le_trans I3.ok.bsz z)) (Nat.lt_irrefl _)
  have H3C : H3 h3.objs.size = none := I3.fresh
  have I4 : Inv X' [] (none :: none :: caps.map (capV σ)) H3 { s3 with heap := h₁, toks := s2.toks + ([] : List (Str × Value)).length } := by
    refine ⟨ok', rfl, I3.bare, Un.kept keep1, ⟨_, hns₁, fun i yy v h1 h2 h3' => ?_⟩, fun y c h1 => ?_, H3C, fun y c h1 => I3.freeC y c (hcl y c h1), fun p hp => ?_, I3.hok.kept keep1, ?_⟩
    · match i, h1, h2 with
      | 0, h1, h2 => cases h2
      | 1, h1, h2 => cases h2
      | i + 2, h1, h2 =>
        have h1' : (caps.map (·.1))[i]? = some yy := h1
        have h2' : (caps.map (capV σ))[i]? = some (some v) := h2
        rw [List.getElem?_map] at h1' h2'
        cases q : caps[i]? with
        | none => rw [q] at h1'; cases h1'
        | some p =>
          rw [q] at h1' h2'
          cases h1'
          have hv : capV σ p = some v := Option.some.inj h2'
          obtain ⟨c1, c2, c3⟩ := ck.cps p (List.mem_of_getElem? q)
          obtain ⟨m, hn, hl⟩ := I3.loc
          have hσ : σ[p.2]? = some (some v) := by
            unfold capV at hv
            cases z : σ[p.2]? with
            | none => rw [z] at hv; cases hv
            | some ov => rw [z] at hv; exact congrArg some hv
          obtain ⟨u, r, lk⟩ := hl p.2 p.1 v (by rw [hN]; exact c1) hσ (by rw [hsc]; exact .inr c3)
          refine ⟨u, r, .inr ⟨relabel_free c2, ?_⟩⟩
          rcases lk with ⟨kk, _⟩ | ⟨_, c, hcc, hcell⟩
          · have kk' : X.env.scope.names.lookup p.1 = some .local := kk
            rw [hsc] at kk'
            rcases c3 with z | z <;> (rw [z] at kk'; cases kk')
          · obtain ⟨c', hc'⟩ := hclh (p.1, .free) (mem_of_lk c2) rfl
            have e2 := hcl _ _ hc'
            rw [hcc] at e2
            cases e2
            obtain ⟨o, ho, hd⟩ := hcell
            exact ⟨c, hc', o, keep1 _ _ ho, hd⟩
    · obtain ⟨v, o, ho, hd⟩ := I3.cell y c (hcl y c h1)
      exact ⟨v, o, keep1 _ _ ho, hd⟩
    · have hp' : p ∈ X.pn ++ pins := by simpa [X', Cx.comp] using hp
      obtain ⟨p1, p2, p3, p4, p5⟩ := I3.pin p hp'
      refine ⟨keep1 _ _ p1, p2, Nat.ne_of_lt (Heap.lt_size p1), fun z => ?_, p5⟩
      rcases List.mem_cons.mp (I3.stkSub _ z) with e | e
      · exact p3 e
      · exact p4 e
    · show (none :: none :: caps.map (capV σ)).length = (x :: y :: caps.map (·.1)).length
      simp
  have fpOk' : ∀ {H' : Hp} {b : Addr}, b ∈ fp → H' b = none → FpOk X' [] H' b := fun {H' b} hb hn =>
    ⟨hn, fpC b hb, fpS b hb, .inl hb, fun y c h1 => (f2 b hb).2.2.2.2.1 y c (hcl y c h1), fun p hp => (f2 b hb).2.2.2.2.2 p (by simpa [X', Cx.comp] using hp)⟩
  have tn4 : tn 0 h₁ := T.keep _ _ _ st2 fun b _ o e => keep1 b o (keep0 b o e)
  have nd' : X'.N.Nodup := ndy
  have loop : ∀ s4 : Shared, s4 = { s2 with heap := h₁, toks := s2.toks + ([] : List (Str × Value)).length } →
      codeAny (model X.prog X.w) X.A (.compLoop (.ListComp elt [⟨.Tuple [.Name x px, .Name y py] tk tp, iter, [], 0⟩] scope pos) 0 (.ref it) (.ref s2.heap.objs.size) X'.env) (RR (.ref s2.heap.objs.size) h3.objs.size) s4 := by
    rintro s4 rfl
    refine compLoop_own (fun n s' => ∃ i ys v v2 H', Inv X' [] (v :: v2 :: caps.map (capV σ)) H' s' ∧ tn i s'.heap ∧ (∀ b ∈ fp, H' b = none) ∧ W i n ys H') ?_ m0 ⟨0, [], none, none, H3, I4, tn4, f3, w0⟩
    rintro n s5 ⟨i, ys, v, v2, H5, I5, st5, fr5, w5⟩
    obtain ⟨hacc5, alt⟩ := turn i n ys H5 w5
    rcases alt with ⟨stop, qn⟩ | ⟨go5, step⟩
    · refine thn (T.done X' rfl rfl rfl hc i [] s5 _ H5 _ I5 (fun b hb => fpOk' hb (fr5 b hb)) st5 stop) fun r s6 ⟨hr, I6⟩ => ?_
      subst hr
      obtain ⟨m, hn, _⟩ := id I6.loc
      have u := I6.base
      have I7 : Inv X pins σ H5 s6 := I3.call' (ch := fp) I6.os u I6.hok I6.bare fun b hb => ⟨(f2 b hb).2.2.2.1, (f2 b hb).2.1, (f2 b hb).2.2.2.2.1, (f2 b hb).2.2.2.2.2⟩
      refine hRR _ _ ys H5 s6 m I7 ?_ hn qn
      refine ⟨I6.free, Nat.ne_of_gt I3.lt, fun z => ?_, .inr I3.sz, fun y c h1 z => ?_, fun p hp z => ?_⟩
      · obtain ⟨_, o, ho, _⟩ := I3.ok.funs.mem z
        have := Nat.lt_of_lt_of_le (Heap.lt_size ho) I3.sz
        exact Nat.lt_irrefl _ this
      · obtain ⟨v', q⟩ := I3.cell y c h1
        rw [z] at q
        exact Nat.lt_irrefl _ q.lt
      · have := (I3.pin p hp).1
        rw [z] at this
        exact Nat.lt_irrefl _ (Heap.lt_size this)
    · refine thn (T.item X' rfl rfl rfl hc i [] s5 _ H5 _ I5 (fun b hb => fpOk' hb (fr5 b hb)) st5 go5) fun r s6 ⟨u, hr, h6⟩ => ?_
      subst hr
      refine thn h6 fun _ s7 ⟨y7v, H7, I7, r7, y7, st7, fr7⟩ => ?_
      have I7' := I7.pinned (fun b hb => fpOk' hb (fr7 b hb)) (T.obj _ _ st7)
      obtain ⟨T7, x7, z7, rfl, hT7, q7⟩ := step y7v H7 y7
      have again : ∀ {σ9 : St} {H9 : Hp} {s9 : Shared}, Inv X' ([] ++ pinsAt fp s7.heap) σ9 H9 s9 → (tn (i + 1) s9.heap ∧ ∀ b ∈ fp, H9 b = none) := fun {σ9 H9 s9} I9 => by
        refine ⟨T.keep _ _ _ st7 fun b hb o e => (I9.pin (b, o) (List.mem_append_right _ (List.mem_append_right _ (mem_pinsAt hb e)))).1, fun b hb => ?_⟩
        obtain ⟨o, e, d⟩ := T.obj _ _ st7 b hb
        exact (I9.pin (b, o) (List.mem_append_right _ (List.mem_append_right _ (mem_pinsAt hb e)))).2.1
      have hg : PG X' (.Tuple [.Name x px, .Name y py] tk tp) (gTup X'.K 2 (gCons (gName 0) (gCons (gName 1) gNil))) := pg_tup hc (pgs_cons (pg_name (i := 0) nd' rfl (.inl hkx) (.inr hkx)) (pgs_cons (pg_name (i := 1) nd' rfl (.inl hky) (.inr hky)) pgs_nil))
      refine thn (hg _ s7 _ H7 (.ref T7) u (fun σ8 H8 => σ8 = some x7 :: some z7 :: caps.map (capV σ) ∧ H8 = H7) I7' r7 ⟨T7, _, rfl, hT7, rfl, _, _, rfl, _, _, rfl, rfl, rfl, rfl⟩) fun _ s8 ⟨σ8, H8, I8, e8, e8'⟩ => ?_
      subst e8 e8'
      refine wpAny_tests_nil ?_
      rw [if_pos rfl]
      refine thn (he cl _ _ _ fp pins _ s8 _ H8 _ I8 q7) fun ev s10 ⟨y10, H10, I10, r10, h10, hz, m', hm, w10⟩ => ?_
      refine thn (mt_append (X := X') _ s10 _ H10 (.ref s2.heap.objs.size) [y10] (.ref s2.heap.objs.size) [ev] (fun _ H11 => H11 = upd H10 s2.heap.objs.size (.lst (ys ++ [y10]))) I10 rfl (.cons r10 .nil) ⟨_, ys, y10, rfl, rfl, h10, hz, rfl⟩) fun _ s11 ⟨_, H11, I11, _, e11⟩ => ?_
      subst e11
      obtain ⟨a1, a2⟩ := again I11
      exact ⟨m', hm, i + 1, ys ++ [y10], _, _, _, I11.unpinned, a1, a2, w10⟩
  exact codeAny_compStart_list (loop _ rfl) (T.self _ 0 _ _ _ tn4 (loop _ rfl))
/-- [elt for x, y in iter], where its value is handed on -/
theorem pe_comp2 (hc : X.calm = true) (hi : PI X (.Tuple [.Name x px, .Name y py] tk tp) iter wi) (hsc : X.env.scope = sc) (hN : X.N = N) (ck : compOk N sc scope x caps = true) (hy : scope.names.lookup y = some .local) (ndy : (x :: y :: caps.map (·.1)).Nodup)
    (he : ∀ cl C s3 H3 fp pins, PE (X.comp (x :: y :: caps.map (·.1)) scope cl C s3 H3 fp pins) elt te)
    (hs : ∀ v, foldedSetIterable iter X.env v = pure v := by intro _; rfl) : PE X (.ListComp elt [⟨.Tuple [.Name x px, .Name y py] tk tp, iter, [], 0⟩] scope pos) (tComp2 X.K wi caps te) := by
  intro pins s σ H Q I h
  have ck := CompOk.of ck
  obtain ⟨cl, hclos, hcl, hclh⟩ := closureFor_all (scope := scope) (env := X.env) fun y hy hf => by
    have := ck.free y hy hf
    rw [← hsc] at this
    exact I.ok.has y.1 this
  rw [eval_ListComp]
  refine wpAny_comprehension_free (use := none) rfl hs hclos ck.kind ck.loc ?_
  refine thn (hi pins s σ H _ I h) fun v s1 h1 => thn h1 fun itv s2 h2 => ?_
  obtain ⟨it, fp, tn, J, H2, e, I2, T, st2, f2, R⟩ := h2
  subst e
  refine comp_block2 hc hsc hN ck hy ndy hcl hclh I2 T st2 f2 he R fun acc C ys H' s' m I' fC hn q => ?_
  refine ⟨m, hn, fun h' sb => ⟨.ref acc, H', ?_, rfl, q⟩⟩
  exact I'.turned (t' := s'.toks) (fun b o hb e => (sb.2 b hb).trans e) fC.1 fC.2.1 fC.2.2.2.1 fC.2.2.2.2.1 fC.2.2.2.2.2
/-- over zip of two lists that stay, each pair's value known -/
theorem comp_zip {K : PySem.W.Frag} {a b acc : Addr} {xs ys : List V} {caps : List (Str × Nat)} {te : TE} {σ : St} {fin : Addr → List V → Hp → Prop} {H1 : Hp} (g : Nat → V) (hacc : H1 acc = none) (ha : SqL K H1 a xs) (hb : SqL K H1 b ys) (hl : xs.length = ys.length) (hz : xs.length ≤ 100000)
    (he : ∀ i x y H' Qk, xs[i]? = some x → ys[i]? = some y → Same H1 H' → (∀ H2, Same H' H2 → Qk (g i) H2) → te (some x :: some y :: caps.map (capV σ)) H' Qk)
    (hfin : ∀ H', Same H1 H' → H' acc = some (.lst ((List.range xs.length).map g)) → fin acc ((List.range xs.length).map g) H') : compGo2 K acc (Itz K a b) caps te σ fin H1 := by
  refine ⟨fun i m zs H' => zs = (List.range i).map g ∧ m = xs.length - i ∧ i ≤ xs.length ∧ Same H1 H' ∧ H' acc = some (.lst zs), ⟨_, rfl, rfl, Nat.zero_le _, same_new hacc _, upd_same⟩, ?_⟩
  rintro i m zs H' ⟨rfl, rfl, hi, hs, hacc'⟩
  refine ⟨hacc', ?_⟩
  by_cases hlt : i < xs.length
  · have hlt2 : i < ys.length := by omega
    refine .inr ⟨⟨xs, ys, xs[i], ys[i], hs.seq ha, hs.seq hb, List.getElem?_eq_getElem hlt, List.getElem?_eq_getElem hlt2⟩, fun v H2 y => ?_⟩
    obtain ⟨T, x, y, hT, rfl, rfl, h1, h2⟩ := y
    refine ⟨T, x, y, rfl, SqT.of upd_same, ?_⟩
    have s2 : Same H' (upd H' T (.tup [x, y])) := same_new hT _
    refine he i x y _ _ (h1 _ (hs.seq ha)) (h2 _ (hs.seq hb)) (hs.trans s2) fun H3 s3 => ⟨s3 _ _ (s2 _ _ hacc'), ?_, xs.length - (i + 1), by omega, ?_, rfl, hlt, ((hs.trans s2).trans s3).put hacc _, upd_same⟩
    · rw [List.length_map, List.length_range, sizeLine_eq]
      omega
    · rw [List.range_succ, List.map_append]
      rfl
  · have e : i = xs.length := by omega
    subst e
    exact .inl ⟨⟨xs, ys, hs.seq ha, hs.seq hb, .inl (Nat.le_refl _)⟩, hfin H' hs hacc'⟩
end
end L2
/-! ### comprehensions that make new data, that pick; what is new on the heap -/
namespace L2
open PySem PySem.Spec PyProof.Rows
set_option linter.all false
/-- what H' has beyond H -/
def fresh (H H' : Hp) : Hp := fun b => match H b with | none => H' b | some _ => none
theorem fresh_none {H H' : Hp} {b : Addr} (h : H b = none) : fresh H H' b = H' b := by unfold fresh; rw [h]
theorem fresh_some {H H' : Hp} {b : Addr} {o : HO} (h : H b = some o) : fresh H H' b = none := by unfold fresh; rw [h]
theorem fresh_sub (H H' : Hp) : Same (fresh H H') H' := fun b o h => by
  cases q : H b with
  | none => rw [fresh_none q] at h; exact h
  | some u => rw [fresh_some q] at h; cases h
theorem fresh_mono {H A B : Hp} (s : Same A B) : Same (fresh H A) (fresh H B) := fun b o h => by
  cases q : H b with
  | none => rw [fresh_none q] at h ⊢; exact s b o h
  | some u => rw [fresh_some q] at h; cases h
theorem fresh_anti {A B H : Hp} (s : ∀ b, B b = none → A b = none) : Same (fresh B H) (fresh A H) := fun b o h => by
  cases q : B b with
  | none => rw [fresh_none q] at h; rw [fresh_none (s b q)]; exact h
  | some u => rw [fresh_some q] at h; cases h
theorem fresh_put {A H : Hp} {p : Addr} {u : HO} (h : A p = some u) (o : HO) : fresh A (upd H p o) = fresh A H := by
  funext b
  by_cases e : b = p
  · subst e
    rw [fresh_some h, fresh_some h]
  · cases q : A b with
    | none => rw [fresh_none q, fresh_none q, upd_ne e]
    | some v => rw [fresh_some q, fresh_some q]
theorem comp_fresh {K : PySem.W.Frag} {a acc : Addr} {xs : List V} {caps : List (Str × Nat)} {te : TE} {σ : St} {fin : Addr → List V → Hp → Prop} {H1 : Hp} (D : Nat → Dt) (hacc : H1 acc = none) (hsq : SqL K H1 a xs) (hz : xs.length ≤ 100000)
    (he : ∀ i x H' Qk, xs[i]? = some x → Same H1 H' → (∀ v H2, Same H' H2 → Rep (fresh H' H2) (D i) v → Qk v H2) → te (some x :: caps.map (capV σ)) H' Qk)
    (hfin : ∀ ys H', Same H1 H' → H' acc = some (.lst ys) → Rep (fresh H1 H') (.l ((List.range xs.length).map D)) (.ref acc) → fin acc ys H') : compGo acc (Itl K a) caps tAll te σ fin H1 := by
  have hA : ∀ b, upd H1 acc (.lst []) b = none → H1 b = none := fun b h => by
    by_cases e : b = acc
    · subst e; rw [upd_same] at h; cases h
    · rw [upd_ne e] at h; exact h
  refine ⟨fun i m ys H' => Reps (fresh (upd H1 acc (.lst [])) H') ((List.range i).map D) ys ∧ m = xs.length - i ∧ i ≤ xs.length ∧ Same H1 H' ∧ H' acc = some (.lst ys), ⟨_, by show Reps _ [] []; rw [Reps], rfl, Nat.zero_le _, same_new hacc _, upd_same⟩, ?_⟩
  rintro i m ys H' ⟨hr, rfl, hi, hs, ha⟩
  have hAH : ∀ b, H' b = none → upd H1 acc (.lst []) b = none := fun b h => by
    by_cases e : b = acc
    · subst e; rw [ha] at h; cases h
    · rw [upd_ne e]; exact hs.free h
  refine ⟨ha, ?_⟩
  by_cases hlt : i < xs.length
  · refine .inr ⟨⟨xs, xs[i], hs.seq hsq, List.getElem?_eq_getElem hlt⟩, fun x H2 y => ?_⟩
    obtain ⟨rfl, y⟩ := y
    have ex := y _ (hs.seq hsq)
    refine he i x H2 _ ex hs fun v H3 s3 hv => ⟨s3 _ _ ha, ?_, xs.length - (i + 1), by omega, ?_, rfl, hlt, (hs.trans s3).put hacc _, upd_same⟩
    · rw [← Reps.length hr, List.length_map, List.length_range, sizeLine_eq]
      omega
    · rw [List.range_succ, List.map_append, fresh_put upd_same]
      refine Reps.append (Reps.same (fresh_mono s3) hr) ?_
      show Reps _ [D i] [v]
      rw [Reps]
      exact ⟨v, [], rfl, Rep.same (fresh_anti hAH) hv, by rw [Reps]⟩
  · have e : i = xs.length := by omega
    subst e
    refine .inl ⟨⟨xs, hs.seq hsq, Nat.le_refl _⟩, hfin ys H' hs ha ?_⟩
    rw [Rep]
    exact ⟨acc, ys, rfl, by rw [fresh_none hacc]; exact ha, Reps.same (fresh_anti fun b h => by
      by_cases e : b = acc
      · subst e; exact hacc
      · rw [upd_ne e] at h; exact h) hr⟩
theorem comp_filter {K : PySem.W.Frag} {a acc : Addr} {xs : List V} {caps : List (Str × Nat)} {tt : TT} {te : TE} {σ : St} {fin : Addr → List V → Hp → Prop} {H1 : Hp} (b : Nat → Bool) (g : Nat → V) (hacc : H1 acc = none) (hsq : SqL K H1 a xs) (hz : xs.length ≤ 100000)
    (ht : ∀ i x H' Qk, xs[i]? = some x → Same H1 H' → (∀ H2, Same H' H2 → Qk (b i) H2) → tt (some x :: caps.map (capV σ)) H' Qk)
    (he : ∀ i x H' Qk, xs[i]? = some x → Same H1 H' → (∀ H2, Same H' H2 → Qk (g i) H2) → te (some x :: caps.map (capV σ)) H' Qk)
    (hfin : ∀ H', Same H1 H' → H' acc = some (.lst (((List.range xs.length).filter b).map g)) → fin acc (((List.range xs.length).filter b).map g) H') : compGo acc (Itl K a) caps tt te σ fin H1 := by
  refine ⟨fun i m ys H' => ys = ((List.range i).filter b).map g ∧ m = xs.length - i ∧ i ≤ xs.length ∧ Same H1 H' ∧ H' acc = some (.lst ys), ⟨_, rfl, rfl, Nat.zero_le _, same_new hacc _, upd_same⟩, ?_⟩
  rintro i m ys H' ⟨rfl, rfl, hi, hs, ha⟩
  refine ⟨ha, ?_⟩
  by_cases hlt : i < xs.length
  · refine .inr ⟨⟨xs, xs[i], hs.seq hsq, List.getElem?_eq_getElem hlt⟩, fun x H2 y => ?_⟩
    obtain ⟨rfl, y⟩ := y
    have ex := y _ (hs.seq hsq)
    refine ht i x H2 _ ex hs fun H3 s3 => ?_
    have hs3 := hs.trans s3
    by_cases hb : b i = true
    · rw [if_pos hb]
      refine he i x H3 _ ex hs3 fun H4 s4 => ⟨s4 _ _ (s3 _ _ ha), ?_, xs.length - (i + 1), by omega, ?_, rfl, hlt, (hs3.trans s4).put hacc _, upd_same⟩
      · rw [List.length_map, sizeLine_eq]
        have := List.length_filter_le b (List.range i)
        rw [List.length_range] at this
        omega
      · rw [List.range_succ, List.filter_append, List.filter_cons_of_pos hb, List.map_append]
        rfl
    · rw [if_neg hb]
      refine ⟨xs.length - (i + 1), by omega, ?_, rfl, hlt, hs3, s3 _ _ ha⟩
      rw [List.range_succ, List.filter_append, List.filter_cons_of_neg hb]
      simp
  · have e : i = xs.length := by omega
    subst e
    exact .inl ⟨⟨xs, hs.seq hsq, Nat.le_refl _⟩, hfin H' hs ha⟩
theorem rows_of_reps {H : Hp} : ∀ {t : List (List (List Nat))} {vs : List V}, Reps H (t.map fun r => .l (r.map .s)) vs → ∃ rs : List Addr, vs = rs.map V.ref ∧ RowsAt H rs t
  | [], vs, h => by
    rw [List.map_nil, Reps] at h
    subst h
    exact ⟨[], rfl, .nil⟩
  | r :: t, vs, h => by
    rw [List.map_cons, Reps] at h
    obtain ⟨v, vr, rfl, h1, h2⟩ := h
    rw [Rep] at h1
    obtain ⟨p, us, rfl, hp, h3⟩ := h1
    obtain ⟨rs, rfl, h4⟩ := rows_of_reps h2
    have hu : us = rowV r := by
      clear hp h2 h4
      induction r generalizing us with
      | nil => rw [List.map_nil, Reps] at h3; subst h3; rfl
      | cons f r ih =>
        rw [List.map_cons, Reps] at h3
        obtain ⟨v, ur, rfl, h5, h6⟩ := h3
        rw [Rep] at h5
        subst h5
        rw [ih _ h6]
        rfl
    subst hu
    exact ⟨p :: rs, rfl, .cons hp h4⟩
theorem tab_of_rep {H : Hp} {t : List (List (List Nat))} {v : V} (h : Rep H (tabD t) v) : ∃ p rs, v = .ref p ∧ TabAt H p rs t := by
  unfold tabD at h
  rw [Rep] at h
  obtain ⟨p, vs, rfl, hp, h⟩ := h
  obtain ⟨rs, rfl, h4⟩ := rows_of_reps h
  exact ⟨p, rs, rfl, hp, h4⟩
theorem rep_l_ref {H : Hp} {ds : List Dt} {v : V} (h : Rep H (.l ds) v) : ∃ p, v = .ref p := by
  rw [Rep] at h
  obtain ⟨p, _, rfl, _⟩ := h
  exact ⟨p, rfl⟩
theorem dec_tx {a b : List Nat} : decide (V.str (tx a) = V.str (tx b)) = decide (a = b) := by
  by_cases h : a = b
  · subst h; simp
  · rw [decide_eq_false h, decide_eq_false]
    intro z
    injection z with z
    exact h (tx_inj.mp z)
theorem dec_num {a b : Int} : decide (V.int a = V.int b) = decide (a = b) := by
  by_cases h : a = b
  · subst h; simp
  · rw [decide_eq_false h, decide_eq_false]
    intro z
    injection z with z
    exact h z
theorem row_get {r : List (List Nat)} {j : Nat} {x : V} (h : (rowV r)[j]? = some x) : ∃ f, r[j]? = some f ∧ x = .str (tx f) := by
  unfold rowV at h
  rw [List.getElem?_map] at h
  cases hf : r[j]? with
  | none => rw [hf] at h; cases h
  | some f => rw [hf] at h; cases h; exact ⟨f, rfl, rfl⟩
theorem getD_some {α : Type} {l : List α} {j : Nat} {x d : α} (h : l[j]? = some x) : l.getD j d = x := by rw [List.getD_eq_getElem?_getD, h] <;> rfl
theorem range_map {α β : Type} (l : List α) (d : α) (f : α → β) : (List.range l.length).map (fun j => f (l.getD j d)) = l.map f := by
  refine List.ext_getElem (by simp) fun n h1 h2 => ?_
  have hn : n < l.length := by simpa using h1
  simp [hn]
theorem range_filter {α β : Type} (l : List α) (d : α) (p : α → Bool) (f : α → β) : ((List.range l.length).filter fun j => p (l.getD j d)).map (fun j => f (l.getD j d)) = (l.filter p).map f := by
  have h : l = (List.range l.length).map fun j => l.getD j d := by
    have := range_map l d id
    simp only [id] at this
    rw [this, List.map_id]
  conv => rhs; rw [h]
  rw [List.filter_map, List.map_map]
  rfl
theorem comp_str {l : List Nat} {acc : Addr} {caps : List (Str × Nat)} {te : TE} {σ : St} {fin : Addr → List V → Hp → Prop} {H1 : Hp} (g : Nat → V) (hacc : H1 acc = none) (hz : l.length ≤ 100000)
    (he : ∀ i c H' Qk, l[i]? = some c → Same H1 H' → (∀ H2, Same H' H2 → Qk (g i) H2) → te (some (.str (tx [c])) :: caps.map (capV σ)) H' Qk)
    (hfin : ∀ H', Same H1 H' → H' acc = some (.lst ((List.range l.length).map g)) → fin acc ((List.range l.length).map g) H') : compGo acc (Its (tx l)) caps tAll te σ fin H1 := by
  have hz' : (tx l).cps.size = l.length := by simp
  refine ⟨fun i m ys H' => ys = (List.range i).map g ∧ m = l.length - i ∧ i ≤ l.length ∧ Same H1 H' ∧ H' acc = some (.lst ys), ⟨_, rfl, rfl, Nat.zero_le _, same_new hacc _, upd_same⟩, ?_⟩
  rintro i m ys H' ⟨rfl, rfl, hi, hs, ha⟩
  refine ⟨ha, ?_⟩
  by_cases hlt : i < l.length
  · refine .inr ⟨by show i < (tx l).cps.size; rw [hz']; exact hlt, fun x H2 y => ?_⟩
    obtain ⟨rfl, c, hc, rfl⟩ := y
    refine he i c H2 _ (by simpa using hc) hs fun H3 s3 => ⟨s3 _ _ ha, ?_, l.length - (i + 1), by omega, ?_, rfl, hlt, (hs.trans s3).put hacc _, upd_same⟩
    · rw [List.length_map, List.length_range, sizeLine_eq]
      omega
    · rw [List.range_succ, List.map_append]
      rfl
  · have e : i = l.length := by omega
    subst e
    exact .inl ⟨by show (tx l).cps.size ≤ l.length; rw [hz']; exact Nat.le_refl _, hfin H' hs ha⟩
theorem splitN_len (c : Nat) : ∀ l : List Nat, (splitN c l).length ≤ l.length + 1 ∧ ∀ q ∈ splitN c l, q.length ≤ l.length
  | [] => by
    refine ⟨Nat.le_refl _, fun q hq => ?_⟩
    have : q = [] := by simpa [splitN] using hq
    rw [this]
    exact Nat.le_refl _
  | x :: r => by
    obtain ⟨h1, h2⟩ := splitN_len c r
    unfold splitN
    split
    · refine ⟨by rw [List.length_cons, List.length_cons]; omega, fun q hq => ?_⟩
      rcases List.mem_cons.mp hq with rfl | hq
      · exact Nat.zero_le _
      · have := h2 q hq
        rw [List.length_cons]
        omega
    · split
      · rename_i h t e
        rw [e] at h1 h2
        refine ⟨by rw [List.length_cons] at h1 ⊢; rw [List.length_cons]; omega, fun q hq => ?_⟩
        rcases List.mem_cons.mp hq with rfl | hq
        · have := h2 h List.mem_cons_self
          rw [List.length_cons, List.length_cons]
          omega
        · have := h2 q (List.mem_cons_of_mem _ hq)
          rw [List.length_cons]
          omega
      · rename_i e
        exact absurd e (splitN_ne c r)
end L2
/-! ### the program's own words: columns, cells, sheets -/
namespace L2
open PySem PySem.Spec PyProof.Rows
set_option linter.all false
theorem row_at {H : Hp} {rs : List Addr} {t : List (List (List Nat))} {j : Nat} {x : V} (h : RowsAt H rs t) (hx : (rs.map V.ref)[j]? = some x) : ∃ a r, x = .ref a ∧ t[j]? = some r ∧ rs[j]? = some a ∧ H a = some (.lst (rowV r)) := by
  rw [List.getElem?_map] at hx
  cases ha : rs[j]? with
  | none => rw [ha] at hx; cases hx
  | some a =>
    rw [ha] at hx
    cases hx
    obtain ⟨r, h1, h2⟩ := Paired.getL h ha
    exact ⟨a, r, rfl, h1, rfl, h2⟩
theorem not_in {H : Hp} {rs : List Addr} {t : List (List (List Nat))} {a : Addr} (h : RowsAt H rs t) (n : H a = none) : a ∉ rs := fun z => by
  obtain ⟨j, hj, e⟩ := List.mem_iff_getElem.mp z
  obtain ⟨_, _, hb⟩ := Paired.getL h (List.getElem?_eq_some_iff.mpr ⟨hj, e⟩)
  rw [n] at hb
  cases hb
def colsOf (t : List (List (List Nat))) (n : Nat) : List (List (List Nat)) := if t = [] then [] else (List.range n).map fun k => t.map fun r => r.getD k []
def longestOf (c : List (List Nat)) : Nat := (c.map List.length).foldl max 1
theorem longest_of (t : List (List (List Nat))) (k : Nat) : Cb.longest t k = longestOf (t.map fun r => r.getD k []) := by
  unfold Cb.longest longestOf
  rw [List.map_map]
  rfl
theorem longestOf_max {c : List (List Nat)} {M : Int} (h1 : M ∈ c.map fun f => ((f.length : Nat) : Int)) (h2 : ∀ a ∈ c.map (fun f => ((f.length : Nat) : Int)), a ≤ M) : (if (1 : Int) > M then 1 else M) = ((longestOf c : Nat) : Int) := by
  obtain ⟨f, hf, rfl⟩ := List.mem_map.mp h1
  have a1 := (Cb.foldl_max_le (c.map List.length) 1).1
  have a2 := (Cb.foldl_max_le (c.map List.length) 1).2.1 _ (List.mem_map.mpr ⟨f, hf, rfl⟩)
  have a3 := (Cb.foldl_max_le (c.map List.length) 1).2.2
  unfold longestOf
  generalize (c.map List.length).foldl max 1 = L at *
  rcases a3 with a3 | a3
  · split <;> omega
  · obtain ⟨g, hg, e⟩ := List.mem_map.mp a3
    have := h2 _ (List.mem_map.mpr ⟨g, hg, rfl⟩)
    split <;> omega
theorem sumLen_le (b : Nat) : ∀ ls : List (List Nat), (∀ l ∈ ls, l.length ≤ b) → sumLen ls ≤ ls.length * b
  | [], _ => Nat.zero_le _
  | l :: ls, h => by
    have ih := sumLen_le b ls fun x hx => h x (List.mem_cons_of_mem _ hx)
    have h1 := h l List.mem_cons_self
    have e : sumLen (l :: ls) = l.length + sumLen ls := by unfold sumLen; rw [List.map_cons, List.sum_cons]
    rw [e, List.length_cons, Nat.succ_mul]
    omega
def sCut : List Nat := [99, 117, 116]
def sWhole : List Nat := [119, 104, 111, 108, 101]
def tellD (cap : Nat) (f : List Nat) : Dt := if cap < f.length then .t [.s sCut, .s (f.take (cap - 1))] else .t [.s sWhole, .s f]
def readD (t : List (List (List Nat))) (cap : Nat) : Dt := .l (t.map fun r => .l (r.map (tellD cap)))
def linesD (ls : List (List Nat)) : Dt := .l (ls.map .s)
theorem rep_lines {H : Hp} {p : Addr} {ls : List (List Nat)} (h : H p = some (.lst (ls.map fun l => V.str (tx l)))) : Rep H (linesD ls) (.ref p) := by
  unfold linesD
  rw [Rep]
  exact ⟨p, _, rfl, h, reps_row H ls⟩
theorem size_lines (ls : List (List Nat)) : (linesD ls).size = 1 + ls.length := by
  unfold linesD
  rw [Dt.size, sizes_s]
theorem tell_size (cap : Nat) (f : List Nat) : (tellD cap f).size = 3 := by
  unfold tellD
  split <;> simp [Dt.size, Dt.sizes]
theorem sizes_tells (cap : Nat) : ∀ r : List (List Nat), Dt.sizes (r.map (tellD cap)) = 3 * r.length
  | [] => rfl
  | f :: r => by
    rw [List.map_cons, Dt.sizes, tell_size, sizes_tells cap r, List.length_cons]
    omega
theorem sizes_reads (cap c : Nat) : ∀ t : List (List (List Nat)), (∀ r ∈ t, r.length ≤ c) → Dt.sizes (t.map fun r => .l (r.map (tellD cap))) ≤ t.length * (3 * c + 1)
  | [], _ => Nat.zero_le _
  | r :: t, h => by
    have ih := sizes_reads cap c t fun x hx => h x (List.mem_cons_of_mem _ hx)
    have h1 := h r List.mem_cons_self
    have e : (r :: t).length * (3 * c + 1) = t.length * (3 * c + 1) + (3 * c + 1) := Nat.succ_mul _ _
    rw [e, List.map_cons, Dt.sizes, Dt.size, sizes_tells]
    omega
theorem read_size {cols : Nat} {t : List (List (List Nat))} (h : Cb.TableOk cols 63 60 t) (hc : cols ≤ 9) (cap : Nat) : (readD t cap).size ≤ 50000 := by
  have h1 := sizes_reads cap cols t fun r hr => Nat.le_of_eq (h.rows r hr).1
  have h2 : t.length * (3 * cols + 1) ≤ 63 * 28 := Nat.mul_le_mul h.size (by omega)
  unfold readD
  rw [Dt.size]
  omega
theorem reps_snoc {H : Hp} {xs : List Dt} {x : Dt} {vs : List V} {v : V} (h : Reps H xs vs) (k : Rep H x v) : Reps H (xs ++ [x]) (vs ++ [v]) := Reps.append h (by rw [Reps]; exact ⟨v, [], rfl, k, by rw [Reps]⟩)
theorem rep_pair {H : Hp} {p : Addr} {a b : List Nat} (h : H p = some (.tup [.str (tx a), .str (tx b)])) : Rep H (.t [.s a, .s b]) (.ref p) := by
  rw [Rep]
  refine ⟨p, _, rfl, h, ?_⟩
  rw [Reps]
  refine ⟨_, _, rfl, by rw [Rep], ?_⟩
  rw [Reps]
  exact ⟨_, _, rfl, by rw [Rep], by rw [Reps]⟩
def isCutN (l : List Nat) : Bool := l.getLast? == some 126
def cellSigns (l : List Nat) : List Nat := if isCutN l = true then l.dropLast else l
def isCellN (l : List Nat) : Bool := !decide (cellSigns l = []) && (cellSigns l).all Cb.colSign
def toldD (l : List Nat) : Dt := if isCutN l = true then .t [.s sCut, .s l.dropLast] else .t [.s sWhole, .s (rsN l)]
def widthN (c : List (List Nat)) : Nat := (c.headD []).length
def longR (c : List (List Nat)) : Nat := (c.map fun l => (rsN l).length).foldl max 1
def isColN (c : List (List Nat)) : Bool := !(c.any fun l => !decide (l.length = widthN c)) && decide (widthN c = longR c)
def hasCutN (c : List (List Nat)) : Bool := c.any isCutN
def maxN (l : List Nat) : Nat := l.foldl max 0
def minN (l : List Nat) : Nat := l.foldl min (l.headD 0)
def shareN (cs : List (List (List Nat))) : Bool := decide (cs.filter hasCutN = []) || decide (maxN (cs.map widthN) = minN ((cs.filter hasCutN).map widthN))
def isSheetN (t : List (List (List Nat))) : Bool := (t.all fun r => r.all isCellN) && (!(t.any fun r => !decide (r.length = (t.headD []).length)) && ((colsOf t (t.headD []).length).all isColN && shareN (colsOf t (t.headD []).length)))
theorem maxN_is {l : List Nat} {M : Int} (h1 : M ∈ l.map fun (n : Nat) => (n : Int)) (h2 : ∀ a ∈ l.map (fun (n : Nat) => (n : Int)), a ≤ M) : M = ((maxN l : Nat) : Int) := by
  obtain ⟨n, hn, rfl⟩ := List.mem_map.mp h1
  have a2 := (Cb.foldl_max_le l 0).2.1 _ hn
  have a3 := (Cb.foldl_max_le l 0).2.2
  unfold maxN
  rcases a3 with a3 | a3
  · rw [a3] at a2 ⊢
    have : n = 0 := by omega
    rw [this]
  · have := h2 _ (List.mem_map.mpr ⟨_, a3, rfl⟩)
    omega
theorem foldl_min_le (l : List Nat) : ∀ a : Nat, l.foldl min a ≤ a ∧ (∀ x ∈ l, l.foldl min a ≤ x) ∧ (l.foldl min a = a ∨ l.foldl min a ∈ l) := by
  induction l with
  | nil => intro a; exact ⟨Nat.le_refl _, fun x hx => (nomatch hx), .inl rfl⟩
  | cons b r ih =>
    intro a
    obtain ⟨h1, h2, h3⟩ := ih (min a b)
    rw [List.foldl_cons]
    refine ⟨by omega, fun x hx => ?_, ?_⟩
    · rcases List.mem_cons.mp hx with rfl | hx
      · omega
      · exact h2 x hx
    · rcases h3 with h3 | h3
      · rw [h3]
        rcases Nat.le_total a b with h | h
        · exact .inl (Nat.min_eq_left h)
        · exact .inr (by rw [Nat.min_eq_right h]; exact List.mem_cons_self)
      · exact .inr (List.mem_cons_of_mem _ h3)
theorem minN_mem {l : List Nat} (h : l ≠ []) : minN l ∈ l := by
  have := (foldl_min_le l (l.headD 0)).2.2
  unfold minN
  rcases this with e | e
  · rw [e]
    cases l with
    | nil => exact absurd rfl h
    | cons a r => exact List.mem_cons_self
  · exact e
theorem minN_is {l : List Nat} {M : Int} (h1 : M ∈ l.map fun (n : Nat) => (n : Int)) (h2 : ∀ a ∈ l.map (fun (n : Nat) => (n : Int)), M ≤ a) : M = ((minN l : Nat) : Int) := by
  obtain ⟨n, hn, rfl⟩ := List.mem_map.mp h1
  have a2 := (foldl_min_le l (l.headD 0)).2.1 _ hn
  have a3 := minN_mem (List.ne_nil_of_mem hn)
  have := h2 _ (List.mem_map.mpr ⟨_, a3, rfl⟩)
  unfold minN at *
  omega
theorem rsN_len (l : List Nat) : (rsN l).length ≤ l.length := by
  unfold rsN
  rw [List.length_reverse]
  exact Nat.le_trans (List.Sublist.length_le (List.dropWhile_sublist _)) (by rw [List.length_reverse]; exact Nat.le_refl _)
def rowsOf (ls : List (List Nat)) : List (List (List Nat)) := ls.map (splitN 124)
def readTold (ls : List (List Nat)) : Dt := .l ((rowsOf ls).map fun r => .l (r.map toldD))
end L2
/-! ### what is shown is a sheet, and is read back -/
namespace L2
set_option linter.all false
theorem okc_col {c : Nat} (h : Cb.okc c) : Cb.colSign c = true := by
  unfold Cb.okc at h
  unfold Cb.colSign
  exact decide_eq_true ⟨h.1, by omega, h.2.2.1, h.2.2.2, by omega⟩
theorem isCutN_snoc (l : List Nat) (c : Nat) : isCutN (l ++ [c]) = (c == 126) := by
  unfold isCutN
  rw [List.getLast?_append]
  simp
theorem rsN_snoc {l : List Nat} {c : Nat} (h : c ≠ 32) : rsN (l ++ [c]) = l ++ [c] := by
  unfold rsN
  rw [List.reverse_append]
  show ((c :: l.reverse).dropWhile _).reverse = _
  rw [List.dropWhile_cons_of_neg (by simpa using h)]
  simp
theorem rsN_blank (l : List Nat) : rsN (l ++ [32]) = rsN l := by
  unfold rsN
  rw [List.reverse_append]
  show ((32 :: l.reverse).dropWhile _).reverse = _
  rw [List.dropWhile_cons_of_pos (by simp)]
theorem rsN_fill (l : List Nat) : ∀ n : Nat, rsN (l ++ List.replicate n 32) = rsN l
  | 0 => by simp
  | n + 1 => by
    rw [List.replicate_succ', ← List.append_assoc, rsN_blank, rsN_fill l n]
theorem rsN_self {l : List Nat} (h : Cb.ends32 l = false) : rsN l = l := by
  rcases List.eq_nil_or_concat l with rfl | ⟨r, c, rfl⟩
  · rfl
  · rw [List.concat_eq_append] at h ⊢
    rw [Cb.ends32_snoc] at h
    exact rsN_snoc (by simpa using h)
theorem good_cut {l : List Nat} (h : ∀ c ∈ l, Cb.okc c) : isCutN l = false := by
  rcases List.eq_nil_or_concat l with rfl | ⟨r, c, rfl⟩
  · rfl
  · rw [List.concat_eq_append] at h ⊢
    rw [isCutN_snoc]
    have := h c (by simp)
    unfold Cb.okc at this
    simp
    omega
theorem fill_ok {f : List Nat} (h : ∀ c ∈ f, Cb.okc c) (n : Nat) : ∀ c ∈ f ++ List.replicate n 32, Cb.okc c := fun c hc => by
  rcases List.mem_append.mp hc with hc | hc
  · exact h c hc
  · rw [List.mem_replicate] at hc
    rw [hc.2]
    unfold Cb.okc
    omega
/-- what a cell of a good field is -/
theorem cell_facts {f : List Nat} {w cap : Nat} (hg : Cb.Good f) (h1 : 1 ≤ w) (hw : w ≤ cap) (hc : w < f.length → w = cap) (h2 : 2 ≤ cap) :
    (isCutN (Cb.cellOf f w) = decide (cap < f.length)) ∧ isCellN (Cb.cellOf f w) = true ∧ 124 ∉ Cb.cellOf f w ∧ toldD (Cb.cellOf f w) = tellD cap f ∧ (rsN (Cb.cellOf f w)).length = min w f.length := by
  by_cases h : w < f.length
  · have ew := hc h
    subst ew
    have e : Cb.cellOf f w = f.take (w - 1) ++ [126] := if_pos h
    have hcut : isCutN (f.take (w - 1) ++ [126]) = true := by rw [isCutN_snoc]; rfl
    rw [e]
    refine ⟨by rw [hcut, decide_eq_true h], ?_, ?_, ?_, ?_⟩
    · unfold isCellN cellSigns
      rw [if_pos hcut, List.dropLast_concat]
      have hne : f.take (w - 1) ≠ [] := fun z => by
        have := congrArg List.length z
        rw [List.length_take] at this
        rw [List.length_nil] at this
        omega
      rw [decide_eq_false hne]
      simp only [Bool.not_false, Bool.true_and, List.all_eq_true]
      exact fun c hc => okc_col (hg.1 c (List.mem_of_mem_take hc))
    · intro z
      rcases List.mem_append.mp z with z | z
      · have := hg.1 _ (List.mem_of_mem_take z)
        unfold Cb.okc at this
        omega
      · simp at z
    · unfold toldD tellD
      rw [if_pos hcut, if_pos h, List.dropLast_concat]
    · rw [rsN_snoc (by decide), List.length_append, List.length_take]
      simp
      omega
  · have e : Cb.cellOf f w = f ++ List.replicate (w - f.length) 32 := if_neg h
    have hok := fill_ok hg.1 (w - f.length)
    have hcut : isCutN (f ++ List.replicate (w - f.length) 32) = false := good_cut hok
    have hn : ¬ cap < f.length := by omega
    rw [e]
    refine ⟨by rw [hcut, decide_eq_false hn], ?_, ?_, ?_, ?_⟩
    · unfold isCellN cellSigns
      rw [hcut, if_neg Bool.false_ne_true]
      have hne : f ++ List.replicate (w - f.length) 32 ≠ [] := fun z => by
        have := congrArg List.length z
        rw [List.length_append, List.length_replicate] at this
        rw [List.length_nil] at this
        omega
      rw [decide_eq_false hne]
      simp only [Bool.not_false, Bool.true_and, List.all_eq_true]
      exact fun c hc => okc_col (hok c hc)
    · intro z
      have := hok _ z
      unfold Cb.okc at this
      omega
    · unfold toldD tellD
      rw [hcut, if_neg Bool.false_ne_true, if_neg hn, rsN_fill, rsN_self hg.2]
    · rw [rsN_fill, rsN_self hg.2]
      omega
section
variable {t : List (List (List Nat))} {cols cap : Nat}
theorem cell_at (ht : Cb.TableOk cols 63 60 t) (h2 : 2 ≤ cap) {r : List (List Nat)} (hr : r ∈ t) {k : Nat} (hk : k < r.length) :
    (isCutN (Cb.cellOf (r.getD k []) (Cb.colWidth t cap k)) = decide (cap < (r.getD k []).length)) ∧ isCellN (Cb.cellOf (r.getD k []) (Cb.colWidth t cap k)) = true ∧ 124 ∉ Cb.cellOf (r.getD k []) (Cb.colWidth t cap k) ∧
      toldD (Cb.cellOf (r.getD k []) (Cb.colWidth t cap k)) = tellD cap (r.getD k []) ∧ (rsN (Cb.cellOf (r.getD k []) (Cb.colWidth t cap k))).length = min (Cb.colWidth t cap k) (r.getD k []).length := by
  have e : r.getD k [] = r[k] := by rw [List.getD_eq_getElem?_getD, List.getElem?_eq_getElem hk] <;> rfl
  have hg : Cb.Good (r.getD k []) := by rw [e]; exact ((ht.rows r hr).2 _ (List.getElem_mem hk)).1
  refine cell_facts hg (Cb.colWidth_pos t h2 k) (Nat.min_le_left _ _) (fun h => ?_) h2
  have := Cb.longest_mem k hr
  unfold Cb.colWidth at h ⊢
  omega
theorem rowsOf_shown (ht : Cb.TableOk cols 63 60 t) (hc : 1 ≤ cols) (h2 : 2 ≤ cap) : rowsOf (Cb.shownOf t cap) = t.map (Cb.cellsOf t cap) := by
  unfold rowsOf Cb.shownOf
  rw [List.map_map]
  refine List.map_congr_left fun r hr => ?_
  have hrl := (ht.rows r hr).1
  show splitN 124 (joinN [124] (Cb.cellsOf t cap r)) = _
  refine splitN_join 124 _ (fun z => ?_) fun q hq => ?_
  · have := congrArg List.length z
    rw [Cb.cellsOf_len] at this
    rw [List.length_nil] at this
    omega
  · unfold Cb.cellsOf at hq
    obtain ⟨k, hk, rfl⟩ := List.mem_map.mp hq
    exact (cell_at ht h2 hr (List.mem_range.mp hk)).2.2.1
theorem told_shown (ht : Cb.TableOk cols 63 60 t) (hc : 1 ≤ cols) (h2 : 2 ≤ cap) : readTold (Cb.shownOf t cap) = readD t cap := by
  unfold readTold readD
  rw [rowsOf_shown ht hc h2, List.map_map]
  congr 1
  refine List.map_congr_left fun r hr => ?_
  show Dt.l ((Cb.cellsOf t cap r).map toldD) = _
  congr 1
  unfold Cb.cellsOf
  rw [List.map_map, ← range_map r [] (tellD cap)]
  exact List.map_congr_left fun k hk => (cell_at ht h2 hr (List.mem_range.mp hk)).2.2.2.1
theorem cols_shown (hc : 1 ≤ cols) (ht : Cb.TableOk cols 63 60 t) : colsOf (t.map (Cb.cellsOf t cap)) cols = if t = [] then [] else (List.range cols).map fun k => t.map fun r => Cb.cellOf (r.getD k []) (Cb.colWidth t cap k) := by
  unfold colsOf
  by_cases h : t = []
  · subst h; rfl
  · rw [if_neg h, if_neg (fun z => h (List.map_eq_nil_iff.mp z))]
    refine List.map_congr_left fun k hk => ?_
    rw [List.map_map]
    refine List.map_congr_left fun r hr => ?_
    have hk' : k < (Cb.cellsOf t cap r).length := by rw [Cb.cellsOf_len, (ht.rows r hr).1]; exact List.mem_range.mp hk
    show (Cb.cellsOf t cap r).getD k [] = _
    rw [List.getD_eq_getElem?_getD, List.getElem?_eq_getElem hk', Cb.cellsOf_get]
    rfl
theorem shown_sheet (ht : Cb.TableOk cols 63 60 t) (hc : 1 ≤ cols) (h2 : 2 ≤ cap) : isSheetN (rowsOf (Cb.shownOf t cap)) = true := by
  rw [rowsOf_shown ht hc h2]
  by_cases h : t = []
  · subst h; rfl
  obtain ⟨r0, tr, rfl⟩ : ∃ r0 tr, t = r0 :: tr := by
    cases t with
    | nil => exact absurd rfl h
    | cons a b => exact ⟨a, b, rfl⟩
  generalize hT : r0 :: tr = t at *
  have hr0 : r0 ∈ t := by rw [← hT]; exact List.mem_cons_self
  have hhead : ((t.map (Cb.cellsOf t cap)).headD []).length = cols := by
    have : t.map (Cb.cellsOf t cap) = Cb.cellsOf t cap r0 :: tr.map (Cb.cellsOf t cap) := by rw [← hT]; rfl
    rw [this]
    show (Cb.cellsOf t cap r0).length = cols
    rw [Cb.cellsOf_len]
    exact (ht.rows r0 hr0).1
  unfold isSheetN
  rw [hhead, cols_shown hc ht, if_neg h]
  have a1 : ((t.map (Cb.cellsOf t cap)).all fun r => r.all isCellN) = true := by
    rw [List.all_eq_true]
    intro cs hcs
    obtain ⟨r, hr, rfl⟩ := List.mem_map.mp hcs
    rw [List.all_eq_true]
    intro c hcc
    unfold Cb.cellsOf at hcc
    obtain ⟨k, hk, rfl⟩ := List.mem_map.mp hcc
    exact (cell_at ht h2 hr (List.mem_range.mp hk)).2.1
  have a2 : ((t.map (Cb.cellsOf t cap)).any fun r => !decide (r.length = cols)) = false := by
    rw [List.any_eq_false]
    intro cs hcs
    obtain ⟨r, hr, rfl⟩ := List.mem_map.mp hcs
    rw [Cb.cellsOf_len, (ht.rows r hr).1]
    simp
  have hw : ∀ k, widthN (t.map fun r => Cb.cellOf (r.getD k []) (Cb.colWidth t cap k)) = Cb.colWidth t cap k := fun k => by
    unfold widthN
    have : (t.map fun r => Cb.cellOf (r.getD k []) (Cb.colWidth t cap k)) = Cb.cellOf (r0.getD k []) (Cb.colWidth t cap k) :: tr.map fun r => Cb.cellOf (r.getD k []) (Cb.colWidth t cap k) := by
      conv => lhs; rw [← hT]
      rw [List.map_cons, hT]
    rw [this]
    show (Cb.cellOf _ _).length = _
    exact Cb.cellOf_len (Cb.colWidth_pos t h2 k)
  have a3 : ((List.range cols).map fun k => t.map fun r => Cb.cellOf (r.getD k []) (Cb.colWidth t cap k)).all isColN = true := by
    rw [List.all_eq_true]
    intro c hcm
    obtain ⟨k, hk, rfl⟩ := List.mem_map.mp hcm
    have hk' := List.mem_range.mp hk
    unfold isColN
    rw [hw k]
    have b1 : ((t.map fun r => Cb.cellOf (r.getD k []) (Cb.colWidth t cap k)).any fun l => !decide (l.length = Cb.colWidth t cap k)) = false := by
      rw [List.any_eq_false]
      intro l hl
      obtain ⟨r, hr, rfl⟩ := List.mem_map.mp hl
      rw [Cb.cellOf_len (Cb.colWidth_pos t h2 k)]
      simp
    rw [b1]
    simp only [Bool.not_false, Bool.true_and]
    refine decide_eq_true ?_
    have hf : ∀ r ∈ t, (rsN (Cb.cellOf (r.getD k []) (Cb.colWidth t cap k))).length = min (Cb.colWidth t cap k) (r.getD k []).length := fun r hr => (cell_at ht h2 hr (by rw [(ht.rows r hr).1]; exact hk')).2.2.2.2
    unfold longR
    rw [List.map_map]
    have e : (t.map ((fun l => (rsN l).length) ∘ fun r => Cb.cellOf (r.getD k []) (Cb.colWidth t cap k))) = t.map fun r => min (Cb.colWidth t cap k) (r.getD k []).length := List.map_congr_left fun r hr => hf r hr
    rw [e]
    have m := Cb.foldl_max_le (t.map fun r => min (Cb.colWidth t cap k) (r.getD k []).length) 1
    generalize (t.map fun r => min (Cb.colWidth t cap k) (r.getD k []).length).foldl max 1 = M at m
    obtain ⟨m1, m2, m3⟩ := m
    have p1 := Cb.colWidth_pos t h2 k
    have up : M ≤ Cb.colWidth t cap k := by
      rcases m3 with m3 | m3
      · omega
      · obtain ⟨r, hr, e⟩ := List.mem_map.mp m3
        omega
    have lo : Cb.colWidth t cap k ≤ M := by
      rcases Cb.longest_is t k with q | ⟨r, hr, q⟩
      · unfold Cb.colWidth
        omega
      · have := m2 _ (List.mem_map.mpr ⟨r, hr, rfl⟩)
        unfold Cb.colWidth at this ⊢
        omega
    omega
  have a4 : shareN ((List.range cols).map fun k => t.map fun r => Cb.cellOf (r.getD k []) (Cb.colWidth t cap k)) = true := by
    unfold shareN
    rw [Bool.or_eq_true]
    by_cases hn : (((List.range cols).map fun k => t.map fun r => Cb.cellOf (r.getD k []) (Cb.colWidth t cap k)).filter hasCutN) = []
    · exact .inl (decide_eq_true hn)
    · refine .inr (decide_eq_true ?_)
      have hcap : ∀ c ∈ (((List.range cols).map fun k => t.map fun r => Cb.cellOf (r.getD k []) (Cb.colWidth t cap k)).filter hasCutN), widthN c = cap := fun c hcm => by
        obtain ⟨h1, hcut⟩ := List.mem_filter.mp hcm
        obtain ⟨k, hk, rfl⟩ := List.mem_map.mp h1
        have hk' := List.mem_range.mp hk
        rw [hw k]
        unfold hasCutN at hcut
        rw [List.any_eq_true] at hcut
        obtain ⟨l, hl, hlc⟩ := hcut
        obtain ⟨r, hr, rfl⟩ := List.mem_map.mp hl
        rw [(cell_at ht h2 hr (by rw [(ht.rows r hr).1]; exact hk')).1] at hlc
        have := of_decide_eq_true hlc
        have := Cb.longest_mem k hr
        unfold Cb.colWidth
        omega
      have hmin : minN ((((List.range cols).map fun k => t.map fun r => Cb.cellOf (r.getD k []) (Cb.colWidth t cap k)).filter hasCutN).map widthN) = cap := by
        have := minN_mem (l := ((((List.range cols).map fun k => t.map fun r => Cb.cellOf (r.getD k []) (Cb.colWidth t cap k)).filter hasCutN).map widthN)) (fun z => hn (List.map_eq_nil_iff.mp z))
        obtain ⟨c, hcm, e⟩ := List.mem_map.mp this
        rw [← e]
        exact hcap c hcm
      rw [hmin]
      have m := Cb.foldl_max_le (((List.range cols).map fun k => t.map fun r => Cb.cellOf (r.getD k []) (Cb.colWidth t cap k)).map widthN) 0
      unfold maxN
      obtain ⟨m1, m2, m3⟩ := m
      obtain ⟨c, hcm⟩ := List.exists_mem_of_ne_nil _ hn
      have x1 := m2 _ (List.mem_map.mpr ⟨c, (List.mem_filter.mp hcm).1, rfl⟩)
      rw [hcap c hcm] at x1
      rcases m3 with m3 | m3
      · omega
      · obtain ⟨c', hc', e⟩ := List.mem_map.mp m3
        obtain ⟨k, hk, rfl⟩ := List.mem_map.mp hc'
        rw [hw k] at e
        have : Cb.colWidth t cap k ≤ cap := Nat.min_le_left _ _
        omega
  rw [a1, a2, a3, a4]
  rfl
end
end L2
/-! ### exceptions of own classes over the layer -/
namespace L2
open PySem PySem.Spec PyProof.Rows
set_option linter.all false
/-- what lies behind an exception: B is the heap as it was, but for the frames -/
structure FlyB (P : Program) (w : World) (outer : List Env) (H H' : Hp) (h B h' : Heap) : Prop where
  keep : ∀ b o, h.get? b = some o → H b = none → b ∉ frs outer → B.get? b = some o
  slot : ∀ b o, h.get? b = some o → b ∈ frs outer → ∃ sl, h'.get? b = some { o with slots := sl }
  there : ∀ b o, h.get? b = some o → b ∉ frs outer → ∃ o', B.get? b = some o'
  free : ∀ b o, h.get? b = some o → H b = none → H' b = none
  tups : ∀ b xs, H b = some (.tup xs) → H' b = some (.tup xs)
  frzs : ∀ b o u, H b = some (.frz o u) → H' b = some (.frz o u)
  tbls : ∀ b ps, H b = some (.tbl ps) → ∃ more, H' b = some (.tbl (ps ++ more))
  hok : HOk P w H' B
def CXf (P : Program) (w : World) : CXT := fun outer H s E e s' => ∃ (ea : Addr) (C a0 : Value) (B : Heap) (H' : Hp), e = .ref ea ∧ s'.os = s.os ∧ AllBare s'.gens ∧ Heap.FlyingW B outer ea C a0 s'.heap ∧ FlyB P w outer H H' s.heap B s'.heap ∧ E C none H'
section
variable {X : Cx} {pins : List (Addr × Obj)} {σ : St} {H : Hp} {s s' : Shared}
theorem slot_up {h h' : Heap} {b : Addr} {o : Obj} (u : h.UpToSlots h') (e : h.get? b = some o) (n : ∀ vs, o.data ≠ .fields vs) : ∃ sl, h'.get? b = some { o with slots := sl } := u b o e n
theorem not_stack (I : Inv X pins σ H s) {b : Addr} {o : Obj} (e : X.s₀.heap.get? b = some o) (hb : b ∉ X.fs) : b ∉ frs X.stack := fun z => by
  rcases List.mem_cons.mp (I.stkSub b z) with q | q
  · rw [q] at e
    exact absurd (Nat.lt_of_lt_of_le (Heap.lt_size e) I.ok.above) (Nat.lt_irrefl _)
  · exact hb q
/-- the heap but for the frames that run -/
theorem fun_hidden (I : Inv X pins σ H s) : s.heap.FunFrames (PySem.W.hideAll s.heap (frs X.stack)) X.stack :=
  PySem.W.funFrames_hide I.stack fun env he b hb => List.mem_filterMap.mpr ⟨env, he, hb⟩
theorem hok_hidden (I : Inv X pins σ H s) : HOk X.prog X.w H (PySem.W.hideAll s.heap (frs X.stack)) := fun a o e =>
  (I.hok a o e).stay (fun b u hb q => PySem.W.hideAll_get _ q fun z => by
    have n := I.stkFree b z
    rcases hb with rfl | hb
    · rw [n] at e; cases e
    · rw [n] at hb; cases hb) (fun _ q => q) fun _ _ q => q
/-- an exception just made leaves its def's frame -/
theorem fly_made {M : Model} {E' : Value → Shared → Prop} {E : XK} {h' : Heap} {e : Addr} {C : Value} {vs : List Value} (I : Inv X pins σ H s) (hst : X.stack = X.env :: X.outer) (hf : X.env.frame = some X.env.locals) (hex : X.ex = [])
    (hx : Heap.MadeExcOf s.heap h' e C vs) (q : E C none H) : wpAny M X.A (leaving X.env (.ref e)) (fun _ s'' => CXf X.prog X.w X.outer X.H₀ X.s₀ E (.ref e) s'') E' { s with heap := h' } := by
  have fr := fun_hidden I
  rw [hst] at fr
  have hfr : X.A.frames = some (X.env :: X.outer) := by rw [I.ok.frames, hst]
  have nex : ∀ b, b ∉ X.ex := fun b z => by rw [hex] at z; cases z
  refine wpAny_leaves_madeW (base := PySem.W.hideAll s.heap (frs (X.env :: X.outer))) hfr hf (fun b o z => PySem.W.of_hideAll _ z) fr hx fun h'' t x1 x2 x3 x4 => ?_
  refine ⟨e, C, .ref t, _, H, rfl, I.os, I.bare, x1, ⟨fun b o z n hb => ?_, fun b o z hb => ?_, fun b o z hb => ?_, fun b o z n => I.base.free b o z n (nex b), I.base.tups, I.base.frzs, I.base.tbls, ?_⟩, q⟩
  · exact PySem.W.hideAll_get _ (I.base.keep b o z n hb (nex b)) (by rw [← hst]; exact not_stack I z hb)
  · obtain ⟨sl, z1⟩ := I.base.slot b o z (I.ok.frf b hb) hb (nex b)
    obtain ⟨_, o', z2, nf⟩ := I.ok.funs.mem hb
    rw [z] at z2
    cases z2
    obtain ⟨sl', z3⟩ := x4 b _ (hx.keeps _ _ z1) nf
    exact ⟨sl', z3⟩
  · obtain ⟨o', z1⟩ := I.base.there b o z (nex b)
    exact ⟨o', PySem.W.hideAll_get _ z1 (by rw [← hst]; exact not_stack I z hb)⟩
  · have := hok_hidden I
    rw [hst] at this
    exact this
/-- a callee's exception leaves this def's frame too -/
theorem fly_on {M : Model} {E' : Value → Shared → Prop} {E F : XK} {e : Value} (I : Inv X pins σ H s) (hst : X.stack = X.env :: X.outer) (hf : X.env.frame = some X.env.locals) (hex : X.ex = []) (hE : ∀ C d H', E C d H' → F C d H')
    (h : CXf X.prog X.w X.stack H s E e s') : wpAny M X.A (leaving X.env e) (fun _ s'' => CXf X.prog X.w X.outer X.H₀ X.s₀ F e s'') E' s' := by
  obtain ⟨ea, C, a0, B, H', rfl, os, bare, fl, fb, q⟩ := h
  rw [hst] at fl
  have hfr : X.A.frames = some (X.env :: X.outer) := by rw [I.ok.frames, hst]
  have nex : ∀ b, b ∉ X.ex := fun b z => by rw [hex] at z; cases z
  refine wpAny_leaves_onW hfr hf fl fun h'' fl' up => ⟨ea, C, a0, B, H', rfl, os.trans I.os, bare, fl', ⟨fun b o z n hb => ?_, fun b o z hb => ?_, fun b o z hb => ?_, fun b o z n => ?_, fun b xs z => fb.tups b xs (I.base.tups b xs z), fun b o u z => fb.frzs b o u (I.base.frzs b o u z), fun b ps z => ?_, fb.hok⟩, hE _ _ _ q⟩
  · exact fb.keep b o (I.base.keep b o z n hb (nex b)) (I.base.free b o z n (nex b)) (not_stack I z hb)
  · obtain ⟨sl, z1⟩ := I.base.slot b o z (I.ok.frf b hb) hb (nex b)
    obtain ⟨_, o', z2, nf⟩ := I.ok.funs.mem hb
    rw [z] at z2
    cases z2
    obtain ⟨sl2, z3⟩ := fb.slot b _ z1 (by rw [hst]; show b ∈ (X.env :: X.outer).filterMap (·.frame); rw [List.filterMap_cons, hf]; exact List.mem_cons_of_mem _ hb)
    obtain ⟨sl3, z4⟩ := up b _ z3 nf
    exact ⟨sl3, z4⟩
  · obtain ⟨o', z1⟩ := I.base.there b o z (nex b)
    exact fb.there b o' z1 (not_stack I z hb)
  · obtain ⟨o', z1⟩ := I.base.there b o z (nex b)
    exact fb.free b o' z1 (I.base.free b o z n (nex b))
  · obtain ⟨m1, e1⟩ := I.base.tbls b ps z
    obtain ⟨m2, e2⟩ := fb.tbls b _ e1
    exact ⟨m1 ++ m2, by rw [e2, Array.append_assoc]⟩
end
section
variable {P : Program} {w : World} {K : PySem.W.Frag} {mg : Str → Option Value} {base : Heap}
theorem passF {N : List Str} {qual : Str} {scope : Scope} {f : Addr} {cd : Value} {A : Around} {outer : List Env} {s : Shared} {H : Hp} {E F : XK} (hE : ∀ C d H', E C d H' → F C d H') : Passes (CXf P w) (cxOf (CXf P w) P w K mg base N qual scope f cd A outer s H F) E :=
  fun pins σ H1 s1 e s' I h => fly_on (X := cxOf (CXf P w) P w K mg base N qual scope f cd A outer s H F) I rfl rfl rfl hE h
/-- THE RULE for a def that may raise -/
theorem Fun.okX {x qual : Str} {st : Stmt} {f : Addr} {fd : FuncData} {N ps : List Str} {k : Nat} {sp : Sp} (F : Fun K x qual st f fd) (S : FnScope N ps (defScope st)) (len : ∀ vs H Q E, sp vs H Q E → vs.length = ps.length)
    (hbody : ∀ (cdv : Value) (A : Around) (outer : List Env) (s : Shared) (H : Hp) (vs : List V) (Q : VK) (E : XK), Room k (A.deeper (envOfC qual (defScope st) s.heap.objs.size f cdv)) → sp vs H Q E →
      ∃ t, PSs (cxOf (CXf P w) P w K mg base N qual (defScope st) f cdv A outer s H E) (defBody st) t ∧ t { nx := fun _ H' => Q .non H', rt := Q } (start N vs) H) : FnOk P w K mg base (CXf P w) (k + 1) f fd ps sp := by
  obtain ⟨oc, od, kV, doc, pm, an, cdv, ct, osl, rfl, lk, hcd⟩ := F.ex
  exact fn_of lk hcd S len fun A outer s H vs Q E hr hsp => hbody cdv A outer s H vs Q E hr hsp
/-- raise C(e, ..), C an own class of exceptions -/
theorem ps_raise {N : List Str} {qual : Str} {scope : Scope} {f : Addr} {cd : Value} {A : Around} {outer : List Env} {s₀ : Shared} {H₀ : Hp} {E : XK} {x : Str} {C : Addr} {B newId initId : String} {bm : List Value} {np cpos pos : Pos} {e₀ : Expr} {rest : List Expr} {t : TA}
    (O : OwnCls x C bm newId mg base) (FB : ExcBaseFacts B newId initId bm) (ha : PA (cxOf (CXf P w) P w K mg base N qual scope f cd A outer s₀ H₀ E) (e₀ :: rest) t)
    (hg : Gl (cxOf (CXf P w) P w K mg base N qual scope f cd A outer s₀ H₀ E) x) (hd : (x == ("__debug__" : Str)) = false := by decide)
    (he : starEach (e₀ :: rest) (envOfC qual scope s₀.heap.objs.size f cd) = (false, eval e₀ (envOfC qual scope s₀.heap.objs.size f cd)) :: starEach rest (envOfC qual scope s₀.heap.objs.size f cd) := by rfl)
    (hplain : (backTo cpos (starEach rest (envOfC qual scope s₀.heap.objs.size f cd))).any (·.1) = false := by rfl) :
    PS (cxOf (CXf P w) P w K mg base N qual scope f cd A outer s₀ H₀ E) (.Raise (some (.Call (.Name x np) (e₀ :: rest) [] cpos)) none pos) (fun _ σ H => t σ H fun vs H1 => vs.length ≤ sizeLine ∧ E (.ref C) none H1) := by
  intro pins s σ H D I h
  obtain ⟨tl, Nn, nm, q, bs, hdct, sn, sub, ab, col, dd, k0, k1, k2, k3, k5, mN, hC, hN, hni, T⟩ := O.obj
  refine wpAny_Raise_call_subT (C := C) (nm := nm) (q := q) (N := Nn) (bs := bs) (bm := tl) (hdct := hdct) (sn := sn) (sub := sub) (ab := ab) (col := col) (dd := dd) (k0 := k0) (k1 := k1) (k2 := k2) (k3 := k3) (k5 := k5)
    FB (mN := mN) (T.hasType FB.hasBase) (I.ok.hd rfl) (by
      show (backTo cpos (starEach (e₀ :: rest) (envOfC qual scope s₀.heap.objs.size f cd))).any (·.1) = false
      rw [he]
      show (false || (backTo cpos (starEach rest (envOfC qual scope s₀.heap.objs.size f cd))).any (·.1)) = false
      rw [hplain]
      rfl) hni (ld_glob I hg O.bound ⟨rfl, ?_⟩ hd)
  have ha' := ha cpos pins s σ H _ I h
  change wpAny _ _ (evalArgs (.ref C) true (backTo cpos (starEach (e₀ :: rest) (envOfC qual scope s₀.heap.objs.size f cd))) []) _ _ _
  change wpAny _ _ (spliced (backTo cpos (starEach (e₀ :: rest) (envOfC qual scope s₀.heap.objs.size f cd)))) _ _ _ at ha'
  rw [he] at ha' ⊢
  refine Calls.evalArgs_plain (thn ha' fun us s1 ⟨vs, H1, I1, r1, hz, q1⟩ => ⟨rfl, ?_, I1.bk _ _ hC, hN.keeps I1.bk, T.keeps I1.bk, fun h' e hx => ?_⟩)
  · show us.length ≤ sizeLine
    rw [← r1.length]
    exact hz
  · exact fly_made I1 rfl rfl rfl hx q1
end
end L2
/-! ### try, except over the layer -/
namespace L2
open PySem PySem.Spec PyProof.Rows
set_option linter.all false
theorem ObjOk.has {P : Program} {w : World} {H : Hp} {h : Heap} {a : Addr} {o : HO} (x : ObjOk P w H h a o) : ∃ ob, h.get? a = some ob := by
  cases o with
  | lst xs => obtain ⟨z, its, n, r, e⟩ := x; exact ⟨_, e⟩
  | tup xs => obtain ⟨z, its, r, ob, e, c⟩ := x; exact ⟨_, e⟩
  | dK kvs => obtain ⟨z, y, vs, r, ob, es, ep, e, c⟩ := x; exact ⟨_, e⟩
  | dT kvs => obtain ⟨z, y, xs, r, ob, es, ep, e, c⟩ := x; exact ⟨_, e⟩
  | set S n => obtain ⟨ob, es, ep, t, e, c⟩ := x; exact ⟨_, e⟩
  | ins C dx fs => obtain ⟨d, z, ne, e, r⟩ := x; exact ⟨_, e⟩
  | own y => obtain ⟨ob, e⟩ := x; exact ⟨_, e⟩
  | xd fs => obtain ⟨mA, ⟨od, es, ep, e, c⟩, r⟩ := x; exact ⟨_, e⟩
  | rng lo hi => obtain ⟨t, u, v, e⟩ := x; exact ⟨_, e⟩
  | frz ob u => obtain ⟨e, q⟩ := x; exact ⟨_, e⟩
  | tbl ps => exact ⟨_, (show h.get? a = some { cls := .none, data := .fields ps } from x)⟩
  | met f y => exact ⟨_, (show h.get? a = some (PySem.W.methodObj (.ref f) (.ref y)) from x)⟩
  | ext φ => obtain ⟨p, ⟨o, e⟩, st⟩ := x; exact ⟨_, e⟩
/-- an exception flies in this body: where it lands the state is σ, H' -/
def FL (X : Cx) (pins : List (Addr × Obj)) (σ : St) (Φ : Addr → Value → Hp → Prop) (e : Value) (s' : Shared) : Prop :=
  ∃ (ea : Addr) (C a0 : Value) (B : Heap) (H' : Hp), e = .ref ea ∧ Heap.FlyingW B X.stack ea C a0 s'.heap ∧ (∀ h6, Heap.FlyingW B X.stack ea C a0 h6 → s'.heap.UpToSlots h6 → Inv X pins σ H' { s' with heap := h6 }) ∧ H' ea = none ∧ Φ ea C H'
section
variable {X : Cx} {pins : List (Addr × Obj)} {σ : St} {H : Hp} {s s' : Shared}
theorem fl_of {E : XK} {e : Value} (I : Inv X pins σ H s) (h : CXf X.prog X.w X.stack H s E e s') : FL X pins σ (fun _ C H' => E C none H') e s' := by
  obtain ⟨ea, C, a0, B, H', rfl, os, bare, fl, fb, q⟩ := h
  refine ⟨ea, C, a0, B, H', rfl, fl, fun h6 fl6 up => ?_, ?_, q⟩
  · refine I.call' (s' := { s' with heap := h6 }) (ch := []) os ⟨fun b o z n hb _ => fl6.1 b o (fb.keep b o z n hb), fun b o z n hb _ => ?_, fun b o z n _ => fb.free b o z n, fun b o z _ => ?_, fb.tups, fb.frzs, fb.tbls⟩ (fb.hok.kept fun b u z => fl6.1 b u z) bare (fun b z => nomatch z)
    · obtain ⟨_, o', z2, nf⟩ := I.stack.mem hb
      rw [z] at z2
      cases z2
      obtain ⟨sl, z3⟩ := fb.slot b o z hb
      obtain ⟨sl2, z4⟩ := up b _ z3 nf
      exact ⟨sl2, z4⟩
    · by_cases hb : b ∈ frs X.stack
      · obtain ⟨_, o', z2, nf⟩ := I.stack.mem hb
        rw [z] at z2
        cases z2
        obtain ⟨sl, z3⟩ := fb.slot b o z hb
        obtain ⟨sl2, z4⟩ := up b _ z3 nf
        exact ⟨_, z4⟩
      · obtain ⟨o', z1⟩ := fb.there b o z hb
        exact ⟨o', fl6.1 b o' z1⟩
  · cases z : H' ea with
    | none => rfl
    | some u =>
      obtain ⟨ob, z2⟩ := (fb.hok ea u z).has
      rw [fl.2.1] at z2
      cases z2
end
/-- the context of an except suite -/
def Cx.caught (X : Cx) (ea : Addr) (pl : List (Addr × Obj)) : Cx := { X with A := X.A.mark (some (.ref ea)), calm := false, pn := X.pn ++ pl, xe := fun _ _ => False }
section
variable {X : Cx} {pins pl : List (Addr × Obj)} {σ : St} {H : Hp} {s : Shared} {ea : Addr}
theorem Inv.caught (I : Inv X (pl ++ pins) σ H s) : Inv (X.caught ea pl) pins σ H s :=
  ⟨⟨I.ok.mod, I.ok.kind, I.ok.glob, I.ok.blt, I.ok.above, I.ok.inj, I.ok.has, I.ok.cab, fun z => (Bool.false_ne_true z).elim, I.ok.frames, I.ok.stk, I.ok.exf, I.ok.bs, I.ok.bsz, I.ok.noex, I.ok.exfs, I.ok.funs, I.ok.frf⟩,
    I.os, I.bare, I.base, I.loc, I.cell, I.free, I.freeC, fun p hp => I.pin p (by
      have hp' : p ∈ (X.pn ++ pl) ++ pins := hp
      rw [List.append_assoc] at hp'
      exact hp'), I.hok, I.len⟩
theorem Inv.uncaught (okX : X.Ok) (I : Inv (X.caught ea pl) pins σ H s) : Inv X pins σ H s :=
  ⟨okX, I.os, I.bare, I.base, I.loc, I.cell, I.free, I.freeC, fun p hp => I.pin p (by
      show p ∈ (X.pn ++ pl) ++ pins
      rcases List.mem_append.mp hp with z | z
      · exact List.mem_append_left _ (List.mem_append_left _ z)
      · exact List.mem_append_right _ z), I.hok, I.len⟩
theorem SP.uncaught {D : Ends} {f : Flow} (okX : X.Ok) (h : SP (X.caught ea pl) pins D f s) : SP X pins D f s := by
  cases f with
  | next => obtain ⟨σ', H', I, q⟩ := h; exact ⟨σ', H', I.uncaught okX, q⟩
  | brk => obtain ⟨σ', H', I, q⟩ := h; exact ⟨σ', H', I.uncaught okX, q⟩
  | cont => obtain ⟨σ', H', I, q⟩ := h; exact ⟨σ', H', I.uncaught okX, q⟩
  | ret u => obtain ⟨v, σ', H', I, r, q⟩ := h; exact ⟨v, σ', H', I.uncaught okX, r, q⟩
/-- the name of the exception goes -/
theorem name_goes {M : Model} {A : Around} {E : Value → Shared → Prop} {i : Nat} {x : Str} {pos : Pos} {Q : Unit → Shared → Prop} (I : Inv X pins σ H s) (hN : X.N.Nodup) (hi : X.N[i]? = some x) (hk : X.env.scope.names.lookup x = some .local)
    (h : ∀ s', Inv X pins (σ.set i none) H s' → Q () s') : wpAny M A (do bindName X.env x .none; unbindBehindTheSuite X.env x pos) Q E s := by
  obtain ⟨m, hn, hl⟩ := id I.loc
  have hcls : (X.env.scope.kind == .class || (X.env.scope.kind == .module && X.env.locals != X.env.globals)) = false := by rw [I.ok.kind]; rfl
  have hiσ : i < σ.length := by rw [I.len]; exact (List.getElem?_eq_some_iff.mp hi).1
  refine wpAny_nameGoes_keeps hk hn hcls fun h' v hn' hs => ?_
  obtain ⟨oL, _, _, hoL, _⟩ := id hn
  have tracked : HOk X.prog X.w H h' := fun b ob e => by
    refine (I.hok b ob e).stay (fun c w' hc q => (hs.2 c ?_).trans q) (fun _ q => q) fun _ _ q => q
    rintro rfl
    rcases hc with z | z
    · rw [← z, I.free] at e; cases e
    · rw [I.free] at z; cases z
  refine h { s with heap := h', toks := s.toks + 1 } ⟨I.ok, I.os, I.bare, ⟨fun b o e n hb hx => ?_, fun b o e n hb hx => ?_, I.base.free, fun b o e hx => ?_, I.base.tups, I.base.frzs, I.base.tbls⟩, ⟨_, hn', fun j y v' e1 e2 e3 => ?_⟩, fun y c e => ?_, I.free, I.freeC, fun p hp => ?_, tracked, by rw [List.length_set]; exact I.len⟩
  · exact (hs.2 b (Nat.ne_of_lt (Nat.lt_of_lt_of_le (Heap.lt_size e) I.ok.above))).trans (I.base.keep b o e n hb hx)
  · obtain ⟨sl, e1⟩ := I.base.slot b o e n hb hx
    exact ⟨sl, (hs.2 b (Nat.ne_of_lt (Nat.lt_of_lt_of_le (Heap.lt_size e) I.ok.above))).trans e1⟩
  · obtain ⟨o', e1⟩ := I.base.there b o e hx
    exact ⟨o', (hs.2 b (Nat.ne_of_lt (Nat.lt_of_lt_of_le (Heap.lt_size e) I.ok.above))).trans e1⟩
  · by_cases hj : j = i
    · subst hj
      rw [List.getElem?_set_self hiσ] at e2
      cases e2
    · rw [List.getElem?_set_ne (Ne.symm hj)] at e2
      obtain ⟨u', r', q⟩ := hl j y v' e1 e2 e3
      refine ⟨u', r', ?_⟩
      rcases q with ⟨k, e⟩ | ⟨k, c, e, z⟩
      · refine .inl ⟨k, ?_⟩
        have : y ≠ x := fun e => hj (nodup_ix hN e1 (e ▸ hi))
        simp [this, e]
      · exact .inr ⟨k, c, e, z.sameBut hs (I.cne y c e)⟩
  · obtain ⟨w', z⟩ := I.cell y c e
    exact ⟨w', z.sameBut hs (I.cne y c e)⟩
  · obtain ⟨e, n, ne, nf, d⟩ := I.pin p hp
    exact ⟨(hs.2 p.1 ne).trans e, n, ne, nf, d⟩
end
/-! ### the body of a try -/
abbrev TX := Ends → (St → Addr → Value → Hp → Prop) → St → Hp → Prop
def PSX (X : Cx) (st : List Stmt) (t : TX) : Prop :=
  ∀ (pins : List (Addr × Obj)) (s : Shared) (σ : St) (H : Hp) (D : Ends) (Φ : St → Addr → Value → Hp → Prop), Inv X pins σ H s → t D Φ σ H → wpAny (model X.prog X.w) X.A (execs st X.env) (SP X pins D) (fun e s' => ∃ σ', FL X pins σ' (Φ σ') e s') s
section
variable {X : Cx}
theorem SP.wish' {E : Value → Shared → Prop} {pins : List (Addr × Obj)} {D : Ends} {f : Flow} {s' : Shared} (h : SP (X.wish E) pins D f s') : SP X pins D f s' := h.unwish
/-- if c: .. else: .., c raises nothing -/
theorem psx_if {c : Expr} {a b : List Stmt} {tc : TT} {ta tb : TX} {pos : Pos} (hc : PT X.nox c tc) (ha : PSX X a ta) (hb : PSX X b tb) : PSX X [.If c a b pos] (fun D Φ σ H => tc σ H fun d H1 => if d = true then ta D Φ σ H1 else tb D Φ σ H1) := by
  intro pins s σ H D Φ I h
  refine wpAny_execs_cons (wpAny_mono (Q := fun f s1 => SP X pins D f s1) (wpAny_If (wpAny_mono (hc pins s σ H _ (I.wish _) h) (fun d s1 ⟨H1, I1, q1⟩ => ?_) fun _ _ z => False.elim z)) (fun f s1 q => ?_) fun _ _ z => z)
  · cases d with
    | true => exact ha pins s1 σ H1 D Φ I1.unwish q1
    | false => exact hb pins s1 σ H1 D Φ I1.unwish q1
  · cases f with
    | next => exact wpAny_execs_nil q
    | ret v => exact q
    | brk => exact q
    | cont => exact q
end
section
variable {X : Cx} {k : Nat} {f : Addr} {fd : FuncData} {ps : List Str} {sp : Sp} {x : Str} {p pos spos : Pos} {e : Expr} {es : List Expr} {t : TA}
/-- f(..) as a statement -/
theorem psx_expr (F : FnOk X.prog X.w X.K X.mg X.base (CXf X.prog X.w) k f fd ps sp) (hr : Room k X.A) (hg : Gl X x) (hm : X.mg x = some (.ref f)) (hk : PySem.W.keepIn X.K (.ref f) = true) (hb : Binds X.K fd ps []) (ha : PA X.nox (e :: es) t)
    (hs : swapsWith (.Call (.Name x p) (e :: es) [] pos) none spos.line X.env = pure false := by rfl) (hdb : (x == ("__debug__" : Str)) = false := by decide) (he : starEach (e :: es) X.env = (false, eval e X.env) :: starEach es X.env := by rfl) (hpl : (backTo pos (starEach es X.env)).any (·.1) = false := by rfl) :
    PSX X [.Expr (.Call (.Name x p) (e :: es) [] pos) spos] (fun D Φ σ H => t σ H fun vs H1 => ∃ E : XK, (∀ C d H', E C d H' → ∀ ea, H' ea = none → Φ σ ea C H') ∧ sp vs H1 (fun _ H' => D.nx σ H') E) := by
  intro pins s σ H D Φ I h
  refine wpAny_execs_cons (wpAny_mono (Q := fun f s1 => SP X pins D f s1) (wpAny_Expr_any (Q := fun f s1 => SP X pins D f s1) ?_ I.quiet hs) (fun f s1 q => ?_) fun _ _ z => z)
  · refine wpAny_Call_Name_kw (ld_glob I hg hm ?_ hdb)
    refine PySem.W.callWith_K (h₀ := X.base) I.ok.mod.kin hk (wpAny_mono (ha pos pins s σ H _ (I.wish _) h) (fun us s1 ⟨vs, H1, I1, r, E, hE, q⟩ => ?_) fun _ _ z => False.elim z) he hpl
    have I1 := I1.unwish
    refine ⟨I1.kIn, ?_⟩
    have hl : (us ++ []).length = ps.length := by rw [List.append_nil, ← r.length]; exact F.len _ _ _ _ q
    have hb' := hb s1 us I1.kIn hl
    rw [List.append_nil] at hb'
    refine wpAny_call (codeAny_mono (F.run X.A X.stack s1 H1 ⟨us, []⟩ us vs _ E hr I1.env0 hb' r q) fun r s' hq => ?_)
    cases r with
    | error e =>
      obtain ⟨ea, C, a0, B, H', rfl, a1, a2, a3, a4⟩ := fl_of I1 hq
      exact ⟨σ, ea, C, a0, B, H', rfl, a1, a2, a3, hE _ _ _ a4 _ a3⟩
    | ok fl =>
      cases fl with
      | ret u =>
        obtain ⟨v, H', I2, rv, q2⟩ := I1.after hq
        exact ⟨σ, H', I2, q2⟩
      | next => exact False.elim hq
      | brk => exact False.elim hq
      | cont => exact False.elim hq
  · cases f with
    | next => exact wpAny_execs_nil q
    | ret v => exact q
    | brk => exact q
    | cont => exact q
/-- y = f(..) -/
theorem psx_set {i : Nat} {y : Str} {py : Pos} (hN : X.N.Nodup) (hi : X.N[i]? = some y) (hy : Loc X.env.scope y) (F : FnOk X.prog X.w X.K X.mg X.base (CXf X.prog X.w) k f fd ps sp) (hr : Room k X.A) (hg : Gl X x) (hm : X.mg x = some (.ref f)) (hk : PySem.W.keepIn X.K (.ref f) = true) (hb : Binds X.K fd ps []) (ha : PA X.nox (e :: es) t)
    (hs : swapsWith (.Call (.Name x p) (e :: es) [] pos) (some (.Name y py)) spos.line X.env = pure false := by rfl) (hf : X.fn y = true ∨ X.env.scope.names.lookup y = some .local := by first | exact .inl rfl | exact .inr rfl | assumption) (hdb : (x == ("__debug__" : Str)) = false := by decide) (he : starEach (e :: es) X.env = (false, eval e X.env) :: starEach es X.env := by rfl) (hpl : (backTo pos (starEach es X.env)).any (·.1) = false := by rfl) :
    PSX X [.Assign [.Name y py] (.Call (.Name x p) (e :: es) [] pos) spos] (fun D Φ σ H => t σ H fun vs H1 => ∃ E : XK, (∀ C d H', E C d H' → ∀ ea, H' ea = none → Φ σ ea C H') ∧ sp vs H1 (fun v H' => D.nx (σ.set i (some v)) H') E) := by
  intro pins s σ H D Φ I h
  refine wpAny_execs_cons (wpAny_mono (Q := fun f s1 => SP X pins D f s1) (wpAny_Assign_Name (Q := fun f s1 => SP X pins D f s1) ?_ hs) (fun f s1 q => ?_) fun _ _ z => z)
  · refine wpAny_Call_Name_kw (ld_glob I hg hm ?_ hdb)
    refine PySem.W.callWith_K (h₀ := X.base) I.ok.mod.kin hk (wpAny_mono (ha pos pins s σ H _ (I.wish _) h) (fun us s1 ⟨vs, H1, I1, r, E, hE, q⟩ => ?_) fun _ _ z => False.elim z) he hpl
    have I1 := I1.unwish
    refine ⟨I1.kIn, ?_⟩
    have hl : (us ++ []).length = ps.length := by rw [List.append_nil, ← r.length]; exact F.len _ _ _ _ q
    have hb' := hb s1 us I1.kIn hl
    rw [List.append_nil] at hb'
    refine wpAny_call (codeAny_mono (F.run X.A X.stack s1 H1 ⟨us, []⟩ us vs _ E hr I1.env0 hb' r q) fun r s' hq => ?_)
    cases r with
    | error e =>
      obtain ⟨ea, C, a0, B, H', rfl, a1, a2, a3, a4⟩ := fl_of I1 hq
      exact ⟨σ, ea, C, a0, B, H', rfl, a1, a2, a3, hE _ _ _ a4 _ a3⟩
    | ok fl =>
      cases fl with
      | ret u =>
        obtain ⟨v, H', I2, rv, q2⟩ := I1.after hq
        exact store_ok I2 hN hi hy rv (fun s2 I3 => ⟨_, H', I3, q2⟩) hf
      | next => exact False.elim hq
      | brk => exact False.elim hq
      | cont => exact False.elim hq
  · cases f with
    | next => exact wpAny_execs_nil q
    | ret v => exact q
    | brk => exact q
    | cont => exact q
end
/-! ### handlers -/
abbrev TH := Ends → St → Addr → Value → Hp → Prop
def PHs (X : Cx) (hs : List ExceptHandler) (t : TH) : Prop :=
  ∀ (pins : List (Addr × Obj)) (s : Shared) (D : Ends) (σ : St) (ea : Addr) (C a0 : Value) (B : Heap) (H : Hp), Heap.FlyingW B X.stack ea C a0 s.heap → (∀ h6, Heap.FlyingW B X.stack ea C a0 h6 → s.heap.UpToSlots h6 → Inv X pins σ H { s with heap := h6 }) → H ea = none → t D σ ea C H →
    wpAny (model X.prog X.w) X.A (handleBy (.ref ea) X.env hs) (SP X pins D) X.xe s
section
variable {X : Cx}
theorem ph_nil : PHs X [] (fun _ _ _ _ _ => False) := fun _ _ _ _ _ _ _ _ _ _ _ _ h => h.elim
theorem ph_hit {x : Str} {c : Addr} {b₀ : Stmt} {suite : List Stmt} {np pos : Pos} {rest : List ExceptHandler} {t : TS} {th : TH} (hg : Gl X x) (hm : X.mg x = some (.ref c)) (hsuite : ∀ ea, PSs (X.caught ea []) (b₀ :: suite) t) (hrest : PHs X rest th) (hd : (x == ("__debug__" : Str)) = false := by decide) :
    PHs X (.ExceptHandler (some (.Name x np)) none (b₀ :: suite) pos :: rest) (fun D σ ea C H => (PySem.W.exmOne X.K C (.ref c) = some true ∧ t D σ H) ∨ (PySem.W.exmOne X.K C (.ref c) = some false ∧ th D σ ea C H)) := by
  intro pins s D σ ea C a0 B H hfl hinv hne h
  have I0 : Inv X pins σ H s := hinv s.heap hfl (Heap.UpToSlots.refl _)
  obtain ⟨ob, hob, hobc⟩ := hfl.there
  have LT : PySem.W.Looks (model X.prog X.w) s.heap (typeOf (.ref ea)) C := hobc ▸ (PySem.W.Looks.ld hob).andThen .now
  have Im : Inv (X.caught ea []) pins σ H s := I0.caught
  refine wpAny_handleBy_cons (codeAny_handlers_test (ld_glob (X := X.caught ea []) Im hg hm ?_ hd)) (by intro q; cases q)
  rcases h with ⟨hx, ht⟩ | ⟨hx, ht⟩
  · refine (PySem.W.exm_one I0.kIn LT hx).here ?_
    refine codeAny_handlers_suite (lands_againW hfl fun h6 hfl6 up => ?_)
    have I6 : Inv (X.caught ea []) pins σ H { s with heap := h6 } := (hinv h6 hfl6 up).caught
    exact wpAny_mono (hsuite ea pins _ σ H D I6 ht) (fun f s2 q => q.uncaught I0.ok) fun _ _ z => z.elim
  · refine (PySem.W.exm_one I0.kIn LT hx).here ?_
    exact hrest pins s D σ ea C a0 B H hfl hinv hne ht
/-- except C as n: the suite knows its exception as an object that stays -/
theorem ph_as {x n : Str} {i : Nat} {c : Addr} {b₀ : Stmt} {suite : List Stmt} {np pos : Pos} {rest : List ExceptHandler} {t : Addr → Value → TS} {th : TH} (hg : Gl X x) (hm : X.mg x = some (.ref c)) (hN : X.N.Nodup) (hi : X.N[i]? = some n) (hn : X.env.scope.names.lookup n = some .local)
    (hsuite : ∀ ea C (oe : Obj), oe.cls = C → PSs (X.caught ea [(ea, oe)]) (b₀ :: suite) (t ea C)) (hrest : PHs X rest th) (hd : (x == ("__debug__" : Str)) = false := by decide) :
    PHs X (.ExceptHandler (some (.Name x np)) (some n) (b₀ :: suite) pos :: rest) (fun D σ ea C H => (PySem.W.exmOne X.K C (.ref c) = some true ∧ t ea C { D with nx := fun σ' => D.nx (σ'.set i none), bk := fun σ' => D.bk (σ'.set i none), ct := fun σ' => D.ct (σ'.set i none) } (σ.set i (some (.ref ea))) H) ∨ (PySem.W.exmOne X.K C (.ref c) = some false ∧ th D σ ea C H)) := by
  intro pins s D σ ea C a0 B H hfl hinv hne h
  have I0 : Inv X pins σ H s := hinv s.heap hfl (Heap.UpToSlots.refl _)
  obtain ⟨ob, hob, hobc⟩ := hfl.there
  have LT : PySem.W.Looks (model X.prog X.w) s.heap (typeOf (.ref ea)) C := hobc ▸ (PySem.W.Looks.ld hob).andThen .now
  have Im : Inv (X.caught ea []) pins σ H s := I0.caught
  refine wpAny_handleBy_cons (codeAny_handlers_test (ld_glob (X := X.caught ea []) Im hg hm ?_ hd)) (by intro q; cases q)
  rcases h with ⟨hx, ht⟩ | ⟨hx, ht⟩
  · refine (PySem.W.exm_one I0.kIn LT hx).here ?_
    refine codeAny_handlers_suite_as (lands_againW hfl fun h6 hfl6 up => ?_)
    have I6 := hinv h6 hfl6 up
    obtain ⟨oe, vs, T, oT, ts, he, ⟨hcl, h0⟩, hdt, _⟩ := hfl6.2.2.2
    have nL : ea ≠ X.env.locals := fun z => by
      obtain ⟨m, ⟨o, es, ep, ho, hdd, _⟩, _⟩ := I6.loc
      have ho' : h6.get? X.env.locals = some o := ho
      rw [z, ho'] at he
      cases he
      rw [hdt] at hdd
      cases hdd
    have nf : ea ∉ X.fs := fun z => by
      obtain ⟨_, o, ho, nfl⟩ := I6.funs.mem z
      have ho' : h6.get? ea = some o := ho
      rw [ho'] at he
      cases he
      exact nfl vs hdt
    have I7 : Inv X ([(ea, oe)] ++ pins) σ H { s with heap := h6 } := I6.pins_of fun p hp => by
      rcases List.mem_append.mp hp with z | z
      · rw [List.mem_singleton] at z
        subst z
        exact ⟨he, hne, nL, nf, fun v z => by rw [hdt] at z; cases z⟩
      · exact I6.pin p (List.mem_append_right _ z)
    have I8 : Inv (X.caught ea [(ea, oe)]) pins σ H { s with heap := h6 } := I7.caught
    refine store_ok (X := X.caught ea [(ea, oe)]) I8 hN hi (.inl hn) (v := .ref ea) rfl (fun s9 I9 => ?_) (.inr hn)
    refine wpAny_mono (hsuite ea C oe hcl pins _ _ H _ I9 ht) (fun f s2 q => ?_) fun _ _ z => z.elim
    have q := q.uncaught I0.ok
    cases f with
    | next => obtain ⟨σ', H', I, q⟩ := q; exact name_goes I hN hi hn fun s' I' => ⟨_, H', I', q⟩
    | brk => obtain ⟨σ', H', I, q⟩ := q; exact name_goes I hN hi hn fun s' I' => ⟨_, H', I', q⟩
    | cont => obtain ⟨σ', H', I, q⟩ := q; exact name_goes I hN hi hn fun s' I' => ⟨_, H', I', q⟩
    | ret u => obtain ⟨v, σ', H', I, r, q⟩ := q; exact name_goes I hN hi hn fun s' I' => ⟨v, _, H', I', r, q⟩
  · refine (PySem.W.exm_one I0.kIn LT hx).here ?_
    exact hrest pins s D σ ea C a0 B H hfl hinv hne ht
/-- try: .. except ..: .. -/
theorem ps_try {body : List Stmt} {h0 : ExceptHandler} {hs : List ExceptHandler} {pos : Pos} {tb : TX} {th : TH} (hst : X.stack = X.env :: X.outer) (hf : X.env.frame = some X.env.locals) (hb : PSX X body tb) (hh : PHs X (h0 :: hs) th) :
    PS X (.Try body (h0 :: hs) [] [] pos) (fun D σ H => tb D (fun σ' ea C H' => th D σ' ea C H') σ H) := by
  intro pins s σ H D I h
  have hfr : X.A.frames = some (X.env :: X.outer) := by rw [I.ok.frames, hst]
  refine wpAny_Try_except (wpAny_mono (hb pins s σ H D _ I h) (fun f s1 q => ?_) fun e s1 q => ?_)
  · cases f with
    | next => exact wpAny_execs_nil q
    | ret v => exact q
    | brk => exact q
    | cont => exact q
  · obtain ⟨σ', ea, C, a0, B, H', rfl, fl, hinv, hne, q⟩ := q
    have fl' := fl
    rw [hst] at fl'
    refine wpAny_looks_onW hfr hf fl' fun h4 held up4 => wpAny_landsW held fun h5 fl5 up5 => ?_
    rw [← hst] at fl5
    exact hh pins { s1 with heap := h5 } D σ' ea C a0 B H' fl5 (fun h6 fl6 up6 => hinv h6 fl6 ((up4.trans up5).trans up6)) hne q
end
end L2
/-! ### f-strings with !r, isinstance of an exception -/
namespace L2
open PySem PySem.Spec PyProof.Rows PySem.Builtin PySem.Builtin.Str
set_option linter.all false
section
variable {X : Cx}
theorem repr_small {l : List Nat} (h : l.length ≤ 1000) (hc : ∀ c ∈ l, c < 1000) : (reprText (tx l)).length ≤ 20000 := by
  have e0 := StrLaws.reprText_len (tx l) (fun c hm => by
    rw [tx_codes] at hm
    have := hc c hm
    omega)
  have e1 : (reprText (tx l)).length ≤ 10 * (tx l).length + 2 := e0
  have e2 : (tx l).length = l.length := tx_len l
  omega
theorem pe_fstr {value : Expr} {tv : TE} {p1 p2 pos : Pos} {z : Str} {j} (hv : PE X value tv) (hz : z.length ≤ 100) :
    PE X (.JoinedStr [.FormattedValue value 114 none p1, .Constant (.str z) j p2] pos) (fun σ H Q => tv σ H fun x H1 => ∃ l, x = .str (tx l) ∧ l.length ≤ 1000 ∧ (∀ c ∈ l, c < 1000) ∧ ∀ y, Q (.str y) H1) := by
  intro pins s σ H Q I h
  have hs : sizeLine = 16777216 := sizeLine_eq
  have e0 : (Str.empty).length = 0 := rfl
  refine JoinedStr_many (joinParts_cons (wpAny_FormattedValue_repr (thn (hv pins s σ H _ I h) fun v s1 ⟨x, H1, I1, r1, q1⟩ => ?_)))
  obtain ⟨l, rfl, hl, hc, q⟩ := q1
  obtain ⟨t, rfl⟩ := r1
  have hr := repr_small hl hc
  refine wpAny_pyReprObj_str (formatField_str (fun t' tk => ⟨by rw [strLen_append]; omega, ?_⟩) (by omega)) (by omega)
  refine joinParts_cons (Calls.Constant_str ⟨by rw [strLen_append, strLen_append]; omega, ?_⟩)
  refine joinParts_nil ⟨.str _, H1, ?_, ⟨_, rfl⟩, q _⟩ (by rw [strLen_append, strLen_append]; omega)
  exact ((I1.tok _).tok _)
end
end L2
/-! ### isinstance(e, C), e an exception of an own class -/
namespace L2
open PySem PySem.Spec PySem.Calls PyProof.Rows PySem.W PySem.Builtin PySem.Builtin.ObjectAttr PySem.Builtin.Getset_descriptor
set_option linter.all false
/-- an object of the class at D -/
def ClsAt (x D : Addr) (h : Heap) : Prop := ∃ ob, h.get? x = some ob ∧ ob.cls = .ref D
structure ExcK (K : Frag) (D : Addr) : Prop where
  ga : findIn K (.ref D) "__getattribute__" = some (some (.builtin "BaseException.__getattribute__"))
  gn : findIn K (.ref D) "__getattr__" = some none
  mb : mroIn K D (.type "BaseException") = some true
  fi : findIn K (.ref D) "__class__" = some (some (.builtin "object.__class__"))
  sp : specialIn K (.builtin "object.__class__") "__get__" = some (some (.builtin "getset_descriptor.__get__"))
  tk : takesIn K (.builtin "object.__class__") = some true
  mo : mroIn K D (.type "object") = some true
section
variable {prog : Program} {w : World} {A : Around} {E : Value → Shared → Prop} {s : Shared} {K : Frag} {x D : Addr}
theorem clsAt_ty {M : Model} {h : Heap} (p : ClsAt x D h) : Looks M h (typeOf (.ref x)) (.ref D) := by
  obtain ⟨ob, h1, h2⟩ := p
  rw [← h2]
  exact (Looks.ld h1).andThen .now
theorem clsAt_find {M : Model} {h : Heap} (X : K.In h) (Z : ExcK K D) : Looks M h (find (.ref x) (.ref D) "__class__") (.bind (.builtin "getset_descriptor.__get__") (.builtin "object.__class__")) := by
  have a1 : Looks M h (getOf (some (.builtin "object.__class__"))) (some (.builtin "getset_descriptor.__get__")) := looks_specialIn X Z.sp
  have a2 : Looks M h (dataDescriptor? (some (.builtin "object.__class__")) (some (.builtin "getset_descriptor.__get__"))) (some (.builtin "getset_descriptor.__get__", .builtin "object.__class__")) := (looks_takesIn X Z.tk).andThen .now
  exact (looks_findIn X Z.fi).andThen (a1.andThen (a2.andThen (Looks.tag .now)))
theorem clsAt_descr {R : Result → Shared → Prop} {tp : Value} (X : K.In s.heap) (p : ClsAt x D s.heap) (Z : ExcK K D) (h : R (.ok (.ret (.ref D))) s) :
    codeAny (model prog w) A (.call (.builtin "getset_descriptor.__get__") ⟨[.builtin "object.__class__", .ref x, tp], []⟩) R s := by
  have T := clsAt_ty (M := model prog w) p
  have Mo := looks_mroIn (M := model prog w) X Z.mo
  obtain ⟨hp, gs, dr, tks, os⟩ := s
  refine codeAny_call_builtin KF.slot_gs.plain KF.entry_gs (KF.slot_gs.check _ _ _ _ _ _ _ _ KF.type_class
    (KF.args_gs _ _ _) ?_)
  unfold Builtin.«getset_descriptor.__get__»
  unfold descrGet
  rw [dga_obj]
  refine wpAny_bind (wpAny_pure ?_)
  unfold descrGetter descrCheckInstance
  unfold descrNameAndClass isInstance
  simp only [KF.owner_class]
  repeat lk
  refine ⟨Code.quiet_builtin _ (by decide +kernel), ?_⟩
  refine codeAny_builtin KF.entry_class ?_
  unfold Builtin.«object.__class__»
  unfold shownTypeOf
  repeat lk
  exact h
theorem clsAt_entry {tk : Tok} {Q : Fin → Shared → Prop} (X : K.In s.heap) (p : ClsAt x D s.heap) (Z : ExcK K D) (h : Q (.done (.ret (.ref D))) s) :
    wpAny (model prog w) A (Builtin.«object.__getattribute__» ⟨[.ref x, .str "__class__" tk], []⟩) Q E s := by
  have T := clsAt_ty (M := model prog w) p
  have Fd := clsAt_find (M := model prog w) (x := x) X Z
  obtain ⟨hp, gs, dr, tks, os⟩ := s
  refine wpAny_bind (wpAny_pure ?_)
  refine wpAny_bind (wpAny_pure ?_)
  refine wpAny_bind (T.at ?_)
  refine wpAny_bind (Fd.at ?_)
  change wpAny _ _ (bindTo _ _ _ _) _ _ _
  unfold bindTo
  refine wpAny_bind (wpAny_holding ?_)
  refine wpAny_call (clsAt_descr (s := ⟨hp, gs, dr, tks, os⟩) X p Z ?_)
  exact wpAny_pure h
theorem clsAt_check {nameV : Value} {Q : Unit → Shared → Prop} (X : K.In s.heap) (p : ClsAt x D s.heap) (Z : ExcK K D) (h : Q () s) :
    wpAny (model prog w) A (checkBuiltinCall "BaseException.__getattribute__" ⟨[.ref x, nameV], []⟩) Q E s := by
  have T := clsAt_ty (M := model prog w) p
  have Mb := looks_mroIn (M := model prog w) X Z.mb
  have k1 : builtinKind "BaseException.__getattribute__" = some .slot := by decide +kernel
  have k2 : splitId "BaseException.__getattribute__" = some ("BaseException", "__getattribute__") := by decide +kernel
  have k3 := F.args_bexc_ga (.ref x) nameV
  obtain ⟨hp, gs, dr, tks, os⟩ := s
  simp only [checkBuiltinCall, k1, k2]
  refine wpAny_bind ?_
  unfold isInstance
  refine wpAny_bind (T.at ?_)
  refine Mb.at ?_
  rw [if_neg (by decide)]
  unfold argsOk at k3
  split at k3
  · rename_i sg eg
    rw [eg]
    dsimp only
    rw [k3]
    exact wpAny_pure h
  · rename_i eg
    rw [eg]
    exact wpAny_pure h
theorem clsAt_class {Q : Option Value → Shared → Prop} (X : K.In s.heap) (p : ClsAt x D s.heap) (Z : ExcK K D) (h : Q (some (.ref D)) { s with toks := s.toks + 1 }) : wpAny (model prog w) A (getAttr? (.ref x) "__class__") Q E s := by
  have T := clsAt_ty (M := model prog w) p
  have G1 := looks_findIn (M := model prog w) X Z.ga
  have G2 := looks_findIn (M := model prog w) X Z.gn
  have Mb := looks_mroIn (M := model prog w) X Z.mb
  have b1 : Looks (model prog w) s.heap (bindSpecial (.builtin "BaseException.__getattribute__") (.ref x)) (.builtin "BaseException.__getattribute__", [.ref x]) := Looks.of_pure (F.attr_ValueError.ga.bind (.ref x))
  obtain ⟨hp, gs, dr, tks, os⟩ := s
  unfold getAttr? getAttrBy?
  refine wpAny_bind (wpAny_mkText ?_)
  refine wpAny_bind (wpAny_attempt ?_)
  unfold getAttrBy
  refine wpAny_holding (wpAny_bind (T.at ?_))
  refine wpAny_bind (G1.at ?_)
  dsimp only
  have n1 : (Value.builtin "BaseException.__getattribute__" == Value.builtin "object.__getattribute__") = false := by decide +kernel
  rw [n1, Bool.and_false, if_neg Bool.false_ne_true]
  unfold getAttrByItsOwn
  refine wpAny_bind (G2.at ?_)
  refine wpAny_bind (wpAny_attempt (wpAny_holding ?_))
  unfold callGetattribute boundAndCalled
  dsimp only
  rw [if_neg (by decide +kernel)]
  refine wpAny_bind (b1.at ?_)
  refine wpAny_call (codeAny_call_builtin F.attr_ValueError.ga.plain F.entry_bexc_ga (clsAt_check (s := ⟨hp, gs, dr, tks + 1, os⟩) X p Z ?_))
  refine clsAt_entry (s := ⟨hp, gs, dr, tks + 1, os⟩) X p Z ?_
  exact handed_on rfl (wpAny_pure h)
theorem kitx_exc (Z : ExcK K D) : KitX K (.ref x) (.ref D) (ClsAt x D) where
  ty := fun _ _ _ p => clsAt_ty p
  it := fun _ _ X _ => by
    obtain ⟨cd, hc, _⟩ := Option.bind_eq_some_iff.mp Z.mo
    unfold clsIn at hc
    split at hc
    · rename_i c2 d2 cd2 sl2 ho
      intro A2 Q2 E2 s2 k q
      unfold isType loadHead
      refine wpAny_bind ?_
      exact wpAny_loadPart (k _ _ (X _ _ ho)) (wpAny_pure q)
    · cases hc
  ne := fun h tp dd its n sl X htp => by
    obtain ⟨cd, hc, _⟩ := Option.bind_eq_some_iff.mp Z.mo
    apply Bool.eq_false_iff.mpr
    intro q
    cases Value.ref.inj (beq_iff_eq.mp q)
    unfold clsIn at hc
    split at hc
    · rename_i c2 d2 cd2 sl2 ho
      rw [X _ _ ho] at htp
      cases htp
    · cases hc
  ca := fun X p k => clsAt_class X p Z k
end
section
variable {X : Cx} {K : Frag} {ea : Addr} {oe : Obj} {C : Value}
theorem call_isiE (hK : X.K = K) (hm : (ea, oe) ∈ X.pn) (hc : oe.cls = C) : CallR X (.builtin "isinstance") (fun xs H Q => ∃ (D : Addr) (c : Value) (cv : V) (b : Bool), C = .ref D ∧ ExcK K D ∧ xs = [.ref ea, cv] ∧ (∀ u, RelV cv u → u = c) ∧ kitOne K (.ref D) c = some b ∧ Q (.bl b) H) := by
  subst hK
  intro pins s σ H xs us Q I r h
  obtain ⟨D, c, cv, b, rfl, Z, rfl, hu, e, q⟩ := h
  obtain ⟨u, w', rfl, rx, ry⟩ := vals2 r
  cases (show u = Value.ref ea from rx)
  cases hu _ ry
  exact kia_one (kitx_exc Z) I.kIn ⟨oe, (I.pin (ea, oe) (List.mem_append_left _ hm)).1, hc⟩ e (fun z => nomatch z) fun tk => ⟨.bl b, H, I.tok _, rfl, q⟩
theorem bt_VE : bootBuiltins "ValueError" = some (.type "ValueError") := by decide +kernel
end
end L2
/-! ### an own class of exceptions, as the top has bound it -/
namespace L2
open PySem PySem.Spec PyProof.Rows
set_option linter.all false
theorem own_cls {K : PySem.W.Frag} {h : Heap} {mg : Str → Option Value} {x : Str} {D : Addr} {bmB : List Value} {newId : String} (X : K.In h) (G : h.Ns mainGlobals mg)
    (e : PySem.W.nsIn K mainGlobals x = some (some (.ref D))) (q : PySem.W.excIn K D bmB newId = true) : OwnCls x D bmB newId mg h := by
  have b := PySem.W.mg_of X G e
  unfold PySem.W.excIn at q
  split at q
  case h_2 => cases q
  case h_1 od cdat slo lk =>
  split at q
  case h_2 => cases q
  case h_1 D2 tl s0 s1 s2 s3 nid s5 hm hs =>
  simp only [Bool.and_eq_true, beq_iff_eq, Bool.not_eq_true'] at q
  obtain ⟨⟨⟨⟨⟨q1, q2⟩, q3⟩, q4⟩, q5⟩, q6⟩ := q
  subst q1 q2
  obtain ⟨c1, c2, c3, c4, c5, c6, c7, c8, c9, c10, c11⟩ := cdat
  dsimp only at hm q3 q5 q6
  subst hm q3
  obtain ⟨sl⟩ := slo
  dsimp only at hs
  subst hs
  exact ⟨b, ⟨tl, c4, c1, c5, c2, c6, c7, c8, c9, c10, od, s0, s1, s2, s3, s5, _, X _ _ lk, .of_isNs (PySem.W.isNs_of_in X q5), PySem.W.nsMap_none_of_in X q5 q6, PySem.W.tail_of_in X q4⟩⟩
end L2
/-! ### a sheet written again from what is read of it -/
namespace L2
set_option linter.all false
theorem joinN_split (c : Nat) : ∀ l : List Nat, joinN [c] (splitN c l) = l
  | [] => rfl
  | x :: r => by
    have ih := joinN_split c r
    unfold splitN
    split
    · rename_i e
      rw [joinN_cons2 [c] [] (splitN_ne c r), ih, e]
      rfl
    · split
      · rename_i h t e
        rw [e] at ih
        cases t with
        | nil => exact congrArg (x :: ·) ih
        | cons y t => exact congrArg (x :: ·) ih
      · rename_i e
        exact absurd e (splitN_ne c r)
theorem splitN_mem (c : Nat) : ∀ l : List Nat, ∀ q ∈ splitN c l, ∀ x ∈ q, x ∈ l ∧ x ≠ c
  | [], q, hq, x, hx => by
    have : q = [] := by simpa [splitN] using hq
    rw [this] at hx
    cases hx
  | y :: r, q, hq, x, hx => by
    have ih := splitN_mem c r
    unfold splitN at hq
    split at hq
    · rcases List.mem_cons.mp hq with rfl | hq
      · cases hx
      · exact ⟨List.mem_cons_of_mem _ (ih q hq x hx).1, (ih q hq x hx).2⟩
    · rename_i hy
      split at hq
      · rename_i h t e
        rw [e] at ih
        rcases List.mem_cons.mp hq with rfl | hq
        · rcases List.mem_cons.mp hx with rfl | hx
          · exact ⟨List.mem_cons_self, hy⟩
          · exact ⟨List.mem_cons_of_mem _ (ih h List.mem_cons_self x hx).1, (ih h List.mem_cons_self x hx).2⟩
        · exact ⟨List.mem_cons_of_mem _ (ih q (List.mem_cons_of_mem _ hq) x hx).1, (ih q (List.mem_cons_of_mem _ hq) x hx).2⟩
      · rename_i e
        exact absurd e (splitN_ne c r)
theorem rsN_eq (l : List Nat) : ∃ n, l = rsN l ++ List.replicate n 32 ∧ (rsN l).length + n = l.length := by
  have h : ∀ m (l : List Nat), l.length = m → ∃ n, l = rsN l ++ List.replicate n 32 ∧ (rsN l).length + n = l.length := by
    intro m
    induction m with
    | zero =>
      intro l hl
      have : l = [] := List.length_eq_zero_iff.mp hl
      subst this
      exact ⟨0, rfl, rfl⟩
    | succ m ih =>
      intro l hl
      rcases List.eq_nil_or_concat l with rfl | ⟨r, c, rfl⟩
      · cases hl
      · rw [List.concat_eq_append] at hl ⊢
        by_cases hc : c = 32
        · subst hc
          have hr : r.length = m := by simpa using hl
          obtain ⟨n, e, en⟩ := ih r hr
          refine ⟨n + 1, ?_, ?_⟩
          · rw [rsN_blank, List.replicate_succ', ← List.append_assoc, ← e]
          · rw [rsN_blank, List.length_append]
            simp
            omega
        · refine ⟨0, ?_, ?_⟩
          · rw [rsN_snoc hc]
            simp
          · rw [rsN_snoc hc]
            simp
  exact h _ l rfl
theorem rsN_good {l : List Nat} : Cb.ends32 (rsN l) = false := by
  unfold rsN
  cases h : l.reverse.dropWhile (· == 32) with
  | nil => rfl
  | cons a t =>
    rw [List.reverse_cons, Cb.ends32_snoc]
    have := List.head?_dropWhile_not (fun c => c == 32) l.reverse
    rw [h] at this
    simpa using this
/-- what a cell tells, as a field of a table that is written so -/
def fldN (p : List Nat) : List Nat := if isCutN p = true then p.dropLast ++ [120, 120] else rsN p
theorem cut_eq {p : List Nat} (h : isCutN p = true) : p = p.dropLast ++ [126] := by
  unfold isCutN at h
  rcases List.eq_nil_or_concat p with rfl | ⟨r, c, rfl⟩
  · cases h
  · rw [List.concat_eq_append] at h ⊢
    rw [List.getLast?_append] at h
    have : c = 126 := by simpa using h
    rw [this, List.dropLast_concat]
theorem fld_cell {p : List Nat} {w : Nat} (hw : p.length = w) (h1 : 1 ≤ w) (hc : isCutN p = true → 2 ≤ w) : Cb.cellOf (fldN p) w = p := by
  by_cases h : isCutN p = true
  · have e := cut_eq h
    have hl : p.dropLast.length = w - 1 := by rw [List.length_dropLast, hw]
    unfold fldN Cb.cellOf
    rw [if_pos h, if_pos (by rw [List.length_append, hl]; show w < w - 1 + 2; omega), List.take_append_of_le_length (by omega), List.take_of_length_le (by omega)]
    exact e.symm
  · have e : fldN p = rsN p := if_neg h
    obtain ⟨n, e1, e2⟩ := rsN_eq p
    unfold Cb.cellOf
    rw [e, if_neg (by omega)]
    have : w - (rsN p).length = n := by omega
    rw [this]
    exact e1.symm
theorem fld_len {p : List Nat} : (fldN p).length = if isCutN p = true then p.length + 1 else (rsN p).length := by
  unfold fldN
  by_cases h : isCutN p = true
  · rw [if_pos h, if_pos h]
    have e := congrArg List.length (cut_eq h)
    rw [List.length_append, List.length_dropLast] at e
    rw [List.length_append, List.length_dropLast]
    have : [126].length = 1 := rfl
    have : ([120, 120] : List Nat).length = 2 := rfl
    omega
  · rw [if_neg h, if_neg h]
/-- the cap that is read off -/
def capN (rows : List (List (List Nat))) : Nat := ((rows.flatten.filter isCutN).map List.length).foldl min 200
theorem capN_le (rows : List (List (List Nat))) : capN rows ≤ 200 ∧ (∀ r ∈ rows, ∀ p ∈ r, isCutN p = true → capN rows ≤ p.length) ∧ (capN rows = 200 ∨ ∃ r ∈ rows, ∃ p ∈ r, isCutN p = true ∧ capN rows = p.length) := by
  have m := foldl_min_le ((rows.flatten.filter isCutN).map List.length) 200
  refine ⟨m.1, fun r hr p hp hc => m.2.1 _ (List.mem_map.mpr ⟨p, List.mem_filter.mpr ⟨List.mem_flatten.mpr ⟨r, hr, hp⟩, hc⟩, rfl⟩), ?_⟩
  rcases m.2.2 with h | h
  · exact .inl h
  · obtain ⟨p, hp, e⟩ := List.mem_map.mp h
    obtain ⟨h1, h2⟩ := List.mem_filter.mp hp
    obtain ⟨r, hr, hpr⟩ := List.mem_flatten.mp h1
    exact .inr ⟨r, hr, p, hpr, h2, e.symm⟩
/-- what isSheetN says, as facts -/
structure Sheet (rows : List (List (List Nat))) (n : Nat) : Prop where
  cell : ∀ r ∈ rows, ∀ p ∈ r, isCellN p = true
  len : ∀ r ∈ rows, r.length = n
  wid : ∀ r ∈ rows, ∀ k, k < n → (r.getD k []).length = widthN (rows.map fun r => r.getD k [])
  full : rows ≠ [] → ∀ k, k < n → widthN (rows.map fun r => r.getD k []) = longR (rows.map fun r => r.getD k [])
  cap : ∀ r ∈ rows, ∀ k, k < n → isCutN (r.getD k []) = true → ∀ r' ∈ rows, ∀ j, j < n → (r'.getD j []).length ≤ (r.getD k []).length
theorem maxN_ge {l : List Nat} {x : Nat} (h : x ∈ l) : x ≤ maxN l := (Cb.foldl_max_le l 0).2.1 x h
theorem minN_le {l : List Nat} {x : Nat} (h : x ∈ l) : minN l ≤ x := (foldl_min_le l (l.headD 0)).2.1 x h
theorem sheet_of {rows : List (List (List Nat))} (h : isSheetN rows = true) : Sheet rows (rows.headD []).length := by
  unfold isSheetN at h
  simp only [Bool.and_eq_true, Bool.not_eq_true'] at h
  obtain ⟨h1, h2, h3, h4⟩ := h
  have hcell : ∀ r ∈ rows, ∀ p ∈ r, isCellN p = true := fun r hr p hp => List.all_eq_true.mp (List.all_eq_true.mp h1 r hr) p hp
  have hlen : ∀ r ∈ rows, r.length = (rows.headD []).length := fun r hr => by
    have := List.any_eq_false.mp h2 r hr
    simpa using this
  generalize (rows.headD []).length = n at *
  have hcols : rows ≠ [] → colsOf rows n = (List.range n).map fun k => rows.map fun r => r.getD k [] := fun hne => if_neg hne
  have hcol : ∀ k, k < n → rows ≠ [] → isColN (rows.map fun r => r.getD k []) = true := fun k hk hne => by
    rw [hcols hne] at h3
    exact List.all_eq_true.mp h3 _ (List.mem_map.mpr ⟨k, List.mem_range.mpr hk, rfl⟩)
  have hcol2 : ∀ k, k < n → rows ≠ [] → (∀ p ∈ (rows.map fun r => r.getD k []), p.length = widthN (rows.map fun r => r.getD k [])) ∧ widthN (rows.map fun r => r.getD k []) = longR (rows.map fun r => r.getD k []) := fun k hk hne => by
    have := hcol k hk hne
    unfold isColN at this
    simp only [Bool.and_eq_true, Bool.not_eq_true', decide_eq_true_eq] at this
    exact ⟨fun p hp => by simpa using List.any_eq_false.mp this.1 p hp, this.2⟩
  have hw : ∀ r ∈ rows, ∀ k, k < n → (r.getD k []).length = widthN (rows.map fun r => r.getD k []) := fun r hr k hk => (hcol2 k hk (List.ne_nil_of_mem hr)).1 _ (List.mem_map.mpr ⟨r, hr, rfl⟩)
  refine ⟨hcell, hlen, hw, fun hne k hk => (hcol2 k hk hne).2, fun r hr k hk hc r' hr' j hj => ?_⟩
  have hne := List.ne_nil_of_mem hr
  rw [hcols hne] at h4
  unfold shareN at h4
  have hin : (rows.map fun r => r.getD k []) ∈ ((List.range n).map fun k => rows.map fun r => r.getD k []).filter hasCutN := List.mem_filter.mpr ⟨List.mem_map.mpr ⟨k, List.mem_range.mpr hk, rfl⟩, List.any_eq_true.mpr ⟨_, List.mem_map.mpr ⟨r, hr, rfl⟩, hc⟩⟩
  rw [Bool.or_eq_true] at h4
  rcases h4 with h4 | h4
  · rw [of_decide_eq_true h4] at hin
    cases hin
  · have e := of_decide_eq_true h4
    have m1 := minN_le (List.mem_map.mpr ⟨_, hin, rfl⟩ : widthN (rows.map fun r => r.getD k []) ∈ (((List.range n).map fun k => rows.map fun r => r.getD k []).filter hasCutN).map widthN)
    have m2 := maxN_ge (List.mem_map.mpr ⟨_, List.mem_map.mpr ⟨j, List.mem_range.mpr hj, rfl⟩, rfl⟩ : widthN (rows.map fun r => r.getD j []) ∈ ((List.range n).map fun k => rows.map fun r => r.getD k []).map widthN)
    rw [hw r hr k hk, hw r' hr' j hj]
    omega
theorem cell_pos {p : List Nat} (h : isCellN p = true) : 1 ≤ p.length ∧ (isCutN p = true → 2 ≤ p.length) := by
  unfold isCellN cellSigns at h
  rw [Bool.and_eq_true] at h
  have h1 : ¬ (if isCutN p = true then p.dropLast else p) = [] := by simpa using h.1
  by_cases hc : isCutN p = true
  · rw [if_pos hc] at h1
    have : 0 < p.dropLast.length := List.length_pos_iff.mpr h1
    rw [List.length_dropLast] at this
    exact ⟨by omega, fun _ => by omega⟩
  · rw [if_neg hc] at h1
    exact ⟨List.length_pos_iff.mpr h1, fun z => absurd z hc⟩
/-- the table that the sheet's cells tell -/
def againT (rows : List (List (List Nat))) : List (List (List Nat)) := rows.map fun r => r.map fldN
theorem map_getD (r : List (List Nat)) (k : Nat) : (r.map fldN).getD k [] = if k < r.length then fldN (r.getD k []) else [] := by
  rw [List.getD_eq_getElem?_getD, List.getElem?_map]
  by_cases h : k < r.length
  · rw [if_pos h, List.getElem?_eq_getElem h, List.getD_eq_getElem?_getD, List.getElem?_eq_getElem h]
    rfl
  · rw [if_neg h, List.getElem?_eq_none (by omega)]
    rfl
theorem again_width {rows : List (List (List Nat))} {n : Nat} (S : Sheet rows n) (h200 : ∀ r ∈ rows, ∀ p ∈ r, p.length ≤ 200) {r : List (List Nat)} (hr : r ∈ rows) {k : Nat} (hk : k < n) : Cb.colWidth (againT rows) (capN rows) k = (r.getD k []).length := by
  have hne := List.ne_nil_of_mem hr
  have hmem : ∀ r' ∈ rows, ∀ j, j < n → r'.getD j [] ∈ r' := fun r' hr' j hj => by
    have : j < r'.length := by rw [S.len r' hr']; exact hj
    rw [List.getD_eq_getElem?_getD, List.getElem?_eq_getElem this]
    exact List.getElem_mem this
  have hcol : Cb.longest (againT rows) k = ((rows.map fun r => fldN (r.getD k [])).map List.length).foldl max 1 := by
    unfold Cb.longest againT
    rw [List.map_map, List.map_map]
    congr 1
    refine List.map_congr_left fun r' hr' => ?_
    show ((r'.map fldN).getD k []).length = (fldN (r'.getD k [])).length
    rw [map_getD, if_pos (by rw [S.len r' hr']; exact hk)]
  have m := Cb.foldl_max_le ((rows.map fun r => fldN (r.getD k [])).map List.length) 1
  rw [← hcol] at m
  obtain ⟨m1, m2, m3⟩ := m
  have hin : ∀ r' ∈ rows, (fldN (r'.getD k [])).length ≤ Cb.longest (againT rows) k := fun r' hr' => m2 _ (List.mem_map.mpr ⟨_, List.mem_map.mpr ⟨r', hr', rfl⟩, rfl⟩)
  have hww : ∀ r' ∈ rows, (r'.getD k []).length = (r.getD k []).length := fun r' hr' => by rw [S.wid r' hr' k hk, S.wid r hr k hk]
  obtain ⟨c1, c2, c3⟩ := capN_le rows
  have hp1 := (cell_pos (S.cell r hr _ (hmem r hr k hk))).1
  have hle : (r.getD k []).length ≤ capN rows := by
    rcases c3 with e | ⟨r2, hr2, p, hp, hpc, e⟩
    · rw [e]
      exact h200 r hr _ (hmem r hr k hk)
    · rw [e]
      obtain ⟨j, hj, ej⟩ := List.mem_iff_getElem.mp hp
      have hj' : j < n := by rw [← S.len r2 hr2]; exact hj
      have ep : r2.getD j [] = p := by rw [List.getD_eq_getElem?_getD, List.getElem?_eq_getElem hj, ej]; rfl
      have := S.cap r2 hr2 j hj' (by rw [ep]; exact hpc) r hr k hk
      rw [ep] at this
      exact this
  unfold Cb.colWidth
  by_cases hcut : ∃ r' ∈ rows, isCutN (r'.getD k []) = true
  · obtain ⟨r', hr', hc'⟩ := hcut
    have a1 := hin r' hr'
    rw [fld_len, if_pos hc', hww r' hr'] at a1
    have a2 := c2 r' hr' _ (hmem r' hr' k hk) hc'
    rw [hww r' hr'] at a2
    omega
  · have hno : ∀ r' ∈ rows, fldN (r'.getD k []) = rsN (r'.getD k []) := fun r' hr' => if_neg fun z => hcut ⟨r', hr', z⟩
    have e : Cb.longest (againT rows) k = longR (rows.map fun r => r.getD k []) := by
      rw [hcol]
      unfold longR
      rw [List.map_map, List.map_map]
      congr 1
      exact List.map_congr_left fun r' hr' => congrArg List.length (hno r' hr')
    have := S.full hne k hk
    rw [← S.wid r hr k hk, ← e] at this
    omega
theorem again_lines {ls : List (List Nat)} (h : isSheetN (rowsOf ls) = true) (h200 : ∀ r ∈ rowsOf ls, ∀ p ∈ r, p.length ≤ 200) : Cb.shownOf (againT (rowsOf ls)) (capN (rowsOf ls)) = ls := by
  have S := sheet_of h
  generalize ((rowsOf ls).headD []).length = n at S
  unfold Cb.shownOf
  have e1 : againT (rowsOf ls) = ls.map fun l => (splitN 124 l).map fldN := by
    unfold againT rowsOf
    rw [List.map_map]
    rfl
  conv => lhs; arg 2; rw [e1]
  rw [List.map_map]
  have : ∀ l ∈ ls, (Cb.lineOf (againT (rowsOf ls)) (capN (rowsOf ls)) ∘ fun l => (splitN 124 l).map fldN) l = l := fun l hl => by
    have hr : splitN 124 l ∈ rowsOf ls := List.mem_map.mpr ⟨l, hl, rfl⟩
    show Cb.lineOf _ _ ((splitN 124 l).map fldN) = l
    unfold Cb.lineOf
    have e2 : Cb.cellsOf (againT (rowsOf ls)) (capN (rowsOf ls)) ((splitN 124 l).map fldN) = splitN 124 l := by
      unfold Cb.cellsOf
      rw [List.length_map]
      refine Eq.trans (List.map_congr_left fun k hk => ?_) ((range_map (splitN 124 l) [] id).trans (List.map_id _))
      have hk' := List.mem_range.mp hk
      have hkn : k < n := by rw [← S.len _ hr]; exact hk'
      have hmem : (splitN 124 l).getD k [] ∈ splitN 124 l := by
        rw [List.getD_eq_getElem?_getD, List.getElem?_eq_getElem hk']
        exact List.getElem_mem hk'
      rw [map_getD, if_pos hk', again_width S h200 hr hkn]
      have hp := cell_pos (S.cell _ hr _ hmem)
      exact fld_cell rfl hp.1 hp.2
    rw [e2, joinN_split]
  rw [List.map_congr_left this, List.map_id']
end L2
/-! ### the law's word for a sheet, and the program's -/
namespace L2
set_option linter.all false
def partN (p : List Nat) : Bool := !decide (p = []) && (!decide (p = [126]) && !decide (126 ∈ p.dropLast))
def capG0 (rows : List (List (List Nat))) : Nat := ((rows.flatten.filter isCutN).map List.length).foldl max 0
def capG (rows : List (List (List Nat))) : Nat := if capG0 rows = 0 then 200 else capG0 rows
def fullN (c : List (List Nat)) : Bool := decide (widthN c = 1) || c.any fun p => !(p.getLast? == some 32)
def colGoodN (c : List (List Nat)) (cap : Nat) : Bool := (c.all fun p => decide (p.length = widthN c) && partN p) && (fullN c && (decide (widthN c ≤ cap) && (!hasCutN c || decide (widthN c = cap))))
def goodN (rows : List (List (List Nat))) : Bool := (rows.all fun r => decide (r.length = (rows.headD []).length)) && (decide (rows = []) || (List.range (rows.headD []).length).all fun k => colGoodN (rows.map fun r => r.getD k []) (capG rows))
theorem part_cell {p : List Nat} (hs : ∀ c ∈ p, Cb.okc c ∨ c = 126) : partN p = true ↔ isCellN p = true := by
  have okn : ∀ c, Cb.okc c → c ≠ 126 := fun c h => by
    unfold Cb.okc at h
    omega
  unfold partN isCellN cellSigns
  by_cases hc : isCutN p = true
  · rw [if_pos hc]
    have e := cut_eq hc
    have hne : p ≠ [] := fun z => by rw [z] at hc; cases hc
    have h1 : (p = [126]) ↔ p.dropLast = [] := by
      constructor
      · intro z; rw [z]; rfl
      · intro z; rw [z] at e; exact e
    simp only [Bool.and_eq_true, Bool.not_eq_true', decide_eq_false_iff_not, List.all_eq_true]
    constructor
    · rintro ⟨_, h2, h3⟩
      refine ⟨fun z => h2 (h1.mpr z), fun c hcm => ?_⟩
      rcases hs c (List.dropLast_subset _ hcm) with h | h
      · exact okc_col h
      · exact absurd (h ▸ hcm) h3
    · rintro ⟨h2, h3⟩
      refine ⟨hne, fun z => h2 (h1.mp z), fun z => ?_⟩
      have := h3 126 z
      exact absurd this (by decide)
  · rw [if_neg hc]
    simp only [Bool.and_eq_true, Bool.not_eq_true', decide_eq_false_iff_not, List.all_eq_true]
    have hlast : ∀ c ∈ p, c = 126 → 126 ∈ p.dropLast := fun c hcm z => by
      subst z
      rcases List.eq_nil_or_concat p with rfl | ⟨r, d, rfl⟩
      · cases hcm
      · rw [List.concat_eq_append] at hc hcm ⊢
        rw [List.dropLast_concat]
        rw [isCutN_snoc] at hc
        rcases List.mem_append.mp hcm with h | h
        · exact h
        · rw [List.mem_singleton] at h
          subst h
          exact absurd rfl hc
    constructor
    · rintro ⟨h1, h2, h3⟩
      refine ⟨h1, fun c hcm => ?_⟩
      rcases hs c hcm with h | h
      · exact okc_col h
      · exact absurd (hlast c hcm h) h3
    · rintro ⟨h1, h2⟩
      refine ⟨h1, fun z => ?_, fun z => ?_⟩
      · rw [z] at hc
        exact hc rfl
      · have := h2 126 (List.dropLast_subset _ z)
        exact absurd this (by decide)
theorem last_rs {p : List Nat} (h : (p.getLast? == some 32) = false) : rsN p = p := by
  rcases List.eq_nil_or_concat p with rfl | ⟨r, d, rfl⟩
  · rfl
  · rw [List.concat_eq_append] at h ⊢
    rw [List.getLast?_append] at h
    exact rsN_snoc (by simpa using h)
theorem capG0_ge (rows : List (List (List Nat))) : (∀ r ∈ rows, ∀ p ∈ r, isCutN p = true → p.length ≤ capG0 rows) ∧ (capG0 rows = 0 ∨ ∃ r ∈ rows, ∃ p ∈ r, isCutN p = true ∧ capG0 rows = p.length) := by
  have m := Cb.foldl_max_le ((rows.flatten.filter isCutN).map List.length) 0
  refine ⟨fun r hr p hp hc => m.2.1 _ (List.mem_map.mpr ⟨p, List.mem_filter.mpr ⟨List.mem_flatten.mpr ⟨r, hr, hp⟩, hc⟩, rfl⟩), ?_⟩
  rcases m.2.2 with h | h
  · exact .inl h
  · obtain ⟨p, hp, e⟩ := List.mem_map.mp h
    obtain ⟨h1, h2⟩ := List.mem_filter.mp hp
    obtain ⟨r, hr, hpr⟩ := List.mem_flatten.mp h1
    exact .inr ⟨r, hr, p, hpr, h2, e.symm⟩
section
variable {rows : List (List (List Nat))}
theorem getD_mem {r : List (List Nat)} {k : Nat} (h : k < r.length) : r.getD k [] ∈ r := by
  rw [List.getD_eq_getElem?_getD, List.getElem?_eq_getElem h]
  exact List.getElem_mem h
theorem mem_getD {r : List (List Nat)} {p : List Nat} (h : p ∈ r) : ∃ k, k < r.length ∧ r.getD k [] = p := by
  obtain ⟨j, hj, ej⟩ := List.mem_iff_getElem.mp h
  exact ⟨j, hj, by rw [List.getD_eq_getElem?_getD, List.getElem?_eq_getElem hj, ej]; rfl⟩
theorem good_sheet (hs : ∀ r ∈ rows, ∀ p ∈ r, ∀ c ∈ p, Cb.okc c ∨ c = 126) (h : goodN rows = true) : isSheetN rows = true := by
  by_cases hne : rows = []
  · subst hne; rfl
  unfold goodN at h
  rw [Bool.and_eq_true, decide_eq_false hne, Bool.false_or] at h
  obtain ⟨h1, h2⟩ := h
  have hlen : ∀ r ∈ rows, r.length = (rows.headD []).length := fun r hr => of_decide_eq_true (List.all_eq_true.mp h1 r hr)
  unfold isSheetN
  generalize (rows.headD []).length = n at *
  have hcg : ∀ k, k < n → colGoodN (rows.map fun r => r.getD k []) (capG rows) = true := fun k hk => List.all_eq_true.mp h2 k (List.mem_range.mpr hk)
  have facts : ∀ k, k < n → (∀ p ∈ (rows.map fun r => r.getD k []), p.length = widthN (rows.map fun r => r.getD k []) ∧ partN p = true) ∧ fullN (rows.map fun r => r.getD k []) = true ∧ widthN (rows.map fun r => r.getD k []) ≤ capG rows ∧ (hasCutN (rows.map fun r => r.getD k []) = true → widthN (rows.map fun r => r.getD k []) = capG rows) := fun k hk => by
    have := hcg k hk
    unfold colGoodN at this
    simp only [Bool.and_eq_true, List.all_eq_true, decide_eq_true_eq, Bool.or_eq_true, Bool.not_eq_true'] at this
    obtain ⟨a, b, c, d⟩ := this
    exact ⟨a, b, c, fun z => d.resolve_left (by rw [z]; decide)⟩
  have a1 : (rows.all fun r => r.all isCellN) = true := List.all_eq_true.mpr fun r hr => List.all_eq_true.mpr fun p hp => by
    obtain ⟨k, hk, e⟩ := mem_getD hp
    rw [hlen r hr] at hk
    exact (part_cell (hs r hr p hp)).mp ((facts k hk).1 p (List.mem_map.mpr ⟨r, hr, e⟩)).2
  have a2 : (rows.any fun r => !decide (r.length = n)) = false := List.any_eq_false.mpr fun r hr => by
    rw [hlen r hr]
    simp
  have ecs : colsOf rows n = (List.range n).map fun k => rows.map fun r => r.getD k [] := if_neg hne
  rw [ecs, a1, a2]
  have a3 : ((List.range n).map fun k => rows.map fun r => r.getD k []).all isColN = true := List.all_eq_true.mpr fun c hc => by
    obtain ⟨k, hk, rfl⟩ := List.mem_map.mp hc
    have hk' := List.mem_range.mp hk
    obtain ⟨f1, f2, _, _⟩ := facts k hk'
    unfold isColN
    rw [show ((rows.map fun r => r.getD k []).any fun l => !decide (l.length = widthN (rows.map fun r => r.getD k []))) = false from List.any_eq_false.mpr fun p hp => by rw [(f1 p hp).1]; simp]
    simp only [Bool.not_false, Bool.true_and]
    refine decide_eq_true ?_
    obtain ⟨r0, hr0⟩ := List.exists_mem_of_ne_nil _ hne
    have hp0 : r0.getD k [] ∈ rows.map fun r => r.getD k [] := List.mem_map.mpr ⟨r0, hr0, rfl⟩
    have w1 : 1 ≤ widthN (rows.map fun r => r.getD k []) := by
      rw [← (f1 _ hp0).1]
      have := (part_cell (hs r0 hr0 _ (getD_mem (by rw [hlen r0 hr0]; exact hk')))).mp (f1 _ hp0).2
      exact (cell_pos this).1
    unfold longR
    have m := Cb.foldl_max_le ((rows.map fun r => r.getD k []).map fun l => (rsN l).length) 1
    generalize ((rows.map fun r => r.getD k []).map fun l => (rsN l).length).foldl max 1 = M at m
    obtain ⟨m1, m2, m3⟩ := m
    have up : M ≤ widthN (rows.map fun r => r.getD k []) := by
      rcases m3 with m3 | m3
      · omega
      · obtain ⟨p, hp, e⟩ := List.mem_map.mp m3
        have := rsN_len p
        rw [(f1 p hp).1] at this
        omega
    have lo : widthN (rows.map fun r => r.getD k []) ≤ M := by
      unfold fullN at f2
      rw [Bool.or_eq_true] at f2
      rcases f2 with f2 | f2
      · have := of_decide_eq_true f2
        omega
      · obtain ⟨p, hp, e⟩ := List.any_eq_true.mp f2
        have := m2 _ (List.mem_map.mpr ⟨p, hp, rfl⟩)
        rw [last_rs (by simpa using e), (f1 p hp).1] at this
        exact this
    omega
  have a4 : shareN ((List.range n).map fun k => rows.map fun r => r.getD k []) = true := by
    unfold shareN
    rw [Bool.or_eq_true]
    by_cases hn : ((List.range n).map fun k => rows.map fun r => r.getD k []).filter hasCutN = []
    · exact .inl (decide_eq_true hn)
    · refine .inr (decide_eq_true ?_)
      have hcap : ∀ c ∈ ((List.range n).map fun k => rows.map fun r => r.getD k []).filter hasCutN, widthN c = capG rows := fun c hc => by
        obtain ⟨b1, b2⟩ := List.mem_filter.mp hc
        obtain ⟨k, hk, rfl⟩ := List.mem_map.mp b1
        exact (facts k (List.mem_range.mp hk)).2.2.2 b2
      have hmin := minN_mem (l := (((List.range n).map fun k => rows.map fun r => r.getD k []).filter hasCutN).map widthN) (fun z => hn (List.map_eq_nil_iff.mp z))
      obtain ⟨c, hc, e⟩ := List.mem_map.mp hmin
      rw [hcap c hc] at e
      rw [← e]
      obtain ⟨m1, m2, m3⟩ := Cb.foldl_max_le (((List.range n).map fun k => rows.map fun r => r.getD k []).map widthN) 0
      unfold maxN
      have x1 := m2 _ (List.mem_map.mpr ⟨c, (List.mem_filter.mp hc).1, rfl⟩)
      rw [hcap c hc] at x1
      rcases m3 with m3 | m3
      · omega
      · obtain ⟨c', hc', e'⟩ := List.mem_map.mp m3
        obtain ⟨k, hk, rfl⟩ := List.mem_map.mp hc'
        have := (facts k (List.mem_range.mp hk)).2.2.1
        omega
  rw [a3, a4]
  rfl
theorem sheet_good (hs : ∀ r ∈ rows, ∀ p ∈ r, ∀ c ∈ p, Cb.okc c ∨ c = 126) (h200 : ∀ r ∈ rows, ∀ p ∈ r, p.length ≤ 200) (h : isSheetN rows = true) : goodN rows = true := by
  by_cases hne : rows = []
  · subst hne; rfl
  have S := sheet_of h
  unfold goodN
  generalize (rows.headD []).length = n at *
  rw [Bool.and_eq_true, decide_eq_false hne, Bool.false_or]
  refine ⟨List.all_eq_true.mpr fun r hr => decide_eq_true (S.len r hr), List.all_eq_true.mpr fun k hk => ?_⟩
  have hk' := List.mem_range.mp hk
  have hin : ∀ p ∈ (rows.map fun r => r.getD k []), ∃ r ∈ rows, r.getD k [] = p ∧ p ∈ r := fun p hp => by
    obtain ⟨r, hr, e⟩ := List.mem_map.mp hp
    exact ⟨r, hr, e, e ▸ getD_mem (by rw [S.len r hr]; exact hk')⟩
  have hw : ∀ p ∈ (rows.map fun r => r.getD k []), p.length = widthN (rows.map fun r => r.getD k []) := fun p hp => by
    obtain ⟨r, hr, e, _⟩ := hin p hp
    rw [← e]
    exact S.wid r hr k hk'
  obtain ⟨r0, hr0⟩ := List.exists_mem_of_ne_nil _ hne
  have hm0 : r0.getD k [] ∈ r0 := getD_mem (by rw [S.len r0 hr0]; exact hk')
  have hp0 : r0.getD k [] ∈ rows.map fun r => r.getD k [] := List.mem_map.mpr ⟨r0, hr0, rfl⟩
  have w1 : 1 ≤ widthN (rows.map fun r => r.getD k []) := by rw [← hw _ hp0]; exact (cell_pos (S.cell r0 hr0 _ hm0)).1
  obtain ⟨g1, g2⟩ := capG0_ge rows
  have wle : widthN (rows.map fun r => r.getD k []) ≤ capG rows := by
    unfold capG
    split
    · rw [← hw _ hp0]
      exact h200 r0 hr0 _ hm0
    · rename_i hz
      rcases g2 with g2 | ⟨r2, hr2, p, hp, hpc, e⟩
      · exact absurd g2 hz
      · obtain ⟨j, hj, ej⟩ := mem_getD hp
        rw [S.len r2 hr2] at hj
        have := S.cap r2 hr2 j hj (by rw [ej]; exact hpc) r0 hr0 k hk'
        rw [ej, hw _ hp0] at this
        rw [e]
        exact this
  unfold colGoodN
  simp only [Bool.and_eq_true, List.all_eq_true, decide_eq_true_eq, Bool.or_eq_true, Bool.not_eq_true']
  refine ⟨fun p hp => ?_, ?_, wle, ?_⟩
  · obtain ⟨r, hr, e, hpr⟩ := hin p hp
    exact ⟨hw p hp, (part_cell (hs r hr p hpr)).mpr (S.cell r hr p hpr)⟩
  · unfold fullN
    rw [Bool.or_eq_true]
    by_cases h1 : widthN (rows.map fun r => r.getD k []) = 1
    · exact .inl (decide_eq_true h1)
    · refine .inr ?_
      have hf := S.full hne k hk'
      have m := (Cb.foldl_max_le ((rows.map fun r => r.getD k []).map fun l => (rsN l).length) 1).2.2
      unfold longR at hf
      rw [← hf] at m
      rcases m with m | m
      · exact absurd m h1
      · obtain ⟨p, hp, e⟩ := List.mem_map.mp m
        refine List.any_eq_true.mpr ⟨p, hp, ?_⟩
        have hwp := hw p hp
        obtain ⟨nb, e1, e2⟩ := rsN_eq p
        have hn0 : nb = 0 := by omega
        rw [hn0] at e1
        have e3 : rsN p = p := by
          have : p = rsN p := by simpa using e1
          exact this.symm
        have := rsN_good (l := p)
        rw [e3] at this
        unfold Cb.ends32 at this
        rw [this]
        rfl
  · by_cases hc : hasCutN (rows.map fun r => r.getD k []) = true
    · refine .inr ?_
      obtain ⟨p, hp, hpc⟩ := List.any_eq_true.mp hc
      obtain ⟨r, hr, e, hpr⟩ := hin p hp
      have b1 := g1 r hr p hpr hpc
      have hpl := (cell_pos (S.cell r hr p hpr)).1
      have hz : ¬ capG0 rows = 0 := by omega
      have eG : capG rows = capG0 rows := if_neg hz
      rcases g2 with g2 | ⟨r2, hr2, p2, hp2, hpc2, e2⟩
      · exact absurd g2 hz
      · obtain ⟨j, hj, ej⟩ := mem_getD hp2
        rw [S.len r2 hr2] at hj
        have := S.cap r hr k hk' (by rw [e]; exact hpc) r2 hr2 j hj
        rw [ej, e] at this
        have hwp := hw p hp
        omega
    · exact .inl (Bool.eq_false_iff.mpr hc)
theorem good_is (hs : ∀ r ∈ rows, ∀ p ∈ r, ∀ c ∈ p, Cb.okc c ∨ c = 126) (h200 : ∀ r ∈ rows, ∀ p ∈ r, p.length ≤ 200) : goodN rows = isSheetN rows := by
  cases h : isSheetN rows with
  | true => exact sheet_good hs h200 h
  | false =>
    cases h2 : goodN rows with
    | false => rfl
    | true => rw [good_sheet hs h2] at h; cases h
end
end L2
/-! ### lines that are spoilt: their parts stay short -/
namespace L2
set_option linter.all false
def PB (n : Nat) (l : List Nat) : Prop := ∀ p ∈ splitN 124 l, p.length ≤ n
theorem splitN_app (c : Nat) : ∀ a b : List Nat, ∃ init last h t, splitN c a = init ++ [last] ∧ splitN c b = h :: t ∧ splitN c (a ++ b) = init ++ (last ++ h) :: t
  | [], b => by
    cases e : splitN c b with
    | nil => exact absurd e (splitN_ne c b)
    | cons h t => exact ⟨[], [], h, t, rfl, rfl, e⟩
  | x :: a, b => by
    obtain ⟨init, last, h, t, e1, e2, e3⟩ := splitN_app c a b
    by_cases hx : x = c
    · refine ⟨[] :: init, last, h, t, ?_, e2, ?_⟩
      · unfold splitN
        rw [if_pos hx, e1]
        rfl
      · show splitN c (x :: (a ++ b)) = _
        rw [splitN, if_pos hx, e3]
        rfl
    · cases init with
      | nil =>
        refine ⟨[], x :: last, h, t, ?_, e2, ?_⟩
        · unfold splitN
          rw [if_neg hx, e1]
          rfl
        · show splitN c (x :: (a ++ b)) = _
          rw [splitN, if_neg hx, e3]
          rfl
      | cons i0 ir =>
        refine ⟨(x :: i0) :: ir, last, h, t, ?_, e2, ?_⟩
        · unfold splitN
          rw [if_neg hx, e1]
          rfl
        · show splitN c (x :: (a ++ b)) = _
          rw [splitN, if_neg hx, e3]
          rfl
theorem PB.app {m n : Nat} {a b : List Nat} (ha : PB m a) (hb : PB n b) : PB (m + n) (a ++ b) := by
  obtain ⟨init, last, h, t, e1, e2, e3⟩ := splitN_app 124 a b
  intro p hp
  rw [e3] at hp
  rcases List.mem_append.mp hp with hp | hp
  · have := ha p (by rw [e1]; exact List.mem_append_left _ hp)
    omega
  · rcases List.mem_cons.mp hp with rfl | hp
    · have h1 := ha last (by rw [e1]; exact List.mem_append_right _ (List.mem_singleton.mpr rfl))
      have h2 := hb h (by rw [e2]; exact List.mem_cons_self)
      rw [List.length_append]
      omega
    · have := hb p (by rw [e2]; exact List.mem_cons_of_mem _ hp)
      omega
theorem PB.left {n : Nat} {a b : List Nat} (h : PB n (a ++ b)) : PB n a := by
  obtain ⟨init, last, hd, t, e1, e2, e3⟩ := splitN_app 124 a b
  intro p hp
  rw [e1] at hp
  rcases List.mem_append.mp hp with hp | hp
  · exact h p (by rw [e3]; exact List.mem_append_left _ hp)
  · rw [List.mem_singleton] at hp
    subst hp
    have := h (p ++ hd) (by rw [e3]; exact List.mem_append_right _ List.mem_cons_self)
    rw [List.length_append] at this
    omega
theorem PB.right {n : Nat} {a b : List Nat} (h : PB n (a ++ b)) : PB n b := by
  obtain ⟨init, last, hd, t, e1, e2, e3⟩ := splitN_app 124 a b
  intro p hp
  rw [e2] at hp
  rcases List.mem_cons.mp hp with rfl | hp
  · have := h (last ++ p) (by rw [e3]; exact List.mem_append_right _ List.mem_cons_self)
    rw [List.length_append] at this
    omega
  · exact h p (by rw [e3]; exact List.mem_append_right _ (List.mem_cons_of_mem _ hp))
theorem PB.small (l : List Nat) : PB l.length l := (splitN_len 124 l).2
theorem PB.mono {m n : Nat} {l : List Nat} (h : PB m l) (le : m ≤ n) : PB n l := fun p hp => Nat.le_trans (h p hp) le
def Signs (l : List Nat) : Prop := ∀ c ∈ l, Cb.okc c ∨ c = 124 ∨ c = 126
structure Line0 (l : List Nat) : Prop where
  signs : Signs l
  len : l.length ≤ 600
  parts : PB 60 l
structure Line1 (l : List Nat) : Prop where
  signs : Signs l
  len : l.length ≤ 1300
  parts : PB 200 l
theorem Line0.one {l : List Nat} (h : Line0 l) : Line1 l := ⟨h.signs, by have := h.len; omega, h.parts.mono (by decide)⟩
theorem Line0.edit {l x : List Nat} (h : Line0 l) (hx : x.length ≤ 13) (sx : Signs x) (p q : Nat) : Line1 (l.take p ++ x ++ l.drop q) := by
  have hl := h.len
  have h1 : PB 60 (l.take p) := PB.left (b := l.drop p) (by rw [List.take_append_drop]; exact h.parts)
  have h2 : PB 60 (l.drop q) := PB.right (a := l.take q) (by rw [List.take_append_drop]; exact h.parts)
  refine ⟨fun c hc => ?_, ?_, ?_⟩
  · rcases List.mem_append.mp hc with hc | hc
    · rcases List.mem_append.mp hc with hc | hc
      · exact h.signs c (List.mem_of_mem_take hc)
      · exact sx c hc
    · exact h.signs c (List.mem_of_mem_drop hc)
  · rw [List.length_append, List.length_append, List.length_take, List.length_drop]
    by_cases e : p ≤ q
    · omega
    · omega
  · exact ((h1.app (PB.small x)).app h2).mono (by omega)
theorem Line0.more {l x : List Nat} (h : Line0 l) (hx : x.length ≤ 13) (sx : Signs x) : Line1 (l ++ x) := by
  have hl := h.len
  refine ⟨fun c hc => ?_, ?_, ?_⟩
  · rcases List.mem_append.mp hc with hc | hc
    · exact h.signs c hc
    · exact sx c hc
  · rw [List.length_append]
    omega
  · exact (h.parts.app (PB.small x)).mono (by omega)
theorem Line1.rows {ls : List (List Nat)} (h : ∀ l ∈ ls, Line1 l) : (∀ r ∈ rowsOf ls, ∀ p ∈ r, ∀ c ∈ p, Cb.okc c ∨ c = 126) ∧ ∀ r ∈ rowsOf ls, ∀ p ∈ r, p.length ≤ 200 := by
  constructor
  · intro r hr p hp c hc
    obtain ⟨l, hl, rfl⟩ := List.mem_map.mp hr
    obtain ⟨h1, h2⟩ := splitN_mem 124 l p hp c hc
    rcases (h l hl).signs c h1 with z | z | z
    · exact .inl z
    · exact absurd z h2
    · exact .inr z
  · intro r hr p hp
    obtain ⟨l, hl, rfl⟩ := List.mem_map.mp hr
    exact (h l hl).parts p hp
theorem shown_line {t : List (List (List Nat))} {cols cap : Nat} (ht : Cb.TableOk cols 63 60 t) (hc : 1 ≤ cols) (hc9 : cols ≤ 9) (h2 : 2 ≤ cap) : ∀ l ∈ Cb.shownOf t cap, Line0 l := by
  intro l hl
  obtain ⟨r, hr, rfl⟩ := List.mem_map.mp hl
  have hrl := (ht.rows r hr).1
  have hcell : ∀ q ∈ Cb.cellsOf t cap r, q.length ≤ 60 ∧ 124 ∉ q ∧ ∀ c ∈ q, Cb.okc c ∨ c = 126 := fun q hq => by
    unfold Cb.cellsOf at hq
    obtain ⟨k, hk, rfl⟩ := List.mem_map.mp hq
    have hk' := List.mem_range.mp hk
    have hw : Cb.colWidth t cap k ≤ 60 := Cb.colWidth_le (by decide) fun r hr => Cb.getD_le (fun f hf => by have := ((ht.rows r hr).2 f hf).2; omega) k
    refine ⟨by rw [Cb.cellOf_len (Cb.colWidth_pos t h2 k)]; exact hw, (cell_at ht h2 hr hk').2.2.1, fun c hcm => ?_⟩
    have hg := ((ht.rows r hr).2 _ (List.getElem_mem hk')).1
    have e : r.getD k [] = r[k] := by rw [List.getD_eq_getElem?_getD, List.getElem?_eq_getElem hk'] <;> rfl
    rw [e] at hcm
    unfold Cb.cellOf at hcm
    split at hcm
    · rcases List.mem_append.mp hcm with z | z
      · exact .inl (hg.1 c (List.mem_of_mem_take z))
      · exact .inr (List.mem_singleton.mp z)
    · exact .inl (fill_ok hg.1 _ c hcm)
  have hne : Cb.cellsOf t cap r ≠ [] := fun z => by
    have := congrArg List.length z
    rw [Cb.cellsOf_len, List.length_nil] at this
    omega
  have hsp : splitN 124 (Cb.lineOf t cap r) = Cb.cellsOf t cap r := splitN_join 124 _ hne fun q hq => (hcell q hq).2.1
  refine ⟨fun c hcm => ?_, ?_, fun p hp => ?_⟩
  · by_cases e : c = 124
    · exact .inr (.inl e)
    · have : ∀ cs : List (List Nat), (∀ q ∈ cs, ∀ c ∈ q, Cb.okc c ∨ c = 126) → ∀ c ∈ joinN [124] cs, c = 124 ∨ Cb.okc c ∨ c = 126 := by
        intro cs
        induction cs with
        | nil => intro _ c hc; cases hc
        | cons q rest ih =>
          intro hq c hc
          cases rest with
          | nil => exact .inr (hq q List.mem_cons_self c hc)
          | cons q2 rest2 =>
            rw [joinN_cons2 [124] q (by simp)] at hc
            rcases List.mem_append.mp hc with hc | hc
            · rcases List.mem_append.mp hc with hc | hc
              · exact .inr (hq q List.mem_cons_self c hc)
              · exact .inl (List.mem_singleton.mp hc)
            · exact ih (fun x hx => hq x (List.mem_cons_of_mem _ hx)) c hc
      rcases this _ (fun q hq => (hcell q hq).2.2) c hcm with z | z | z
      · exact absurd z e
      · exact .inl z
      · exact .inr (.inr z)
  · have h3 := joinN_len [124] (Cb.cellsOf t cap r) hne
    have h4 := Cb.preN_le 60 (Cb.cellsOf t cap r) (Cb.cellsOf t cap r).length fun c hc => (hcell c hc).1
    have h5 : (Cb.cellsOf t cap r).length * (60 + 1) ≤ 9 * 61 := Nat.mul_le_mul (by rw [Cb.cellsOf_len, hrl]; exact hc9) (Nat.le_refl _)
    unfold Cb.lineOf
    omega
  · rw [hsp] at hp
    exact (hcell p hp).1
end L2
namespace K05
open PySem L2
set_option linter.all false
def top (i : Nat) : Stmt := PySem.Challenge.pw_columnbook_k05_whole_read_or_refused.main.body.getD i (.Pass ⟨0, 0, 0, 0⟩)
abbrev sis_field_sign : Stmt := top 11
abbrev sis_column_sign : Stmt := top 12
abbrev scolumns_of : Stmt := top 15
abbrev sis_cut : Stmt := top 19
abbrev stold_by : Stmt := top 20
abbrev stold_by_row : Stmt := top 21
abbrev sis_cell : Stmt := top 22
abbrev shas_cells_alone : Stmt := top 23
abbrev shas_cut : Stmt := top 24
abbrev swidth_of_cells : Stmt := top 25
abbrev sis_column : Stmt := top 26
abbrev sshare_a_cap : Stmt := top 27
abbrev sis_sheet : Stmt := top 28
abbrev sread : Stmt := top 29
abbrev s_law_whole : Stmt := top 31
abbrev s_law_at : Stmt := top 32
abbrev s_law_alike : Stmt := top 33
abbrev s_law_field_of : Stmt := top 34
abbrev s_law_table_of : Stmt := top 35
abbrev s_law_width_of : Stmt := top 36
abbrev s_law_written : Stmt := top 37
abbrev s_law_spoilt : Stmt := top 38
abbrev s_law_part_good : Stmt := top 39
abbrev s_law_column_good : Stmt := top 40
abbrev s_law_good : Stmt := top 41
abbrev s_law_are_fields : Stmt := top 42
abbrev s_law_written_again : Stmt := top 43
abbrev s_law_refused_by_any : Stmt := top 44
abbrev slaw : Stmt := top 45
structure Gb (mg : Str → Option Value) : Prop where
  len : mg "len" = none
  ord : mg "ord" = none
  range : mg "range" = none
  max : mg "max" = none
  min : mg "min" = none
  int : mg "int" = none
  isi : mg "isinstance" = none
  str : mg "str" = none
  bool : mg "bool" = none
  list : mg "list" = none
  tuple : mg "tuple" = none
  all : mg "all" = none
  any : mg "any" = none
  zip : mg "zip" = none
  enumerate : mg "enumerate" = none
theorem smallN {n : Nat} (h : n ≤ 100000) : n ≤ sizeLine := by rw [sizeLine_eq]; omega
def spWhole : Sp := fun vs H Q _ => ∃ n : Int, vs = [.int n] ∧ Q (.bl true) H
def spAt (K : PySem.W.Frag) : Sp := fun vs H Q _ => ∃ (a : Addr) (ns : List Int) (k : Nat), vs = [.ref a, .int k] ∧ SqL K H a (ns.map V.int) ∧ Q (.int (ns.getD k 0)) H
def spFO : Sp := fun vs H Q _ => ∃ a most : Int, vs = [.int a, .int most] ∧ 0 ≤ most ∧ most ≤ 100 ∧ ∀ H', Same H H' → Q (.str (tx (Cb.fieldOf a most))) H'
def spAlike : Sp := fun vs H Q _ => ∃ (D : Dt) (f d : V), vs = [f, d] ∧ Rep H D f ∧ Rep H D d ∧ D.size ≤ 50000 ∧ ∀ H', Same H H' → Q (.bl true) H'
section
variable {P : Program} {w : World} {K : PySem.W.Frag} {mg : Str → Option Value} {base : Heap}
theorem sc_law_whole : FnScope ["_law_found"] ["_law_found"] (defScope s_law_whole) := ⟨rfl, rfl, rfl, by decide +kernel, rfl, by decide +kernel, by decide +kernel⟩
theorem ok_whole {f : Addr} {fd : FuncData} (F : Fun K "_law_whole" "_law_whole" s_law_whole f fd) (G : Gb mg) : FnOk P w K mg base CX0 1 f fd ["_law_found"] spWhole := by
  refine F.ok sc_law_whole (fun vs H Q E h => ?_) (fun cdv A outer s H vs Q E hr h => ?_)
  · obtain ⟨n, rfl, _⟩ := h
    rfl
  obtain ⟨n, rfl, q⟩ := h
  refine ⟨_, (pss_one (ps_ret (pe_and (pe_callB call_isi rfl G.isi bt_isinstance (pa_cons (pv 0) (pa_cons (pe_bltn (v := .ty "int") rfl G.int bt_int rfl) pa_nil))) (pe_one (pe_not (pe_callB call_isi rfl G.isi bt_isinstance (pa_cons (pv 0) (pa_cons (pe_bltn (v := .ty "bool") rfl G.bool bt_bool rfl) pa_nil)))))))), ?_⟩
  exact ⟨_, rfl, _, _, _, _, rfl, TyOf.int _, kit_same _ _, _, rfl, iteT ⟨_, rfl, _, _, _, _, rfl, TyOf.int _, kit_int_bool _, _, rfl, q⟩⟩
theorem sc_law_at : FnScope ["_law_script", "_law_k"] ["_law_script", "_law_k"] (defScope s_law_at) := ⟨rfl, rfl, rfl, by decide +kernel, rfl, by decide +kernel, by decide +kernel⟩
theorem ok_at {f : Addr} {fd : FuncData} (F : Fun K "_law_at" "_law_at" s_law_at f fd) (G : Gb mg) : FnOk P w K mg base CX0 1 f fd ["_law_script", "_law_k"] (spAt K) := by
  refine F.ok sc_law_at (fun vs H Q E h => ?_) (fun cdv A outer s H vs Q E hr h => ?_)
  · obtain ⟨a, ns, k, rfl, _⟩ := h
    rfl
  obtain ⟨a, ns, k, rfl, hS, q⟩ := h
  refine ⟨_, (pss_cons (ps_if (pt_cmpR op_lt (pv 1) (pe_callB call_len_seq rfl G.len bt_len (pa_cons (pv 0) pa_nil)) (nomark _)) (pss_one (ps_ret (pe_ix ix_list (pv 0) (pv 1) (fun _ _ => rfl)))) pss_nil)
    (pss_one (ps_ret pe_int))), ?_⟩
  have hl : (ns.map V.int).length = ns.length := List.length_map _
  refine ⟨_, rfl, _, rfl, a, _, rfl, .inl hS, _, _, rfl, rfl, _, rfl, ?_⟩
  refine ite2 (fun c => ?_) (fun c => ?_)
  · have c' : (k : Int) < (((ns.map V.int).length : Nat) : Int) := of_decide_eq_true c
    rw [hl] at c'
    have hk : k < ns.length := by omega
    refine ⟨_, rfl, _, rfl, a, _, _, _, rfl, rfl, hS, atI_nat (j := k) (v := .int ns[k]) (by rw [List.getElem?_map, List.getElem?_eq_getElem hk] <;> rfl), ?_⟩
    have e : ns.getD k 0 = ns[k] := by rw [List.getD_eq_getElem?_getD, List.getElem?_eq_getElem hk] <;> rfl
    rw [e] at q
    exact q
  · have c' : ¬ (k : Int) < (((ns.map V.int).length : Nat) : Int) := of_decide_eq_false (Bool.eq_false_iff.mpr c)
    rw [hl] at c'
    have e : ns.getD k 0 = 0 := by rw [List.getD_eq_getElem?_getD, List.getElem?_eq_none (by omega)] <;> rfl
    rw [e] at q
    exact q
theorem pick_sign (a : Int) (i : Nat) : atI [V.str (tx (cutN Cb.signs (some ((a / 3 + i * (2 + a % 5)) % 91)) (some ((a / 3 + i * (2 + a % 5)) % 91 + 1)))), V.str (tx [32])] (if decide (V.int ((a + i) % 6) = V.int 1) = true then 1 else 0) = some (V.str (tx [Cb.fsign a i])) := by
  have h1 := Int.emod_nonneg (a / 3 + i * (2 + a % 5)) (show (91 : Int) ≠ 0 by decide)
  have h2 := Int.emod_lt_of_pos (a / 3 + i * (2 + a % 5)) (show (0 : Int) < 91 by decide)
  rw [cut_one Cb.signs h1 (by rw [Cb.signs_len]; omega)]
  unfold Cb.fsign
  by_cases hc : (a + i) % 6 = 1
  · rw [if_pos (decide_eq_true (congrArg V.int hc)), if_pos hc]
    exact atI_nat (j := 1) rfl
  · rw [if_neg (fun z => hc (V.int.inj (of_decide_eq_true z))), if_neg hc]
    exact atI_nat (j := 0) rfl
theorem sc_law_field_of : FnScope ["_law_cell", "_law_most", "_law_signs", "_law_made", "_law_k", "_law_spot"] ["_law_cell", "_law_most"] (defScope s_law_field_of) := ⟨rfl, rfl, rfl, by decide +kernel, rfl, by decide +kernel, by decide +kernel⟩
theorem ok_field_of {f : Addr} {fd : FuncData} (F : Fun K "_law_field_of" "_law_field_of" s_law_field_of f fd) (G : Gb mg) : FnOk P w K mg base CX0 1 f fd ["_law_cell", "_law_most"] spFO := by
  refine F.ok sc_law_field_of (fun vs H Q E h => ?_) (fun cdv A outer s H vs Q E hr h => ?_)
  · obtain ⟨a, most, rfl, _⟩ := h
    rfl
  obtain ⟨a, most, rfl, hm0, hm1, q⟩ := h
  refine ⟨_, (pss_cons (ps_set (i := 2) sc_law_field_of.nd rfl (by first | exact Or.inl rfl | exact Or.inr rfl) (pe_tx (l := Cb.signs.take 63) (by decide +kernel)))
    (pss_cons (ps_set (i := 2) sc_law_field_of.nd rfl (by first | exact Or.inl rfl | exact Or.inr rfl) (pe_op op_add_tx (pv 2) (pe_tx (l := Cb.signs.drop 63) (by decide +kernel))))
    (pss_cons (ps_set (i := 3) sc_law_field_of.nd rfl (by first | exact Or.inl rfl | exact Or.inr rfl) (pe_tx (l := []) (by decide +kernel)))
    (pss_cons (ps_for PassesOwn.never rfl (pi_range1 rfl G.range (pa_cons (pe_op op_mod (pe_op op_fdiv (pv 0) pe_int) (pe_op op_add (pv 1) pe_int)) pa_nil)) (pg_name (i := 4) sc_law_field_of.nd rfl (by first | exact Or.inl rfl | exact Or.inr rfl)) (pss_cons (ps_set (i := 5) sc_law_field_of.nd rfl (by first | exact Or.inl rfl | exact Or.inr rfl) (pe_op op_mod (pe_op op_add (pe_op op_fdiv (pv 0) pe_int) (pe_op op_mul (pv 4) (pe_op op_add pe_int (pe_op op_mod (pv 0) pe_int)))) (pe_callB call_len_tx rfl G.len bt_len (pa_cons (pv 2) pa_nil))))
    (pss_one (ps_set (i := 3) sc_law_field_of.nd rfl (by first | exact Or.inl rfl | exact Or.inr rfl) (pe_op op_add_tx (pv 3) (pe_ix ix_list (pe_lst (pa_cons (pe_slice sl_str (pv 2) (po_some (pv 5)) (po_some (pe_op op_add (pv 5) pe_int))) (pa_cons (pe_tx (l := [32]) (by decide +kernel)) pa_nil))) (pe_callTy call_int1 rfl G.int bt_int (pa_cons (pe_cmpR op_eq (pe_op op_mod (pe_op op_add (pv 0) (pv 4)) pe_int) pe_int (nomark _)) pa_nil)) (fun _ _ => rfl)))))))
    (pss_cons (ps_if (pt_val (pe_bm PySem.F.plainAttrs_str PySem.F.slot_str_endswith PySem.F.type_str_endswith mt_endswith (pv 3) (pa_cons (pe_tx (l := [32]) (by decide +kernel)) pa_nil))) (pss_one (ps_set (i := 3) sc_law_field_of.nd rfl (by first | exact Or.inl rfl | exact Or.inr rfl) (pe_op op_add_tx (pe_slice sl_str (pv 3) po_none (po_some (pe_un un_neg pe_int))) (pe_tx (l := [122]) (by decide +kernel))))) pss_nil)
    (pss_one (ps_ret (pv 3)))))))), ?_⟩
  have hsg : Cb.signs.take 63 ++ Cb.signs.drop 63 = Cb.signs := List.take_append_drop 63 Cb.signs
  have h7 := Int.emod_nonneg (a / 7) (show most + 1 ≠ 0 by omega)
  have h8 := Int.emod_lt_of_pos (a / 7) (show (0 : Int) < most + 1 by omega)
  refine ⟨_, rfl, _, _, rfl, rfl, (by decide), _, rfl, _, _, rfl, rfl, ⟨by decide, by decide⟩, _, rfl, _, _, rfl, rfl, _, _, rfl, rfl, (by omega), _, rfl, by omega, by omega, ?_⟩
  rw [hsg]
  refine for_range (lo := 0) (n := (a / 7 % (most + 1)).toNat) (fun i σ H' => ∃ k sp, σ = [some (.int a), some (.int most), some (.str (tx Cb.signs)), some (.str (tx (Cb.fraw a i))), k, sp] ∧ Same H H') ⟨none, none, rfl, Same.refl H⟩ ?_ ?_
  · rintro i σ H' hi ⟨k, sp, rfl, hs⟩
    refine ⟨_, rfl, _, _, rfl, rfl, ⟨by decide, by decide⟩, _, rfl, _, rfl, _, _, rfl, rfl, (by show (0 : Int) < 5; decide), _, _, rfl, rfl, _, _, rfl, rfl, .inl ⟨by omega, by omega⟩, _, _, rfl, rfl, _, rfl, _, rfl, smallN (by rw [Cb.signs_len]; decide), _, _, rfl, rfl, (by show (0 : Int) < ((Cb.signs.length : Nat) : Int); rw [Cb.signs_len]; decide), ?_⟩
    refine ⟨_, rfl, _, rfl, _, rfl, _, rfl, _, rfl, _, _, rfl, rfl, _, rfl, _, rfl, smallN (by rw [Cb.signs_len]; decide), (by show 2 ≤ sizeLine; rw [sizeLine_eq]; decide), fun p hp => ?_⟩
    refine ⟨_, rfl, _, rfl, _, _, rfl, rfl, _, _, rfl, rfl, (by show (0 : Int) < 6; decide), rfl, .inr ⟨_, rfl, ?_⟩⟩
    have ez : ((0 : Int) + (i : Int)) = (i : Int) := Int.zero_add _
    have el : ((Cb.signs.length : Nat) : Int) = 91 := by rw [Cb.signs_len] <;> rfl
    rw [ez, el]
    refine ⟨p, _, _, _, rfl, rfl, SqL.of upd_same, pick_sign a i, _, _, rfl, rfl, ?_, ?_⟩
    · rw [Cb.fraw_len]
      exact smallN (by show i + 1 ≤ 100000; omega)
    · rw [← Cb.fraw_succ]
      exact ⟨_, _, rfl, hs.trans (same_new hp _)⟩
  · rintro σ H' ⟨k, sp, rfl, hs⟩
    have hlen := Cb.fraw_len a (a / 7 % (most + 1)).toNat
    refine ⟨_, rfl, rfl, _, _, rfl, rfl, _, rfl, ?_⟩
    refine ite2 (fun c => ?_) (fun c => ?_)
    · refine ⟨_, rfl, _, rfl, _, rfl, _, rfl, smallN (by rw [hlen]; omega), _, _, rfl, rfl, ?_, ?_⟩
      · rw [cut_last]
        exact smallN (by rw [List.length_dropLast, hlen]; show _ + 1 ≤ 100000; omega)
      · refine ⟨_, rfl, ?_⟩
        rw [cut_last]
        have e : Cb.fieldOf a most = (Cb.fraw a (a / 7 % (most + 1)).toNat).dropLast ++ [122] := if_pos c
        have q' := q H' hs
        rw [e] at q'
        exact q'
    · refine ⟨_, rfl, ?_⟩
      have e : Cb.fieldOf a most = Cb.fraw a (a / 7 % (most + 1)).toNat := if_neg c
      have q' := q H' hs
      rw [e] at q'
      exact q'
theorem sc_law_alike : FnScope ["_law_found", "_law_due", "_law_left", "_law_right", "_law_one", "_law_two"] ["_law_found", "_law_due"] (defScope s_law_alike) := ⟨rfl, rfl, rfl, by decide +kernel, rfl, by decide +kernel, by decide +kernel⟩
theorem ok_alike {f g : Addr} {fd gd : FuncData} (F : Fun K "_law_alike" "_law_alike" s_law_alike f fd) (G : Gb mg) (G_law_whole : FnOk P w K mg base CX0 1 g gd ["_law_found"] spWhole) (b_law_whole : Binds K gd ["_law_found"] []) (k_law_whole : PySem.W.keepIn K (.ref g) = true) (m_law_whole : mg "_law_whole" = some (.ref g)) :
    FnOk P w K mg base CX0 2 f fd ["_law_found", "_law_due"] spAlike := by
  refine F.ok sc_law_alike (fun vs H Q E h => ?_) (fun cdv A outer s H vs Q E hr h => ?_)
  · obtain ⟨D, f, d, rfl, _⟩ := h
    rfl
  obtain ⟨D, f, d, rfl, rf, rd, hz, q⟩ := h
  refine ⟨_, (pss_cons (ps_set (i := 2) sc_law_alike.nd rfl (by first | exact Or.inl rfl | exact Or.inr rfl) (pe_lst (pa_cons (pv 0) pa_nil)))
    (pss_cons (ps_set (i := 3) sc_law_alike.nd rfl (by first | exact Or.inl rfl | exact Or.inr rfl) (pe_lst (pa_cons (pv 1) pa_nil)))
    (pss_cons (ps_while PassesOwn.never (pt_cmpR (op_ne_nil hr.units0) (pv 3) (pe_lst pa_nil) (nomark _)) (pss_cons (ps_set (i := 4) sc_law_alike.nd rfl (by first | exact Or.inl rfl | exact Or.inr rfl) (pe_bm0 PySem.F.plainAttrs_list PySem.F.slot_list_pop PySem.F.type_list_pop mt_pop (pv 2)))
    (pss_cons (ps_set (i := 5) sc_law_alike.nd rfl (by first | exact Or.inl rfl | exact Or.inr rfl) (pe_bm0 PySem.F.plainAttrs_list PySem.F.slot_list_pop PySem.F.type_list_pop mt_pop (pv 3)))
    (pss_one (ps_if (pt_val (pe_callB call_isiT rfl G.isi bt_isinstance (pa_cons (pv 5) (pa_cons (pe_tup (pa_cons (pe_bltn (v := .ty "list") rfl G.list bt_list rfl) (pa_cons (pe_bltn (v := .ty "tuple") rfl G.tuple bt_tuple rfl) pa_nil))) pa_nil)))) (pss_cons (ps_if (pt_cmpR op_ne (pe_callB call_isi rfl G.isi bt_isinstance (pa_cons (pv 4) (pa_cons (pe_bltn (v := .ty "list") rfl G.list bt_list rfl) pa_nil))) (pe_callB call_isi rfl G.isi bt_isinstance (pa_cons (pv 5) (pa_cons (pe_bltn (v := .ty "list") rfl G.list bt_list rfl) pa_nil))) (nomark _)) (pss_one (ps_ret pe_bl)) pss_nil)
    (pss_cons (ps_if (PW.pt (pw_or (pt_cmpR op_ne (pe_callB call_isi rfl G.isi bt_isinstance (pa_cons (pv 4) (pa_cons (pe_bltn (v := .ty "tuple") rfl G.tuple bt_tuple rfl) pa_nil))) (pe_callB call_isi rfl G.isi bt_isinstance (pa_cons (pv 5) (pa_cons (pe_bltn (v := .ty "tuple") rfl G.tuple bt_tuple rfl) pa_nil))) (nomark _)) (pw_or1 (pt_cmpR op_ne (pe_callB call_len_seq rfl G.len bt_len (pa_cons (pv 4) pa_nil)) (pe_callB call_len_seq rfl G.len bt_len (pa_cons (pv 5) pa_nil)) (nomark _))))) (pss_one (ps_ret pe_bl)) pss_nil)
    (pss_cons (ps_expr (pe_bm PySem.F.plainAttrs_list PySem.F.slot_list_extend PySem.F.type_list_extend mt_extendS (pv 2) (pa_cons (pv 4) pa_nil)))
    (pss_one (ps_expr (pe_bm PySem.F.plainAttrs_list PySem.F.slot_list_extend PySem.F.type_list_extend mt_extendS (pv 3) (pa_cons (pv 5) pa_nil))))))) (pss_one (ps_if (pt_val (pe_callB call_isi rfl G.isi bt_isinstance (pa_cons (pv 5) (pa_cons (pe_bltn (v := .ty "str") rfl G.str bt_str rfl) pa_nil)))) (pss_one (ps_if (PW.pt (pw_or (pt_not (pt_val (pe_callB call_isi rfl G.isi bt_isinstance (pa_cons (pv 4) (pa_cons (pe_bltn (v := .ty "str") rfl G.str bt_str rfl) pa_nil))))) (pw_or1 (pt_cmpR op_ne (pv 4) (pv 5) (nomark _))))) (pss_one (ps_ret pe_bl)) pss_nil)) (pss_one (ps_if (PW.pt (pw_or (pt_not (pt_val (pe_call G_law_whole hr rfl m_law_whole k_law_whole b_law_whole .nil pass0 (pa_cons (pv 4) pa_nil)))) (pw_or1 (pt_cmpR op_ne (pv 4) (pv 5) (nomark _))))) (pss_one (ps_ret pe_bl)) pss_nil)))))))))
    (pss_one (ps_ret pe_bl))))), ?_⟩
  refine ⟨_, rfl, (by show 1 ≤ sizeLine; rw [sizeLine_eq]; decide), fun pl hpl => ?_⟩
  refine ⟨_, rfl, (by show 1 ≤ sizeLine; rw [sizeLine_eq]; decide), fun pr hpr => ?_⟩
  have npr : H pr = none := (same_new hpl _).free hpr
  have nlr : pl ≠ pr := ne_of_none upd_same hpr
  refine ⟨fun m σ H' => ∃ (ds : List Dt) (ls rs : List V) (v4 v5 : Option V), σ = [some f, some d, some (.ref pl), some (.ref pr), v4, v5] ∧ Same H H' ∧ H' pl = some (.lst ls) ∧ H' pr = some (.lst rs) ∧ Reps H ds ls ∧ Reps H ds rs ∧ Dt.sizes ds ≤ 50000 ∧ m = Dt.sizes ds,
    ⟨_, [D], [f], [d], none, none, rfl, ((Same.refl H).put hpl _).put npr _, by rw [upd_ne nlr, upd_same], upd_same, by rw [Reps]; exact ⟨f, [], rfl, rf, by rw [Reps]⟩, by rw [Reps]; exact ⟨d, [], rfl, rd, by rw [Reps]⟩, by simp only [Dt.sizes]; omega, rfl⟩, ?_⟩
  rintro m σ H' ⟨ds, ls, rs, v4, v5, rfl, hs, hl, hr', rl, rr, hz', rfl⟩
  have hll := rl.length
  have hrl := rr.length
  have hds := length_sizes ds
  refine ⟨_, rfl, (by show 0 ≤ sizeLine; omega), fun p0 hp0 => ⟨_, _, rs, rfl, rfl, SqL.of (by rw [upd_ne (ne_of_none hr' hp0)]; exact hr'), SqL.of upd_same, _, rfl, ?_⟩⟩
  have hs0 : Same H (upd H' p0 (.lst [])) := hs.new hp0 _
  have hl0 : (upd H' p0 (.lst [])) pl = some (.lst ls) := by rw [upd_ne (ne_of_none hl hp0)]; exact hl
  have hr0 : (upd H' p0 (.lst [])) pr = some (.lst rs) := by rw [upd_ne (ne_of_none hr' hp0)]; exact hr'
  generalize upd H' p0 (.lst []) = H1 at hs0 hl0 hr0
  rcases List.eq_nil_or_concat ds with rfl | ⟨ds, d1, rfl⟩
  · rw [Reps] at rr
    subst rr
    exact iteF (q H1 hs0)
  · rw [List.concat_eq_append] at *
    obtain ⟨ls, one, rfl, rl1, r1⟩ := rl.snoc
    obtain ⟨rs, two, rfl, rr1, r2⟩ := rr.snoc
    rw [sizes_snoc] at hz' hds
    have e1 : (!(rs ++ [two]).isEmpty) = true := by simp
    rw [if_pos (show (true = true) from rfl)]
    rw [e1]
    refine iteT ?_
    refine ⟨fun σ' H2 => ∃ (ds' : List Dt) (ls' rs' : List V) (v4 v5 : Option V), σ' = [some f, some d, some (.ref pl), some (.ref pr), v4, v5] ∧ Same H H2 ∧ H2 pl = some (.lst ls') ∧ H2 pr = some (.lst rs') ∧ Reps H ds' ls' ∧ Reps H ds' rs' ∧ Dt.sizes ds' < Dt.sizes ds + d1.size,
      fun σ' H2 ⟨ds', ls', rs', v4, v5, a1, a2, a3, a4, a5, a6, a7⟩ => ⟨Dt.sizes ds', by rw [sizes_snoc]; exact a7, ds', ls', rs', v4, v5, a1, a2, a3, a4, a5, a6, by omega, rfl⟩, ?_⟩
    refine ⟨_, rfl, .inl ⟨rfl, _, SqL.of hl0⟩, _, _, one, rfl, rfl, hl0, by simp, ?_⟩
    rw [List.dropLast_concat]
    have hr1 : (upd H1 pl (.lst ls)) pr = some (.lst (rs ++ [two])) := by rw [upd_ne nlr.symm]; exact hr0
    refine ⟨_, rfl, .inl ⟨rfl, _, SqL.of hr1⟩, _, _, two, rfl, rfl, hr1, by simp, ?_⟩
    rw [List.dropLast_concat]
    have hs2 : Same H (upd (upd H1 pl (.lst ls)) pr (.lst rs)) := (hs0.put hpl _).put npr _
    have hl2 : (upd (upd H1 pl (.lst ls)) pr (.lst rs)) pl = some (.lst ls) := by rw [upd_ne nlr, upd_same]
    have hr2 : (upd (upd H1 pl (.lst ls)) pr (.lst rs)) pr = some (.lst rs) := upd_same
    generalize upd (upd H1 pl (.lst ls)) pr (.lst rs) = H2 at hs2 hl2 hr2
    refine ⟨_, rfl, (by show 2 ≤ sizeLine; rw [sizeLine_eq]; decide), fun pt hpt => ?_⟩
    have hs3 : Same H (upd H2 pt (.tup [.ty "list", .ty "tuple"])) := hs2.new hpt _
    have hl3 : (upd H2 pt (.tup [.ty "list", .ty "tuple"])) pl = some (.lst ls) := by rw [upd_ne (ne_of_none hl2 hpt)]; exact hl2
    have hr3 : (upd H2 pt (.tup [.ty "list", .ty "tuple"])) pr = some (.lst rs) := by rw [upd_ne (ne_of_none hr2 hpt)]; exact hr2
    have ht3 : (upd H2 pt (.tup [.ty "list", .ty "tuple"])) pt = some (.tup [.ty "list", .ty "tuple"]) := upd_same
    generalize upd H2 pt (.tup [.ty "list", .ty "tuple"]) = H3 at hs3 hl3 hr3 ht3
    have hd1 := Dt.size_pos d1
    have n1 := rl1.length
    have n2 := rr1.length
    have n3 := length_sizes ds
    cases d1 with
    | s l =>
      rw [Rep] at r1 r2
      subst r1 r2
      refine ⟨_, _, ["list", "tuple"], _, _, rfl, ht3, TyOf.str _, kitA_str _, _, rfl, iteF ?_⟩
      refine ⟨_, rfl, _, _, _, _, rfl, TyOf.str _, kit_same _ _, _, rfl, iteT ?_⟩
      refine ⟨_, rfl, _, _, _, _, rfl, TyOf.str _, kit_same _ _, _, rfl, iteF ⟨_, rfl, _, rfl, rfl, _, rfl, iteNS rfl ?_⟩⟩
      exact ⟨ds, ls, rs, _, _, rfl, hs3, hl3, hr3, rl1, rr1, by omega⟩
    | i n =>
      rw [Rep] at r1 r2
      subst r1 r2
      refine ⟨_, _, ["list", "tuple"], _, _, rfl, ht3, TyOf.int _, kitA_int _, _, rfl, iteF ?_⟩
      refine ⟨_, rfl, _, _, _, _, rfl, TyOf.int _, kit_int_str _, _, rfl, iteF ?_⟩
      refine ⟨_, rfl, n, rfl, _, rfl, iteF ⟨_, rfl, _, rfl, rfl, _, rfl, iteNS rfl ?_⟩⟩
      exact ⟨ds, ls, rs, _, _, rfl, hs3, hl3, hr3, rl1, rr1, by omega⟩
    | l xs =>
      rw [Rep] at r1 r2
      obtain ⟨p1, vs1, rfl, h1, q1⟩ := r1
      obtain ⟨p2, vs2, rfl, h2, q2⟩ := r2
      have g1 := hs3 _ _ h1
      have g2 := hs3 _ _ h2
      have n4 := q1.length
      have n5 := q2.length
      have n6 := length_sizes xs
      rw [Dt.size] at hz' hds
      refine ⟨_, _, ["list", "tuple"], _, _, rfl, ht3, TyOf.lst g2, kitA_list _, _, rfl, iteT ?_⟩
      refine ⟨_, rfl, _, _, _, _, rfl, TyOf.lst g1, kit_same _ _, _, rfl, _, _, _, _, rfl, TyOf.lst g2, kit_same _ _, rfl, _, rfl, iteNS rfl ?_⟩
      refine ⟨_, rfl, _, _, _, _, rfl, TyOf.lst g1, kit_list_tuple _, _, rfl, _, _, _, _, rfl, TyOf.lst g2, kit_list_tuple _, rfl, _, rfl, iteNS rfl ⟨_, rfl, _, _, rfl, .inl (SqL.of g1), _, rfl, _, _, rfl, .inl (SqL.of g2), rfl, _, rfl, iteNS (by rw [← n4, ← n5]) ?_⟩⟩
      refine ⟨_, rfl, .inl ⟨rfl, _, SqL.of hl3⟩, _, rfl, _, _, _, _, rfl, rfl, hl3, .inl g1, smallN (by omega), ?_⟩
      have np2 : p2 ≠ pl := ne_of_none h2 hpl
      have hr4 : (upd H3 pl (.lst (ls ++ vs1))) pr = some (.lst rs) := by rw [upd_ne nlr.symm]; exact hr3
      have g4 : (upd H3 pl (.lst (ls ++ vs1))) p2 = some (.lst vs2) := by rw [upd_ne np2]; exact g2
      refine ⟨_, rfl, .inl ⟨rfl, _, SqL.of hr4⟩, _, rfl, _, _, _, _, rfl, rfl, hr4, .inl g4, smallN (by omega), ?_⟩
      exact ⟨ds ++ xs, ls ++ vs1, rs ++ vs2, _, _, rfl, (hs3.put hpl _).put npr _, by rw [upd_ne nlr, upd_same], upd_same, rl1.append q1, rr1.append q2, by rw [sizes_append, Dt.size]; omega⟩
    | t xs =>
      rw [Rep] at r1 r2
      obtain ⟨p1, vs1, rfl, h1, q1⟩ := r1
      obtain ⟨p2, vs2, rfl, h2, q2⟩ := r2
      have g1 := hs3 _ _ h1
      have g2 := hs3 _ _ h2
      have n4 := q1.length
      have n5 := q2.length
      have n6 := length_sizes xs
      rw [Dt.size] at hz' hds
      refine ⟨_, _, ["list", "tuple"], _, _, rfl, ht3, TyOf.tup g2, kitA_tuple _, _, rfl, iteT ?_⟩
      refine ⟨_, rfl, _, _, _, _, rfl, TyOf.tup g1, kit_tuple_list _, _, rfl, _, _, _, _, rfl, TyOf.tup g2, kit_tuple_list _, rfl, _, rfl, iteNS rfl ?_⟩
      refine ⟨_, rfl, _, _, _, _, rfl, TyOf.tup g1, kit_same _ _, _, rfl, _, _, _, _, rfl, TyOf.tup g2, kit_same _ _, rfl, _, rfl, iteNS rfl ⟨_, rfl, _, _, rfl, .inr (SqT.of g1), _, rfl, _, _, rfl, .inr (SqT.of g2), rfl, _, rfl, iteNS (by rw [← n4, ← n5]) ?_⟩⟩
      refine ⟨_, rfl, .inl ⟨rfl, _, SqL.of hl3⟩, _, rfl, _, _, _, _, rfl, rfl, hl3, .inr g1, smallN (by omega), ?_⟩
      have np2 : p2 ≠ pl := ne_of_none h2 hpl
      have hr4 : (upd H3 pl (.lst (ls ++ vs1))) pr = some (.lst rs) := by rw [upd_ne nlr.symm]; exact hr3
      have g4 : (upd H3 pl (.lst (ls ++ vs1))) p2 = some (.tup vs2) := by rw [upd_ne np2]; exact g2
      refine ⟨_, rfl, .inl ⟨rfl, _, SqL.of hr4⟩, _, rfl, _, _, _, _, rfl, rfl, hr4, .inr g4, smallN (by omega), ?_⟩
      exact ⟨ds ++ xs, ls ++ vs1, rs ++ vs2, _, _, rfl, (hs3.put hpl _).put npr _, by rw [upd_ne nlr, upd_same], upd_same, rl1.append q1, rr1.append q2, by rw [sizes_append, Dt.size]; omega⟩
end
def spTab (K : PySem.W.Frag) : Sp := fun vs H Q _ => ∃ (c : Addr) (ns : List Int) (cols : Nat) (most : Int), vs = [.ref c, .int cols, .int most] ∧ SqL K H c (ns.map V.int) ∧ ns.length ≤ 63 ∧ 1 ≤ cols ∧ 0 ≤ most ∧ most ≤ 100 ∧
  ∀ (p : Addr) (rs : List Addr) (H' : Hp), Same H H' → TabAt H' p rs (Cb.tableOf ns cols most) → H p = none → (∀ a ∈ rs, H a = none) → rs.Nodup → p ∉ rs → Q (.ref p) H'
section
variable {P : Program} {w : World} {K : PySem.W.Frag} {mg : Str → Option Value} {base : Heap}
theorem sc_law_table_of : FnScope ["_law_cells", "_law_columns", "_law_most", "_law_table", "_law_row", "_law_k"] ["_law_cells", "_law_columns", "_law_most"] (defScope s_law_table_of) := ⟨rfl, rfl, rfl, by decide +kernel, rfl, by decide +kernel, by decide +kernel⟩
theorem ok_table_of {f g : Addr} {fd gd : FuncData} (F : Fun K "_law_table_of" "_law_table_of" s_law_table_of f fd) (G : Gb mg) (G_law_field_of : FnOk P w K mg base CX0 1 g gd ["_law_cell", "_law_most"] spFO) (b_law_field_of : Binds K gd ["_law_cell", "_law_most"] []) (k_law_field_of : PySem.W.keepIn K (.ref g) = true) (m_law_field_of : mg "_law_field_of" = some (.ref g)) :
    FnOk P w K mg base CX0 2 f fd ["_law_cells", "_law_columns", "_law_most"] (spTab K) := by
  refine F.ok sc_law_table_of (fun vs H Q E h => ?_) (fun cdv A outer s H vs Q E hr h => ?_)
  · obtain ⟨c, ns, cols, most, rfl, _⟩ := h
    rfl
  obtain ⟨c, ns, cols, most, rfl, hS, h63, hc, hm0, hm1, q⟩ := h
  refine ⟨_, (pss_cons (ps_set (i := 3) sc_law_table_of.nd rfl (by first | exact Or.inl rfl | exact Or.inr rfl) (pe_lst pa_nil))
    (pss_cons (ps_set (i := 4) sc_law_table_of.nd rfl (by first | exact Or.inl rfl | exact Or.inr rfl) (pe_lst pa_nil))
    (pss_cons (ps_for PassesOwn.never rfl (pi_range1 rfl G.range (pa_cons (pe_callB call_len_seq rfl G.len bt_len (pa_cons (pv 0) pa_nil)) pa_nil)) (pg_name (i := 5) sc_law_table_of.nd rfl (by first | exact Or.inl rfl | exact Or.inr rfl)) (pss_cons (ps_set (i := 4) sc_law_table_of.nd rfl (by first | exact Or.inl rfl | exact Or.inr rfl) (pe_op op_cat (pv 4) (pe_lst (pa_cons (pe_call G_law_field_of hr rfl m_law_field_of k_law_field_of b_law_field_of .nil pass0 (pa_cons (pe_op op_add (pe_ix ix_list (pv 0) (pv 5) (fun _ _ => rfl)) (pe_op op_mul pe_int (pv 5))) (pa_cons (pv 2) pa_nil))) pa_nil))))
    (pss_one (ps_if (pt_cmpR op_eq (pe_callB call_len_seq rfl G.len bt_len (pa_cons (pv 4) pa_nil)) (pv 1) (nomark _)) (pss_cons (ps_expr (pe_bm PySem.F.plainAttrs_list PySem.F.slot_list_append PySem.F.type_list_append mt_append (pv 3) (pa_cons (pv 4) pa_nil)))
    (pss_one (ps_set (i := 4) sc_law_table_of.nd rfl (by first | exact Or.inl rfl | exact Or.inr rfl) (pe_lst pa_nil)))) pss_nil))))
    (pss_one (ps_ret (pv 3)))))), ?_⟩
  have hnl : (ns.map V.int).length = ns.length := List.length_map _
  refine ⟨(by show 0 ≤ sizeLine; omega), fun pt hpt => ⟨(by show 0 ≤ sizeLine; omega), fun pr hpr => ?_⟩⟩
  have sA : Same H (upd H pt (.lst [])) := same_new hpt _
  have npr : H pr = none := sA.free hpr
  have ntr : pt ≠ pr := ne_of_none upd_same hpr
  have sB : Same H (upd (upd H pt (.lst [])) pr (.lst [])) := sA.new hpr _
  refine ⟨_, rfl, _, _, rfl, .inl (sB.seq hS), _, rfl, by rw [hnl]; omega, by rw [hnl]; omega, ?_⟩
  rw [hnl]
  refine for_range (lo := 0) (n := ((ns.length : Nat) : Int).toNat) (fun i σ H' => ∃ (r : Addr) (rs : List Addr) (kv : Option V), σ = [some (.ref c), some (.int cols), some (.int most), some (.ref pt), some (.ref r), kv] ∧ Same H H' ∧
      TabAt H' pt rs (Cb.tabFold cols ((Cb.fieldsOf ns most).take i)).1 ∧ H' r = some (.lst (rowV (Cb.tabFold cols ((Cb.fieldsOf ns most).take i)).2)) ∧ H r = none ∧ (∀ a ∈ rs, H a = none) ∧ rs.Nodup ∧ pt ∉ rs ∧ r ∉ rs ∧ r ≠ pt)
    ⟨pr, [], none, rfl, sB, ⟨by rw [upd_ne ntr, upd_same] <;> rfl, .nil⟩, upd_same, npr, (fun _ z => nomatch z), List.nodup_nil, (by simp), (by simp), ntr.symm⟩ ?_ ?_
  · rintro i σ H' hi ⟨r, rs, kv, rfl, hs, ht, hrow, hr0, hrs, hnd, hpn, hrn, hrp⟩
    have hi' : i < ns.length := by omega
    have hok := Cb.tabFold_ok hc ((Cb.fieldsOf ns most).take i) fun f hf => Cb.fieldsOf_ok ns hm0 f (List.mem_of_mem_take hf)
    have hlt : ((Cb.fieldsOf ns most).take i).length = i := by rw [List.length_take, Cb.fieldsOf_len]; omega
    rw [hlt] at hok
    have hsz := hok.size
    have e0 : ((0 : Int) + (i : Int)) = ((i : Nat) : Int) := Int.zero_add _
    rw [e0]
    have hat : atI (ns.map V.int) ((i : Nat) : Int) = some (.int (ns.getD i 0)) := atI_nat (by rw [List.getElem?_map, List.getElem?_eq_getElem hi', List.getD_eq_getElem?_getD, List.getElem?_eq_getElem hi'] <;> rfl)
    refine ⟨_, rfl, _, rfl, _, rfl, c, _, _, _, rfl, rfl, hs.seq hS, hat, _, rfl, _, _, rfl, rfl, .inl ⟨by decide, by decide⟩, _, _, rfl, rfl, _, rfl, _, _, rfl, hm0, hm1, fun H1 s1 => ?_⟩
    refine ⟨(by show 1 ≤ sizeLine; rw [sizeLine_eq]; decide), fun p1 hp1 => ?_⟩
    have s2 : Same H' (upd H1 p1 (.lst [.str (tx (Cb.fieldOf (ns.getD i 0 + 13 * (i : Int)) most))])) := s1.new hp1 _
    refine ⟨_, _, _, _, rfl, rfl, s2 _ _ hrow, upd_same, ?_, fun p2 hp2 => ?_⟩
    · unfold rowV
      rw [List.length_map]
      exact smallN (by show _ + 1 ≤ 100000; omega)
    have s3 := s2.trans (same_new hp2 (.lst (rowV (Cb.tabFold cols ((Cb.fieldsOf ns most).take i)).2 ++ [.str (tx (Cb.fieldOf (ns.getD i 0 + 13 * (i : Int)) most))])))
    have np2' : H' p2 = none := s2.free hp2
    have erow : rowV (Cb.tabFold cols ((Cb.fieldsOf ns most).take i)).2 ++ [V.str (tx (Cb.fieldOf (ns.getD i 0 + 13 * (i : Int)) most))] = rowV ((Cb.tabFold cols ((Cb.fieldsOf ns most).take i)).2 ++ [Cb.fieldOf (ns.getD i 0 + 13 * (i : Int)) most]) := by
      unfold rowV
      rw [List.map_append]
      rfl
    have g2 : (upd (upd H1 p1 (.lst [.str (tx (Cb.fieldOf (ns.getD i 0 + 13 * (i : Int)) most))])) p2 (.lst (rowV (Cb.tabFold cols ((Cb.fieldsOf ns most).take i)).2 ++ [.str (tx (Cb.fieldOf (ns.getD i 0 + 13 * (i : Int)) most))]))) p2 = some (.lst (rowV ((Cb.tabFold cols ((Cb.fieldsOf ns most).take i)).2 ++ [Cb.fieldOf (ns.getD i 0 + 13 * (i : Int)) most]))) := by
      rw [upd_same, erow]
    generalize upd (upd H1 p1 _) p2 _ = H3 at s3 g2
    have hs3 := hs.trans s3
    have ht3 := ht.same s3
    have n2 : H p2 = none := hs.free np2'
    have nm2 : p2 ∉ rs := fun z => by
      obtain ⟨j, hj, e⟩ := List.mem_iff_getElem.mp z
      obtain ⟨_, _, hb⟩ := Paired.getL ht.rows (List.getElem?_eq_some_iff.mpr ⟨hj, e⟩)
      rw [np2'] at hb
      cases hb
    have np2t : p2 ≠ pt := fun z => by
      have := ht.tab
      rw [← z, np2'] at this
      cases this
    have estep : Cb.tabFold cols ((Cb.fieldsOf ns most).take (i + 1)) = Cb.tabStep cols (Cb.tabFold cols ((Cb.fieldsOf ns most).take i)) (Cb.fieldOf (ns.getD i 0 + 13 * (i : Int)) most) := by
      rw [Cb.fieldsOf_take ns most hi', Cb.tabFold_snoc]
    generalize Cb.tabFold cols ((Cb.fieldsOf ns most).take i) = st at *
    generalize Cb.fieldOf (ns.getD i 0 + 13 * (i : Int)) most = fl at *
    have hl : (rowV (st.2 ++ [fl])).length = (st.2 ++ [fl]).length := List.length_map _
    refine ⟨_, rfl, _, _, rfl, .inl (SqL.of g2), _, rfl, rfl, _, rfl, ?_⟩
    refine ite2 (fun cc => ?_) (fun cc => ?_)
    · have c' := V.int.inj (of_decide_eq_true cc)
      rw [hl] at c'
      have e1 : Cb.tabStep cols st fl = (st.1 ++ [st.2 ++ [fl]], []) := if_pos (by omega)
      have hrl := (Paired.length ht.rows)
      refine ⟨_, rfl, .inl ⟨rfl, _, SqL.of ht3.tab⟩, _, rfl, _, _, _, rfl, rfl, ht3.tab, Nat.lt_of_le_of_lt (by rw [List.length_map]; omega) (small1000 (n := 200) (by decide)), ?_⟩
      refine ⟨(by show 0 ≤ sizeLine; omega), fun p4 hp4 => ?_⟩
      have s4 : Same H (upd H3 pt (.lst (rs.map V.ref ++ [.ref p2]))) := hs3.put hpt _
      have n4 : H p4 = none := s4.free hp4
      have n4' : H3 p4 = none := by
        by_cases z : p4 = pt
        · subst z; rw [upd_same] at hp4; cases hp4
        · rw [upd_ne z] at hp4; exact hp4
      have nmem : ∀ a, H3 a = none → a ∉ rs := fun a ha z => by
        obtain ⟨j, hj, e⟩ := List.mem_iff_getElem.mp z
        obtain ⟨_, _, hb⟩ := Paired.getL ht3.rows (List.getElem?_eq_some_iff.mpr ⟨hj, e⟩)
        rw [ha] at hb
        cases hb
      have n42 : p4 ≠ p2 := fun z => by rw [z, g2] at n4'; cases n4'
      have n4t : p4 ≠ pt := fun z => by subst z; rw [upd_same] at hp4; cases hp4
      refine ⟨p4, rs ++ [p2], _, rfl, s4.new hp4 _, ⟨?_, ?_⟩, ?_, n4, ?_, ?_, ?_, ?_, n4t⟩
      · rw [upd_ne n4t.symm, upd_same, List.map_append]
        all_goals rfl
      · rw [estep, e1]
        refine RowsAt.put (RowsAt.put (Paired.snoc ht3.rows g2) ?_ _) ?_ _
        · intro z
          rcases List.mem_append.mp z with z | z
          · exact hpn z
          · rw [List.mem_singleton] at z
            exact np2t z.symm
        · intro z
          rcases List.mem_append.mp z with z | z
          · exact nmem p4 n4' z
          · rw [List.mem_singleton] at z
            exact n42 z
      · rw [upd_same, estep, e1]
        all_goals rfl
      · intro a ha
        rcases List.mem_append.mp ha with ha | ha
        · exact hrs a ha
        · rw [List.mem_singleton] at ha
          subst ha
          exact n2
      · rw [List.nodup_append]
        refine ⟨hnd, by simp, fun a ha b hb => ?_⟩
        rw [List.mem_singleton] at hb
        subst hb
        exact fun z => nm2 (z ▸ ha)
      · intro z
        rcases List.mem_append.mp z with z | z
        · exact hpn z
        · rw [List.mem_singleton] at z
          exact np2t z.symm
      · intro z
        rcases List.mem_append.mp z with z | z
        · exact nmem p4 n4' z
        · rw [List.mem_singleton] at z
          exact n42 z
    · have c' : ¬ (((st.2 ++ [fl]).length : Nat) : Int) = (cols : Int) := fun z => cc (decide_eq_true (congrArg V.int (by rw [hl]; exact z)))
      have e1 : Cb.tabStep cols st fl = (st.1, st.2 ++ [fl]) := if_neg (by omega)
      refine ⟨p2, rs, _, rfl, hs3, ?_, ?_, n2, hrs, hnd, hpn, nm2, np2t⟩
      · rw [estep, e1]
        exact ht3
      · rw [estep, e1]
        exact g2
  · rintro σ H' ⟨r, rs, kv, rfl, hs, ht, hrow, hr0, hrs, hnd, hpn, hrn, hrp⟩
    have e : (Cb.fieldsOf ns most).take ((ns.length : Nat) : Int).toNat = Cb.fieldsOf ns most := List.take_of_length_le (by rw [Cb.fieldsOf_len]; omega)
    rw [e] at ht
    exact ⟨_, rfl, q pt rs H' hs ht hpt hrs hnd hpn⟩
end
def spLaw (K : PySem.W.Frag) : Sp := fun vs H Q _ => ∃ (a : Addr) (ns : List Int), vs = [.ref a] ∧ SqL K H a (ns.map V.int) ∧ ns.length ≤ 63 ∧ ∀ H', Q (.bl true) H'
structure TabIn (H : Hp) (p : Addr) (rs : List Addr) (t : List (List (List Nat))) (cols cap : Nat) : Prop where
  at_ : TabAt H p rs t
  ok : Cb.TableOk cols 63 60 t
  cols1 : 1 ≤ cols
  cols9 : cols ≤ 9
  cap2 : 2 ≤ cap
  capM : cap ≤ 1000000000000
theorem TabIn.same {H H' : Hp} {p : Addr} {rs : List Addr} {t : List (List (List Nat))} {cols cap : Nat} (s : Same H H') (h : TabIn H p rs t cols cap) : TabIn H' p rs t cols cap := ⟨h.at_.same s, h.ok, h.cols1, h.cols9, h.cap2, h.capM⟩
theorem tableOf_in {ns : List Int} {cols : Nat} (hc : 1 ≤ cols) {most : Int} (h0 : 0 ≤ most) (h1 : most ≤ 60) (h63 : ns.length ≤ 63) : Cb.TableOk cols 63 60 (Cb.tableOf ns cols most) := by
  have h := Cb.tableOf_ok ns hc h0
  refine ⟨fun r hr => ⟨(h.rows r hr).1, fun f hf => ?_⟩, Nat.le_trans h.size h63⟩
  obtain ⟨g1, g2⟩ := (h.rows r hr).2 f hf
  exact ⟨g1, by omega⟩
theorem tabD_size {cols : Nat} {t : List (List (List Nat))} (h : Cb.TableOk cols 63 60 t) (hc : cols ≤ 9) : (tabD t).size ≤ 50000 := by
  have h1 := sizes_rows cols t fun r hr => Nat.le_of_eq (h.rows r hr).1
  have h2 := h.size
  unfold tabD
  rw [Dt.size]
  have h3 : t.length * (cols + 1) ≤ 63 * 10 := Nat.mul_le_mul h2 (by omega)
  omega
def spWidthOf : Sp := fun vs H Q _ => ∃ (p : Addr) (rs : List Addr) (t : List (List (List Nat))) (cols cap k : Nat), vs = [.ref p, .int k, .int cap] ∧ TabAt H p rs t ∧ (∀ r ∈ t, r.length = cols ∧ ∀ f ∈ r, f.length ≤ 1000) ∧ t.length ≤ 1000 ∧ k < cols ∧ Q (.int (Cb.colWidth t cap k)) H
section
variable {P : Program} {w : World} {K : PySem.W.Frag} {mg : Str → Option Value} {base : Heap}
theorem sc_law_width_of : FnScope ["_law_table", "_law_k", "_law_cap", "_law_longest", "_law_row"] ["_law_table", "_law_k", "_law_cap"] (defScope s_law_width_of) := ⟨rfl, rfl, rfl, by decide +kernel, rfl, by decide +kernel, by decide +kernel⟩
theorem ok_width_of {f : Addr} {fd : FuncData} (F : Fun K "_law_width_of" "_law_width_of" s_law_width_of f fd) (G : Gb mg) : FnOk P w K mg base CX0 1 f fd ["_law_table", "_law_k", "_law_cap"] spWidthOf := by
  refine F.ok sc_law_width_of (fun vs H Q E h => ?_) (fun cdv A outer s H vs Q E hr h => ?_)
  · obtain ⟨p, rs, t, cols, cap, k, rfl, _⟩ := h
    rfl
  obtain ⟨p, rs, t, cols, cap, k, rfl, ht, hok, hz, hk, q⟩ := h
  refine ⟨_, (pss_cons (ps_set (i := 3) sc_law_width_of.nd rfl (by first | exact Or.inl rfl | exact Or.inr rfl) pe_int)
    (pss_cons (ps_for PassesOwn.never rfl (pi_list (pv 0)) (pg_name (i := 4) sc_law_width_of.nd rfl (by first | exact Or.inl rfl | exact Or.inr rfl)) (pss_one (ps_if (pt_cmpR op_gt (pe_callB call_len_tx rfl G.len bt_len (pa_cons (pe_ix ix_list (pv 4) (pv 1) (fun _ _ => rfl)) pa_nil)) (pv 3) (nomark _)) (pss_one (ps_set (i := 3) sc_law_width_of.nd rfl (by first | exact Or.inl rfl | exact Or.inr rfl) (pe_callB call_len_tx rfl G.len bt_len (pa_cons (pe_ix ix_list (pv 4) (pv 1) (fun _ _ => rfl)) pa_nil)))) pss_nil)))
    (pss_cons (ps_if (pt_cmpR op_gt (pv 3) (pv 2) (nomark _)) (pss_one (ps_ret (pv 2))) pss_nil)
    (pss_one (ps_ret (pv 3)))))), ?_⟩
  have hrl := Paired.length ht.rows
  refine ⟨_, rfl, p, rfl, ⟨_, SqL.of ht.tab⟩, for_list (K := K) (a := p) (xs := rs.map V.ref) (fun i σ H' => ∃ rv, σ = [some (.ref p), some (.int k), some (.int cap), some (.int (Cb.longest (t.take i) k)), rv] ∧ H' = H) ⟨_, rfl, rfl⟩ (fun i σ H' _ ⟨_, _, e⟩ => by rw [e]; exact SqL.of ht.tab) ?_ ?_⟩
  · rintro i x σ H' hx ⟨rv, rfl, rfl⟩
    rw [List.getElem?_map] at hx
    cases ha : rs[i]? with
    | none => rw [ha] at hx; cases hx
    | some ai =>
      rw [ha] at hx
      cases hx
      obtain ⟨r, hr1, hr2⟩ := Paired.getL ht.rows ha
      obtain ⟨hi, er⟩ := List.getElem?_eq_some_iff.mp hr1
      have hrm : r ∈ t := List.mem_of_getElem? hr1
      obtain ⟨hrc, hrf⟩ := hok r hrm
      have hkr : k < r.length := by omega
      have hfl := hrf _ (List.getElem_mem hkr)
      have hat : atI (rowV r) ((k : Nat) : Int) = some (V.str (tx r[k])) := atI_nat (by unfold rowV; rw [List.getElem?_map, List.getElem?_eq_getElem hkr] <;> rfl)
      have e1 : r.getD k [] = r[k] := by rw [List.getD_eq_getElem?_getD, List.getElem?_eq_getElem hkr] <;> rfl
      have e2 : Cb.longest (t.take (i + 1)) k = max (Cb.longest (t.take i) k) (r[k]).length := by
        rw [List.take_succ_eq_append_getElem hi, er]
        unfold Cb.longest
        rw [List.map_append, List.foldl_append, List.map_cons, e1]
        rfl
      refine ⟨_, rfl, _, rfl, ai, _, _, _, rfl, rfl, SqL.of hr2, hat, _, rfl, smallN (by omega), _, rfl, _, _, rfl, rfl, _, rfl, ?_⟩
      refine ite2 (fun c => ?_) (fun c => ?_)
      · have c' : ((Cb.longest (t.take i) k : Nat) : Int) < ((r[k]).length : Int) := of_decide_eq_true c
        refine ⟨_, rfl, _, rfl, ai, _, _, _, rfl, rfl, SqL.of hr2, hat, _, rfl, smallN (by omega), ?_⟩
        refine ⟨some (.ref ai), ?_, rfl⟩
        rw [e2, Nat.max_eq_right (by omega)]
        rfl
      · have c' : ¬ ((Cb.longest (t.take i) k : Nat) : Int) < ((r[k]).length : Int) := of_decide_eq_false (Bool.eq_false_iff.mpr c)
        refine ⟨some (.ref ai), ?_, rfl⟩
        rw [e2, Nat.max_eq_left (by omega)]
        rfl
  · rintro σ H' ⟨rv, rfl, rfl⟩
    have e : t.take (rs.map V.ref).length = t := List.take_of_length_le (by rw [List.length_map]; omega)
    rw [e]
    refine ⟨_, rfl, _, rfl, _, _, rfl, rfl, _, rfl, ?_⟩
    refine ite2 (fun c => ?_) (fun c => ?_)
    · have c' : (cap : Int) < ((Cb.longest t k : Nat) : Int) := of_decide_eq_true c
      have e2 : Cb.colWidth t cap k = cap := by unfold Cb.colWidth; omega
      rw [e2] at q
      exact ⟨_, rfl, q⟩
    · have c' : ¬ (cap : Int) < ((Cb.longest t k : Nat) : Int) := of_decide_eq_false (Bool.eq_false_iff.mpr c)
      have e2 : Cb.colWidth t cap k = Cb.longest t k := by unfold Cb.colWidth; omega
      rw [e2] at q
      exact ⟨_, rfl, q⟩
end
def spShown : Sp := fun vs H Q _ => ∃ (p : Addr) (rs : List Addr) (t : List (List (List Nat))) (cols cap : Nat), vs = [.ref p, .int cap] ∧ TabIn H p rs t cols cap ∧
  ∀ (q : Addr) (H' : Hp), Same H H' → H q = none → H' q = some (.lst ((Cb.shownOf t cap).map fun l => V.str (tx l))) → Q (.ref q) H'
theorem fields60 {cols : Nat} {t : List (List (List Nat))} (h : Cb.TableOk cols 63 60 t) : ∀ r ∈ t, r.length = cols ∧ ∀ f ∈ r, f.length ≤ 60 := fun r hr => ⟨(h.rows r hr).1, fun f hf => by
  have := ((h.rows r hr).2 f hf).2
  omega⟩
theorem width60 {cols : Nat} {t : List (List (List Nat))} (h : Cb.TableOk cols 63 60 t) (cap k : Nat) : Cb.colWidth t cap k ≤ 60 := Cb.colWidth_le (by decide) fun r hr => Cb.getD_le (fields60 h r hr).2 k
def spWritten : Sp := fun vs H Q _ => ∃ (p : Addr) (rs : List Addr) (t : List (List (List Nat))) (cols cap : Nat), vs = [.ref p, .int cap] ∧ TabAt H p rs t ∧ (∀ r ∈ t, r.length = cols ∧ ∀ f ∈ r, f.length ≤ 1000) ∧ t.length ≤ 900 ∧ cols ≤ 900 ∧ 2 ≤ cap ∧
  ∀ (q : Addr) (H' : Hp), Same H H' → H q = none → H' q = some (.lst ((Cb.shownOf t cap).map fun l => V.str (tx l))) → Q (.ref q) H'
section
variable {P : Program} {w : World} {K : PySem.W.Frag} {mg : Str → Option Value} {base : Heap}
theorem sc_law_written : FnScope ["_law_table", "_law_cap", "_law_lines", "_law_row", "_law_parts", "_law_k", "_law_width", "_law_part"] ["_law_table", "_law_cap"] (defScope s_law_written) := ⟨rfl, rfl, rfl, by decide +kernel, rfl, by decide +kernel, by decide +kernel⟩
theorem ok_written {f fw : Addr} {fd dw : FuncData} (F : Fun K "_law_written" "_law_written" s_law_written f fd) (G : Gb mg)
    (G_law_width_of : FnOk P w K mg base CX0 1 fw dw ["_law_table", "_law_k", "_law_cap"] spWidthOf) (b_law_width_of : Binds K dw ["_law_table", "_law_k", "_law_cap"] []) (k_law_width_of : PySem.W.keepIn K (.ref fw) = true) (m_law_width_of : mg "_law_width_of" = some (.ref fw)) :
    FnOk P w K mg base CX0 2 f fd ["_law_table", "_law_cap"] spWritten := by
  refine F.ok sc_law_written (fun vs H Q E h => ?_) (fun cdv A outer s H vs Q E hr h => ?_)
  · obtain ⟨p, rs, t, cols, cap, rfl, _⟩ := h
    rfl
  obtain ⟨p, rs, t, cols, cap, rfl, ht, hok, hz, hcz, hcap, q⟩ := h
  refine ⟨_, (pss_cons (ps_set (i := 2) sc_law_written.nd rfl (by first | exact Or.inl rfl | exact Or.inr rfl) (pe_lst pa_nil))
    (pss_cons (ps_for PassesOwn.never rfl (pi_list (pv 0)) (pg_name (i := 3) sc_law_written.nd rfl (by first | exact Or.inl rfl | exact Or.inr rfl)) (pss_cons (ps_set (i := 4) sc_law_written.nd rfl (by first | exact Or.inl rfl | exact Or.inr rfl) (pe_lst pa_nil))
    (pss_cons (ps_for PassesOwn.never rfl (pi_range1 rfl G.range (pa_cons (pe_callB call_len_seq rfl G.len bt_len (pa_cons (pv 3) pa_nil)) pa_nil)) (pg_name (i := 5) sc_law_written.nd rfl (by first | exact Or.inl rfl | exact Or.inr rfl)) (pss_cons (ps_set (i := 6) sc_law_written.nd rfl (by first | exact Or.inl rfl | exact Or.inr rfl) (pe_call G_law_width_of hr rfl m_law_width_of k_law_width_of b_law_width_of .nil pass0 (pa_cons (pv 0) (pa_cons (pv 5) (pa_cons (pv 1) pa_nil)))))
    (pss_cons (ps_set (i := 7) sc_law_written.nd rfl (by first | exact Or.inl rfl | exact Or.inr rfl) (pe_op op_add_tx (pe_ix ix_list (pv 3) (pv 5) (fun _ _ => rfl)) (pe_op op_mul_tx (pe_tx (l := [32]) (by decide +kernel)) (pe_callB (call_max2 rfl) rfl G.max bt_max (pa_cons pe_int (pa_cons (pe_op op_sub (pv 6) (pe_callB call_len_tx rfl G.len bt_len (pa_cons (pe_ix ix_list (pv 3) (pv 5) (fun _ _ => rfl)) pa_nil))) pa_nil))))))
    (pss_cons (ps_if (pt_cmpR op_gt (pe_callB call_len_tx rfl G.len bt_len (pa_cons (pe_ix ix_list (pv 3) (pv 5) (fun _ _ => rfl)) pa_nil)) (pv 6) (nomark _)) (pss_one (ps_set (i := 7) sc_law_written.nd rfl (by first | exact Or.inl rfl | exact Or.inr rfl) (pe_op op_add_tx (pe_slice sl_str (pe_ix ix_list (pv 3) (pv 5) (fun _ _ => rfl)) po_none (po_some (pe_op op_sub (pv 6) pe_int))) (pe_tx (l := [126]) (by decide +kernel))))) pss_nil)
    (pss_one (ps_expr (pe_bm PySem.F.plainAttrs_list PySem.F.slot_list_append PySem.F.type_list_append mt_append (pv 4) (pa_cons (pv 7) pa_nil))))))))
    (pss_one (ps_expr (pe_bm PySem.F.plainAttrs_list PySem.F.slot_list_append PySem.F.type_list_append mt_append (pv 2) (pa_cons (pe_bm PySem.F.plainAttrs_str PySem.F.slot_str_join PySem.F.type_str_join mt_join (pe_tx (l := [124]) (by decide +kernel)) (pa_cons (pv 4) pa_nil)) pa_nil)))))))
    (pss_one (ps_ret (pv 2))))), ?_⟩
  have zero : 0 ≤ sizeLine := Nat.zero_le _
  have hrl := Paired.length ht.rows
  have hwb : ∀ k, Cb.colWidth t cap k ≤ 1000 := fun k => Cb.colWidth_le (by decide) fun r hr => Cb.getD_le (hok r hr).2 k
  refine ⟨zero, fun pl hpl => ?_⟩
  have sA : Same H (upd H pl (.lst [])) := same_new hpl _
  refine ⟨_, rfl, p, rfl, ⟨_, SqL.of (sA _ _ ht.tab)⟩, for_list (K := K) (a := p) (xs := rs.map V.ref) (fun i σ H' => ∃ v1 v2 v3 v4 v5, σ = [some (.ref p), some (.int cap), some (.ref pl), v1, v2, v3, v4, v5] ∧ Same H H' ∧ H' pl = some (.lst (((t.take i).map (Cb.lineOf t cap)).map fun l => V.str (tx l))))
    ⟨_, _, _, _, _, rfl, sA, upd_same⟩ (fun i σ H' _ ⟨_, _, _, _, _, _, s', _⟩ => SqL.of (s' _ _ ht.tab)) ?_ ?_⟩
  · rintro i x σ H1 hx ⟨v1, v2, v3, v4, v5, rfl, s1, hl1⟩
    rw [List.getElem?_map] at hx
    cases ha : rs[i]? with
    | none => rw [ha] at hx; cases hx
    | some ai =>
      rw [ha] at hx
      cases hx
      obtain ⟨r, hr1, hr2⟩ := Paired.getL ht.rows ha
      obtain ⟨hi, er⟩ := List.getElem?_eq_some_iff.mp hr1
      have hrm : r ∈ t := List.mem_of_getElem? hr1
      obtain ⟨hrc, hrf⟩ := hok r hrm
      have hcl := Cb.cellsOf_len t cap r
      have hcells : ∀ c ∈ Cb.cellsOf t cap r, c.length ≤ 1000 := fun c hc => by
        unfold Cb.cellsOf at hc
        obtain ⟨k, _, rfl⟩ := List.mem_map.mp hc
        rw [Cb.cellOf_len (Cb.colWidth_pos t hcap k)]
        exact hwb k
      have hrvl : (rowV r).length = r.length := List.length_map _
      refine ⟨zero, fun pp hpp => ?_⟩
      have s2 : Same H1 (upd H1 pp (.lst [])) := same_new hpp _
      refine ⟨_, rfl, _, _, rfl, .inl (SqL.of ((s1.trans s2) _ _ hr2)), _, rfl, by rw [hrvl]; omega, by rw [hrvl]; omega, ?_⟩
      rw [hrvl]
      refine for_range (lo := 0) (n := ((r.length : Nat) : Int).toNat) (fun j σ H' => ∃ w3 w4 w5, σ = [some (.ref p), some (.int cap), some (.ref pl), some (.ref ai), some (.ref pp), w3, w4, w5] ∧ Same H1 H' ∧ H' pp = some (.lst (((Cb.cellsOf t cap r).take j).map fun l => V.str (tx l))))
        ⟨_, _, _, rfl, s2, upd_same⟩ ?_ ?_
      · rintro j σ H3 hj ⟨w3, w4, w5, rfl, s3, hp3⟩
        have hj' : j < r.length := by omega
        have hjc : j < (Cb.cellsOf t cap r).length := by omega
        have ez : ((0 : Int) + (j : Int)) = ((j : Nat) : Int) := Int.zero_add _
        rw [ez]
        have egd : r.getD j [] = r[j] := by rw [List.getD_eq_getElem?_getD, List.getElem?_eq_getElem hj'] <;> rfl
        have hcell : (Cb.cellsOf t cap r)[j] = Cb.cellOf r[j] (Cb.colWidth t cap j) := by rw [Cb.cellsOf_get, egd]
        have hfl := hrf _ (List.getElem_mem hj')
        have w1 := Cb.colWidth_pos t hcap j
        have w2 := hwb j
        have hat : atI (rowV r) ((j : Nat) : Int) = some (V.str (tx r[j])) := atI_nat (by unfold rowV; rw [List.getElem?_map, List.getElem?_eq_getElem hj'] <;> rfl)
        have g3 : SqL K H3 ai (rowV r) := SqL.of ((s1.trans s3) _ _ hr2)
        refine ⟨_, rfl, _, rfl, _, rfl, p, rs, t, cols, cap, j, rfl, ht.same (s1.trans s3), hok, by omega, by omega, ?_⟩
        generalize Cb.colWidth t cap j = W at *
        have hm : (if ((W : Int) - ((r[j]).length : Int)) > 0 then ((W : Int) - ((r[j]).length : Int)) else 0).toNat = W - (r[j]).length := by split <;> omega
        have hm2 : -(2 ^ 62) < (if ((W : Int) - ((r[j]).length : Int)) > 0 then ((W : Int) - ((r[j]).length : Int)) else 0) ∧ (if ((W : Int) - ((r[j]).length : Int)) > 0 then ((W : Int) - ((r[j]).length : Int)) else 0) < 2 ^ 62 := by split <;> omega
        have er2 : (List.replicate (W - (r[j]).length) [32]).flatten = List.replicate (W - (r[j]).length) 32 := by simp
        refine ⟨_, rfl, _, rfl, ai, _, _, _, rfl, rfl, g3, hat, _, rfl, _, rfl, _, rfl, ai, _, _, _, rfl, rfl, g3, hat, _, rfl, smallN (by omega), _, _, rfl, rfl, _, _, rfl, _, _, rfl, rfl, ?_, hm2, _, _, rfl, rfl, ?_, ?_⟩
        · rw [hm]
          show 1 * (W - (r[j]).length) ≤ 16777216
          omega
        · rw [hm, er2, List.length_replicate]
          exact smallN (by omega)
        rw [hm, er2]
        dsimp only [gName]
        refine tSeq_mid (fun σ' H' => σ' = [some (.ref p), some (.int cap), some (.ref pl), some (.ref ai), some (.ref pp), some (.int (j : Nat)), some (.int (W : Nat)), some (.str (tx (Cb.cellOf r[j] W)))] ∧ H' = H3) ?_ ?_
        rotate_left
        · intro U hU
          refine ⟨_, rfl, _, rfl, ai, _, _, _, rfl, rfl, g3, hat, _, rfl, smallN (by omega), _, rfl, _, _, rfl, rfl, _, rfl, ?_⟩
          refine ite2 (fun c => ?_) (fun c => ?_)
          · have c' : (W : Int) < ((r[j]).length : Int) := of_decide_eq_true c
            have e1 : Cb.cellOf r[j] W = (r[j]).take (W - 1) ++ [126] := if_pos (by omega)
            have ec : cutN r[j] none (some ((W : Int) - 1)) = (r[j]).take (W - 1) := by
              rw [cut_to r[j] (by omega) (by omega)]
              congr 1
              omega
            refine ⟨_, rfl, _, rfl, ai, _, _, _, rfl, rfl, g3, hat, _, rfl, _, _, rfl, rfl, _, rfl, _, rfl, smallN (by omega), _, _, rfl, rfl, ?_, ?_⟩
            · rw [ec, List.length_take]
              exact smallN (by show _ + 1 ≤ 100000; omega)
            · refine hU _ _ ⟨?_, rfl⟩
              rw [ec, ← e1]
              rfl
          · have c' : ¬ (W : Int) < ((r[j]).length : Int) := of_decide_eq_false (Bool.eq_false_iff.mpr c)
            have e1 : Cb.cellOf r[j] W = r[j] ++ List.replicate (W - (r[j]).length) 32 := if_neg (by omega)
            refine hU _ _ ⟨?_, rfl⟩
            rw [e1]
            rfl
        rintro σ' H' ⟨rfl, rfl⟩
        refine ⟨_, rfl, .inl ⟨rfl, _, SqL.of hp3⟩, _, rfl, pp, _, _, rfl, rfl, hp3, ?_, ?_⟩
        · rw [List.length_map, List.length_take]
          exact Nat.lt_of_le_of_lt (by omega) (small1000 (n := 900) (by decide))
        · refine ⟨_, _, _, rfl, s3.put hpp _, ?_⟩
          rw [upd_same, List.take_succ_eq_append_getElem hjc, hcell, List.map_append]
          rfl
      · rintro σ H3 ⟨w3, w4, w5, rfl, s3, hp3⟩
        have e1 : (Cb.cellsOf t cap r).take ((r.length : Nat) : Int).toNat = Cb.cellsOf t cap r := List.take_of_length_le (by omega)
        rw [e1] at hp3
        have hsum := sumLen_le _ (Cb.cellsOf t cap r) hcells
        have hmul : (Cb.cellsOf t cap r).length * 1000 ≤ 900 * 1000 := Nat.mul_le_mul (by omega) (Nat.le_refl _)
        have hl3 := s3 _ _ hl1
        refine ⟨_, rfl, .inl ⟨rfl, _, SqL.of hl3⟩, rfl, _, rfl, _, pp, Cb.cellsOf t cap r, rfl, rfl, SqL.of hp3, ?_, pl, _, _, rfl, rfl, hl3, ?_, ?_⟩
        · show sumLen (Cb.cellsOf t cap r) + (Cb.cellsOf t cap r).length * 1 ≤ 16777216
          omega
        · rw [List.length_map, List.length_map, List.length_take]
          exact Nat.lt_of_le_of_lt (by omega) (small1000 (n := 900) (by decide))
        · refine ⟨_, _, _, _, _, rfl, (s1.trans s3).put hpl _, ?_⟩
          rw [upd_same, List.take_succ_eq_append_getElem hi, er, List.map_append, List.map_append]
          rfl
  · rintro σ H' ⟨v1, v2, v3, v4, v5, rfl, s', hl'⟩
    have e : t.take (rs.map V.ref).length = t := List.take_of_length_le (by rw [List.length_map]; omega)
    rw [e] at hl'
    exact ⟨_, rfl, q pl H' s' hpl hl'⟩
end
abbrev GS (mg : Str → Option Value) (x : Str) (l : List Nat) : Prop := ∃ u, mg x = some u ∧ RelV (.str (tx l)) u
abbrev GI (mg : Str → Option Value) (x : Str) (n : Int) : Prop := ∃ u, mg x = some u ∧ RelV (.int n) u
def fieldSign (c : Nat) : Bool := decide (32 ≤ c ∧ c ≤ 126 ∧ c ≠ 37)
def spFS : Sp := fun vs H Q _ => ∃ c : Nat, vs = [.str (tx [c])] ∧ Q (.bl (fieldSign c)) H
def spCS : Sp := fun vs H Q _ => ∃ c : Nat, vs = [.str (tx [c])] ∧ Q (.bl (Cb.colSign c)) H
section
variable {P : Program} {w : World} {K : PySem.W.Frag} {mg : Str → Option Value} {base : Heap}
theorem scis_field_sign : FnScope ["sign"] ["sign"] (defScope sis_field_sign) := ⟨rfl, rfl, rfl, by decide +kernel, rfl, by decide +kernel, by decide +kernel⟩
theorem ok_is_field_sign {f : Addr} {fd : FuncData} (F : Fun K "is_field_sign" "is_field_sign" sis_field_sign f fd) (G : Gb mg) (gBLANK : GS mg "BLANK" [32]) (gLAST_SIGN : GS mg "LAST_SIGN" [126]) (gPERCENT_NUMBER : GI mg "PERCENT_NUMBER" 37) : FnOk P w K mg base CX0 1 f fd ["sign"] spFS := by
  refine F.ok scis_field_sign (fun vs H Q E h => ?_) (fun cdv A outer s H vs Q E hr h => ?_)
  · obtain ⟨c, rfl, _⟩ := h
    rfl
  obtain ⟨c, rfl, q⟩ := h
  refine ⟨_, (pss_one (ps_ret (pe_and (pe_chain op_le_str op_le_str (pe_gl rfl gBLANK) (pv 0) (pe_gl rfl gLAST_SIGN)) (pe_one (pe_cmpR op_ne (pe_callB call_ord rfl G.ord bt_ord (pa_cons (pv 0) pa_nil)) (pe_gl rfl gPERCENT_NUMBER) (nomark _)))))), ?_⟩
  refine ⟨_, rfl, _, _, rfl, rfl, _, rfl, ?_⟩
  refine ite2 (fun h => ?_) (fun h => ?_)
  · refine ⟨_, _, rfl, rfl, _, rfl, ?_⟩
    refine ite2 (fun h' => ?_) (fun h' => ?_)
    · refine ⟨_, rfl, _, rfl, rfl, rfl, ?_⟩
      have e : fieldSign c = !decide (V.int ((tx [c]).cps.getD 0 0 : Nat) = V.int 37) := by
        have h1 : ¬ c < 32 := by rw [dec_lt1] at h; simpa using h
        have h2 : ¬ 126 < c := by rw [dec_lt1] at h'; simpa using h'
        have h3 : (tx [c]).cps.getD 0 0 = c := rfl
        rw [h3]
        unfold fieldSign
        by_cases hc : c = 37
        · subst hc; decide
        · rw [decide_eq_true ⟨by omega, by omega, hc⟩, decide_eq_false (by intro z; injection z with z; omega)]
          rfl
      rw [e] at q
      exact q
    · have e : fieldSign c = false := by
        have h2 : 126 < c := by rw [dec_lt1] at h'; simpa using h'
        exact decide_eq_false (by omega)
      rw [e] at q
      exact q
  · refine ⟨_, rfl, iteF ?_⟩
    have e : fieldSign c = false := by
      have h2 : c < 32 := by rw [dec_lt1] at h; simpa using h
      exact decide_eq_false (by omega)
    rw [e] at q
    exact q
theorem scis_column_sign : FnScope ["sign"] ["sign"] (defScope sis_column_sign) := ⟨rfl, rfl, rfl, by decide +kernel, rfl, by decide +kernel, by decide +kernel⟩
theorem ok_is_column_sign {f g : Addr} {fd gd : FuncData} (F : Fun K "is_column_sign" "is_column_sign" sis_column_sign f fd) (G : Gb mg) (gBAR : GS mg "BAR" [124]) (gCUT_MARK : GS mg "CUT_MARK" [126]) (Gis_field_sign : FnOk P w K mg base CX0 1 g gd ["sign"] spFS) (bis_field_sign : Binds K gd ["sign"] []) (kis_field_sign : PySem.W.keepIn K (.ref g) = true) (mis_field_sign : mg "is_field_sign" = some (.ref g)) :
    FnOk P w K mg base CX0 2 f fd ["sign"] spCS := by
  refine F.ok scis_column_sign (fun vs H Q E h => ?_) (fun cdv A outer s H vs Q E hr h => ?_)
  · obtain ⟨c, rfl, _⟩ := h
    rfl
  obtain ⟨c, rfl, q⟩ := h
  refine ⟨_, (pss_one (ps_ret (pe_and (pe_call Gis_field_sign hr rfl mis_field_sign kis_field_sign bis_field_sign .nil pass0 (pa_cons (pv 0) pa_nil)) (pe_and (pe_cmpR op_ne (pv 0) (pe_gl rfl gBAR) (nomark _)) (pe_one (pe_cmpR op_ne (pv 0) (pe_gl rfl gCUT_MARK) (nomark _))))))), ?_⟩
  have dec : ∀ d : Nat, decide (V.str (tx [c]) = V.str (tx [d])) = decide (c = d) := fun d => by
    by_cases hd : c = d
    · subst hd; simp
    · rw [decide_eq_false hd, decide_eq_false]
      intro z
      injection z with z
      exact hd (by simpa using z)
  refine ⟨_, rfl, c, rfl, _, rfl, ?_⟩
  refine ite2 (fun h => ?_) (fun h => ?_)
  · refine ⟨_, rfl, rfl, _, rfl, ?_⟩
    rw [dec]
    refine ite2 (fun h' => ?_) (fun h' => ?_)
    · refine ⟨_, rfl, rfl, ?_⟩
      rw [dec]
      have e : Cb.colSign c = !decide (c = 126) := by
        have h1 := of_decide_eq_true h
        have h2 : ¬ c = 124 := by simpa using h'
        unfold Cb.colSign
        by_cases hc : c = 126
        · subst hc; decide
        · rw [decide_eq_true ⟨h1.1, h1.2.1, h1.2.2, h2, hc⟩, decide_eq_false hc]
          rfl
      rw [e] at q
      exact q
    · have e : Cb.colSign c = false := by
        have h2 : c = 124 := by simpa using h'
        subst h2
        decide
      rw [e] at q
      exact q
  · have e : Cb.colSign c = false := by
      unfold Cb.colSign
      refine decide_eq_false fun z => h ?_
      exact decide_eq_true ⟨z.1, z.2.1, z.2.2.1⟩
    rw [e] at q
    exact q
end
def spCols : Sp := fun vs H Q _ => ∃ (p : Addr) (rs : List Addr) (t : List (List (List Nat))) (n : Nat), vs = [.ref p] ∧ TabAt H p rs t ∧ (∀ r ∈ t, r.length = n) ∧ n ≤ 10000 ∧ t.length ≤ 10000 ∧
  ∀ (q : Addr) (ps : List Addr) (H' : Hp), Same H H' → TabAt H' q ps (colsOf t n) → H q = none → Q (.ref q) H'
section
variable {P : Program} {w : World} {K : PySem.W.Frag} {mg : Str → Option Value} {base : Heap}
theorem sccolumns_of : FnScope ["rows", "columns", "number"] ["rows"] (defScope scolumns_of) := ⟨rfl, rfl, rfl, by decide +kernel, rfl, by decide +kernel, by decide +kernel⟩
theorem ok_columns_of {f : Addr} {fd : FuncData} (F : Fun K "columns_of" "columns_of" scolumns_of f fd) (G : Gb mg) : FnOk P w K mg base CX0 1 f fd ["rows"] spCols := by
  refine F.ok sccolumns_of (fun vs H Q E h => ?_) (fun cdv A outer s H vs Q E hr h => ?_)
  · obtain ⟨p, rs, t, n, rfl, _⟩ := h
    rfl
  obtain ⟨p, rs, t, n, rfl, ht, hn, hn1, hz, q⟩ := h
  refine ⟨_, (pss_cons (ps_if (pt_not (pt_truth (pv 0) (fun _ => rfl))) (pss_one (ps_ret (pe_lst pa_nil))) pss_nil)
    (pss_cons (ps_set (i := 1) sccolumns_of.nd rfl (by first | exact Or.inl rfl | exact Or.inr rfl) (pe_lst pa_nil))
    (pss_cons (ps_for PassesOwn.never rfl (pi_range1 rfl G.range (pa_cons (pe_callB call_len_seq rfl G.len bt_len (pa_cons (pe_ix ix_list (pv 0) pe_int (fun _ _ => rfl)) pa_nil)) pa_nil)) (pg_name (i := 2) sccolumns_of.nd rfl (by first | exact Or.inl rfl | exact Or.inr rfl)) (pss_one (ps_expr (pe_bm PySem.F.plainAttrs_list PySem.F.slot_list_append PySem.F.type_list_append mt_append (pv 1) (pa_cons (pe_comp (caps := [("number", 2)]) (sc := defScope scolumns_of) (N := ["rows", "columns", "number"]) rfl (pi_list (pv 0)) rfl rfl (by decide +kernel) (fun _ _ _ _ _ _ => pif_nil) (fun _ _ _ _ _ _ => (pe_ix (ix_listK (K := K) rfl) (pv 0) (pv 1) (fun _ _ => rfl)))) pa_nil)))))
    (pss_one (ps_ret (pv 1)))))), ?_⟩
  have hrl := Paired.length ht.rows
  have zero : 0 ≤ sizeLine := Nat.zero_le _
  refine ⟨_, rfl, _, .inl ⟨_, SqL.of ht.tab, rfl⟩, ?_⟩
  refine ite2 (fun c => ?_) (fun c => ?_)
  · have e : rs = [] := by simpa using c
    have e2 : t = [] := List.length_eq_zero_iff.mp (by rw [← hrl, e] <;> rfl)
    refine ⟨zero, fun pq hpq => q pq [] _ (same_new hpq _) ?_ hpq⟩
    have e3 : colsOf t n = [] := if_pos e2
    rw [e3]
    exact ⟨upd_same, .nil⟩
  · have e2 : t ≠ [] := fun z => c (by
      have : rs = [] := List.length_eq_zero_iff.mp (by rw [hrl, z] <;> rfl)
      rw [this]
      rfl)
    refine ⟨zero, fun pc hpc => ?_⟩
    have s0 : Same H (upd H pc (.lst [])) := same_new hpc _
    have hlen : 0 < t.length := List.length_pos_iff.mpr e2
    have hr0 : 0 < rs.length := by omega
    obtain ⟨r0, hr1, hr2⟩ := Paired.getL ht.rows (List.getElem?_eq_getElem hr0)
    have hrm : r0 ∈ t := List.mem_of_getElem? hr1
    have hrn := hn r0 hrm
    have hrv : (rowV r0).length = n := by unfold rowV; rw [List.length_map, hrn]
    have hat : atI (rs.map V.ref) 0 = some (V.ref rs[0]) := atI_nat (j := 0) (by rw [List.getElem?_map, List.getElem?_eq_getElem hr0] <;> rfl)
    refine ⟨_, rfl, p, _, _, _, rfl, rfl, SqL.of (s0 _ _ ht.tab), hat, _, _, rfl, .inl (SqL.of (s0 _ _ hr2)), _, rfl, by omega, by rw [hrv]; omega, ?_⟩
    rw [hrv]
    refine for_range (lo := 0) (n := ((n : Nat) : Int).toNat) (fun i σ H' => ∃ (ps : List Addr) (kv : Option V), σ = [some (.ref p), some (.ref pc), kv] ∧ Same H H' ∧ TabAt H' pc ps ((List.range i).map fun k => t.map fun r => r.getD k []) ∧ pc ∉ ps) ⟨[], none, rfl, s0, ⟨upd_same, .nil⟩, by simp⟩ ?_ ?_
    · rintro i σ H' hi ⟨ps, kv, rfl, hs, hc, hnc⟩
      have hi' : i < n := by omega
      have ez : ((0 : Int) + (i : Int)) = ((i : Nat) : Int) := Int.zero_add _
      rw [ez]
      have hts := ht.same hs
      refine ⟨_, rfl, .inl ⟨rfl, _, SqL.of hc.tab⟩, _, rfl, p, rfl, ⟨_, SqL.of hts.tab⟩, fun acc hacc => comp_pure (fun j => V.str (tx ((t.getD j []).getD i []))) hacc (SqL.of hts.tab) (by rw [List.length_map]; omega) ?_ ?_⟩
      · intro j x H2 Qk hx h2 k
        obtain ⟨aj, r, rfl, hr1, hr2, hr3⟩ := row_at hts.rows hx
        have hir : i < r.length := by rw [hn r (List.mem_of_getElem? hr1)]; exact hi'
        refine ⟨_, rfl, _, rfl, aj, _, _, _, rfl, rfl, SqL.of (h2 _ _ hr3), atI_nat (j := i) (v := V.str (tx r[i])) (by unfold rowV; rw [List.getElem?_map, List.getElem?_eq_getElem hir] <;> rfl), ?_⟩
        have e3 : ((t.getD j []).getD i []) = r[i] := by
          have e0 : t.getD j [] = r := by rw [List.getD_eq_getElem?_getD, hr1] <;> rfl
          rw [e0, List.getD_eq_getElem?_getD, List.getElem?_eq_getElem hir]
          rfl
        have k' := k H2 (Same.refl _)
        rw [e3] at k'
        exact k'
      intro H2 h2 ha2
      rw [List.length_map, hrl] at ha2
      have ecol : (List.range t.length).map (fun j => V.str (tx ((t.getD j []).getD i []))) = rowV (t.map fun r => r.getD i []) := by
        unfold rowV
        rw [List.map_map]
        refine List.ext_getElem (by simp) fun n h1 h2 => ?_
        have hn : n < t.length := by simpa using h1
        simp [hn]
      rw [ecol] at ha2
      have hc2 := hc.same h2
      have npc : acc ≠ pc := fun z => by rw [z, hc.tab] at hacc; cases hacc
      have nps : acc ∉ ps := not_in hc.rows hacc
      have hpl : ps.length = i := by have := Paired.length hc.rows; rw [List.length_map, List.length_range] at this; exact this
      refine ⟨pc, _, _, rfl, rfl, hc2.tab, Nat.lt_of_le_of_lt (by rw [List.length_map]; omega) (show 10000 < sizeLine by rw [sizeLine_eq]; decide), ?_⟩
      refine ⟨ps ++ [acc], _, rfl, (hs.trans h2).put hpc _, ⟨by rw [upd_same, List.map_append] <;> rfl, ?_⟩, ?_⟩
      · rw [List.range_succ, List.map_append]
        refine RowsAt.put (Paired.snoc hc2.rows ha2) ?_ _
        intro z
        rcases List.mem_append.mp z with z | z
        · exact hnc z
        · exact npc (List.mem_singleton.mp z).symm
      · intro z
        rcases List.mem_append.mp z with z | z
        · exact hnc z
        · exact npc (List.mem_singleton.mp z).symm
    · rintro σ H' ⟨ps, kv, rfl, hs, hc, hnc⟩
      have e3 : colsOf t n = (List.range ((n : Nat) : Int).toNat).map fun k => t.map fun r => r.getD k [] := by
        rw [Int.toNat_natCast]
        exact if_neg e2
      refine ⟨_, rfl, q pc ps H' hs ?_ hpc⟩
      rw [e3]
      exact hc
end
def spIsCut : Sp := fun vs H Q _ => ∃ l : List Nat, vs = [.str (tx l)] ∧ Q (.bl (isCutN l)) H
def spTold : Sp := fun vs H Q _ => ∃ l : List Nat, vs = [.str (tx l)] ∧ l.length ≤ 100000 ∧ ∀ v H', Same H H' → Rep (fresh H H') (toldD l) v → Q v H'
def spToldRow : Sp := fun vs H Q _ => ∃ (p : Addr) (r : List (List Nat)), vs = [.ref p] ∧ H p = some (.lst (rowV r)) ∧ r.length ≤ 10000 ∧ (∀ l ∈ r, l.length ≤ 100000) ∧ ∀ v H', Same H H' → Rep (fresh H H') (.l (r.map toldD)) v → Q v H'
def spIsCell : Sp := fun vs H Q _ => ∃ l : List Nat, vs = [.str (tx l)] ∧ l.length ≤ 100000 ∧ ∀ H', Same H H' → Q (.bl (isCellN l)) H'
def spCellsAlone : Sp := fun vs H Q _ => ∃ (p : Addr) (r : List (List Nat)), vs = [.ref p] ∧ H p = some (.lst (rowV r)) ∧ r.length ≤ 10000 ∧ (∀ l ∈ r, l.length ≤ 100000) ∧ ∀ H', Same H H' → Q (.bl (r.all isCellN)) H'
def spHasCut : Sp := fun vs H Q _ => ∃ (p : Addr) (r : List (List Nat)), vs = [.ref p] ∧ H p = some (.lst (rowV r)) ∧ r.length ≤ 10000 ∧ ∀ H', Same H H' → Q (.bl (hasCutN r)) H'
def spWidthC : Sp := fun vs H Q _ => ∃ (p : Addr) (r : List (List Nat)), vs = [.ref p] ∧ H p = some (.lst (rowV r)) ∧ r ≠ [] ∧ (∀ l ∈ r, l.length ≤ 100000) ∧ Q (.int (widthN r)) H
def spIsCol : Sp := fun vs H Q _ => ∃ (p : Addr) (r : List (List Nat)), vs = [.ref p] ∧ H p = some (.lst (rowV r)) ∧ r ≠ [] ∧ r.length ≤ 10000 ∧ (∀ l ∈ r, l.length ≤ 100000) ∧ ∀ H', Same H H' → Q (.bl (isColN r)) H'
def spShare : Sp := fun vs H Q _ => ∃ (p : Addr) (rs : List Addr) (cs : List (List (List Nat))), vs = [.ref p] ∧ TabAt H p rs cs ∧ cs.length ≤ 10000 ∧ (∀ c ∈ cs, c ≠ [] ∧ c.length ≤ 10000 ∧ ∀ l ∈ c, l.length ≤ 100000) ∧ ∀ H', Same H H' → Q (.bl (shareN cs)) H'
def spIsSheet : Sp := fun vs H Q _ => ∃ (p : Addr) (rs : List Addr) (t : List (List (List Nat))), vs = [.ref p] ∧ TabAt H p rs t ∧ t.length ≤ 10000 ∧ (∀ r ∈ t, r.length ≤ 10000 ∧ ∀ l ∈ r, l.length ≤ 100000) ∧ ∀ H', Same H H' → Q (.bl (isSheetN t)) H'
section
variable {P : Program} {w : World} {K : PySem.W.Frag} {mg : Str → Option Value} {base : Heap}
theorem scis_cut : FnScope ["cell"] ["cell"] (defScope sis_cut) := ⟨rfl, rfl, rfl, by decide +kernel, rfl, by decide +kernel, by decide +kernel⟩
theorem ok_is_cut {f : Addr} {fd : FuncData} (F : Fun K "is_cut" "is_cut" sis_cut f fd) (G : Gb mg) (gCUT_MARK : GS mg "CUT_MARK" [126]) : FnOk P w K mg base CX0 1 f fd ["cell"] spIsCut := by
  refine F.ok scis_cut (fun vs H Q E h => ?_) (fun cdv A outer s H vs Q E hr h => ?_)
  · obtain ⟨l, rfl, _⟩ := h
    rfl
  obtain ⟨l, rfl, q⟩ := h
  refine ⟨_, (pss_one (ps_ret (pe_bm PySem.F.plainAttrs_str PySem.F.slot_str_endswith PySem.F.type_str_endswith mt_endswith (pv 0) (pa_cons (pe_gl rfl gCUT_MARK) pa_nil)))), ?_⟩
  exact ⟨_, rfl, rfl, _, _, rfl, rfl, q⟩
theorem sctold_by : FnScope ["cell"] ["cell"] (defScope stold_by) := ⟨rfl, rfl, rfl, by decide +kernel, rfl, by decide +kernel, by decide +kernel⟩
theorem ok_told_by {f g : Addr} {fd gd : FuncData} (F : Fun K "told_by" "told_by" stold_by f fd) (G : Gb mg) (gBLANK : GS mg "BLANK" [32]) (gCUT : GS mg "CUT" sCut) (gWHOLE : GS mg "WHOLE" sWhole)
    (Gis_cut : FnOk P w K mg base CX0 1 g gd ["cell"] spIsCut) (bis_cut : Binds K gd ["cell"] []) (kis_cut : PySem.W.keepIn K (.ref g) = true) (mis_cut : mg "is_cut" = some (.ref g)) :
    FnOk P w K mg base CX0 2 f fd ["cell"] spTold := by
  refine F.ok sctold_by (fun vs H Q E h => ?_) (fun cdv A outer s H vs Q E hr h => ?_)
  · obtain ⟨l, rfl, _⟩ := h
    rfl
  obtain ⟨l, rfl, hz, q⟩ := h
  refine ⟨_, (pss_cons (ps_if (pt_val (pe_call Gis_cut hr rfl mis_cut kis_cut bis_cut .nil pass0 (pa_cons (pv 0) pa_nil))) (pss_one (ps_ret (pe_tup (pa_cons (pe_gl rfl gCUT) (pa_cons (pe_slice sl_str (pv 0) po_none (po_some (pe_un un_neg pe_int))) pa_nil))))) pss_nil)
    (pss_one (ps_ret (pe_tup (pa_cons (pe_gl rfl gWHOLE) (pa_cons (pe_bm PySem.F.plainAttrs_str PySem.F.slot_str_rstrip PySem.F.type_str_rstrip mt_rstrip (pv 0) (pa_cons (pe_gl rfl gBLANK) pa_nil)) pa_nil)))))), ?_⟩
  have pair : ∀ {p : Addr} {a b : List Nat}, H p = none → Rep (fresh H (upd H p (.tup [.str (tx a), .str (tx b)]))) (.t [.s a, .s b]) (.ref p) := fun {p a b} hp => rep_pair (by rw [fresh_none hp, upd_same])
  refine ⟨_, rfl, l, rfl, _, rfl, ?_⟩
  refine ite2 (fun c => ?_) (fun c => ?_)
  · refine ⟨_, rfl, _, rfl, _, rfl, _, rfl, smallN hz, two_small, fun p hp => q _ _ (same_new hp _) ?_⟩
    have e : toldD l = .t [.s sCut, .s l.dropLast] := if_pos c
    rw [e, cut_last]
    exact pair hp
  · refine ⟨_, rfl, rfl, _, _, rfl, rfl, smallN hz, ?_⟩
    rw [rstrip_tx]
    refine ⟨two_small, fun p hp => q _ _ (same_new hp _) ?_⟩
    have e : toldD l = .t [.s sWhole, .s (rsN l)] := if_neg c
    rw [e]
    exact pair hp
theorem sctold_by_row : FnScope ["row"] ["row"] (defScope stold_by_row) := ⟨rfl, rfl, rfl, by decide +kernel, rfl, by decide +kernel, by decide +kernel⟩
theorem ok_told_by_row {f g : Addr} {fd gd : FuncData} (F : Fun K "told_by_row" "told_by_row" stold_by_row f fd) (G : Gb mg)
    (Gtold_by : FnOk P w K mg base CX0 2 g gd ["cell"] spTold) (btold_by : Binds K gd ["cell"] []) (ktold_by : PySem.W.keepIn K (.ref g) = true) (mtold_by : mg "told_by" = some (.ref g)) :
    FnOk P w K mg base CX0 3 f fd ["row"] spToldRow := by
  refine F.ok sctold_by_row (fun vs H Q E h => ?_) (fun cdv A outer s H vs Q E hr h => ?_)
  · obtain ⟨p, r, rfl, _⟩ := h
    rfl
  obtain ⟨p, r, rfl, hp, hz, hlz, q⟩ := h
  refine ⟨_, (pss_one (ps_ret (pe_comp (caps := []) (sc := defScope stold_by_row) (N := ["row"]) rfl (pi_list (pv 0)) rfl rfl (by decide +kernel) (fun _ _ _ _ _ _ => pif_nil) (fun _ _ _ _ _ _ => (pe_call Gtold_by hr rfl mtold_by ktold_by btold_by .nil pass0 (pa_cons (pv 0) pa_nil)))))), ?_⟩
  have hlv : (rowV r).length = r.length := List.length_map _
  refine ⟨_, rfl, p, rfl, ⟨_, SqL.of hp⟩, fun acc hacc => comp_fresh (fun j => toldD (r.getD j [])) hacc (SqL.of hp) (by rw [hlv]; omega) ?_ ?_⟩
  · intro j x H2 Qk hx h2 k
    obtain ⟨fl, hf, rfl⟩ := row_get hx
    refine ⟨_, rfl, fl, rfl, hlz fl (List.mem_of_getElem? hf), fun v H3 s3 hv => k v H3 s3 ?_⟩
    rw [getD_some hf]
    exact hv
  · intro ys H2 h2 ha2 hrep
    rw [hlv, range_map r [] toldD] at hrep
    exact q _ _ h2 hrep
theorem scis_cell : FnScope ["cell", "signs"] ["cell"] (defScope sis_cell) := ⟨rfl, rfl, rfl, by decide +kernel, rfl, by decide +kernel, by decide +kernel⟩
theorem ok_is_cell {f g g2 : Addr} {fd gd gd2 : FuncData} (F : Fun K "is_cell" "is_cell" sis_cell f fd) (G : Gb mg)
    (Gis_cut : FnOk P w K mg base CX0 2 g gd ["cell"] spIsCut) (bis_cut : Binds K gd ["cell"] []) (kis_cut : PySem.W.keepIn K (.ref g) = true) (mis_cut : mg "is_cut" = some (.ref g))
    (Gis_column_sign : FnOk P w K mg base CX0 2 g2 gd2 ["sign"] spCS) (bis_column_sign : Binds K gd2 ["sign"] []) (kis_column_sign : PySem.W.keepIn K (.ref g2) = true) (mis_column_sign : mg "is_column_sign" = some (.ref g2)) :
    FnOk P w K mg base CX0 3 f fd ["cell"] spIsCell := by
  refine F.ok scis_cell (fun vs H Q E h => ?_) (fun cdv A outer s H vs Q E hr h => ?_)
  · obtain ⟨l, rfl, _⟩ := h
    rfl
  obtain ⟨l, rfl, hz, q⟩ := h
  refine ⟨_, (pss_cons (ps_set (i := 1) scis_cell.nd rfl (by first | exact Or.inl rfl | exact Or.inr rfl) (pe_ifExp (pt_val (pe_call Gis_cut hr rfl mis_cut kis_cut bis_cut .nil pass0 (pa_cons (pv 0) pa_nil))) (pe_slice sl_str (pv 0) po_none (po_some (pe_un un_neg pe_int))) (pv 0)))
    (pss_one (ps_ret (pe_and (pe_cmpR op_ne (pv 1) (pe_tx (l := []) (by decide +kernel)) (nomark _)) (pe_one (pe_callB (call_allL rfl) rfl G.all bt_all (pa_cons (pe_comp (caps := []) (sc := defScope sis_cell) (N := ["cell", "signs"]) rfl (pi_str (pv 1)) rfl rfl (by decide +kernel) (fun _ _ _ _ _ _ => pif_nil) (fun _ _ _ _ _ _ => (pe_call Gis_column_sign hr rfl mis_column_sign kis_column_sign bis_column_sign .nil pass0 (pa_cons (pv 0) pa_nil)))) pa_nil))))))), ?_⟩
  refine tSeq_mid (fun σ' H' => σ' = [some (.str (tx l)), some (.str (tx (cellSigns l)))] ∧ H' = H) ?_ ?_
  rotate_left
  · intro U hU
    refine ⟨_, rfl, l, rfl, _, rfl, ?_⟩
    refine ite2 (fun c => ?_) (fun c => ?_)
    · refine ⟨_, rfl, _, rfl, _, rfl, _, rfl, smallN hz, hU _ _ ⟨?_, rfl⟩⟩
      rw [cut_last, show cellSigns l = l.dropLast from if_pos c]
      rfl
    · refine ⟨_, rfl, hU _ _ ⟨?_, rfl⟩⟩
      rw [show cellSigns l = l from if_neg c]
      rfl
  rintro σ' H' ⟨rfl, rfl⟩
  refine ⟨_, rfl, rfl, _, rfl, ?_⟩
  rw [dec_tx]
  refine ite2 (fun c => ?_) (fun c => ?_)
  · refine ⟨_, rfl, _, rfl, fun acc hacc => ?_⟩
    have hcs : (cellSigns l).length ≤ 100000 := by
      unfold cellSigns
      split
      · rw [List.length_dropLast]; omega
      · exact hz
    refine comp_str (fun j => V.bl (Cb.colSign ((cellSigns l).getD j 0))) hacc hcs ?_ ?_
    · intro j x H2 Qk hx h2 k
      refine ⟨_, rfl, x, rfl, ?_⟩
      have k' := k H2 (Same.refl _)
      rw [getD_some hx] at k'
      exact k'
    · intro H2 h2 ha2
      have e : (List.range (cellSigns l).length).map (fun j => V.bl (Cb.colSign ((cellSigns l).getD j 0))) = ((cellSigns l).map Cb.colSign).map V.bl := by
        rw [range_map (cellSigns l) 0 fun c => V.bl (Cb.colSign c), List.map_map]
        rfl
      rw [e] at ha2
      refine ⟨acc, _, rfl, SqL.of ha2, ?_⟩
      have q' := q H2 h2
      have e2 : isCellN l = ((cellSigns l).map Cb.colSign).all id := by
        unfold isCellN
        rw [c, Bool.true_and, List.all_map]
        rfl
      rw [e2] at q'
      exact q'
  · have e2 : isCellN l = false := by
      have c' : (!decide (cellSigns l = [])) = false := Bool.eq_false_iff.mpr c
      unfold isCellN
      rw [c', Bool.false_and]
    have q' := q H' (Same.refl _)
    rw [e2] at q'
    exact q'
theorem schas_cells_alone : FnScope ["row"] ["row"] (defScope shas_cells_alone) := ⟨rfl, rfl, rfl, by decide +kernel, rfl, by decide +kernel, by decide +kernel⟩
theorem ok_has_cells_alone {f g : Addr} {fd gd : FuncData} (F : Fun K "has_cells_alone" "has_cells_alone" shas_cells_alone f fd) (G : Gb mg)
    (Gis_cell : FnOk P w K mg base CX0 3 g gd ["cell"] spIsCell) (bis_cell : Binds K gd ["cell"] []) (kis_cell : PySem.W.keepIn K (.ref g) = true) (mis_cell : mg "is_cell" = some (.ref g)) :
    FnOk P w K mg base CX0 4 f fd ["row"] spCellsAlone := by
  refine F.ok schas_cells_alone (fun vs H Q E h => ?_) (fun cdv A outer s H vs Q E hr h => ?_)
  · obtain ⟨p, r, rfl, _⟩ := h
    rfl
  obtain ⟨p, r, rfl, hp, hz, hlz, q⟩ := h
  refine ⟨_, (pss_one (ps_ret (pe_callB (call_allL rfl) rfl G.all bt_all (pa_cons (pe_comp (caps := []) (sc := defScope shas_cells_alone) (N := ["row"]) rfl (pi_list (pv 0)) rfl rfl (by decide +kernel) (fun _ _ _ _ _ _ => pif_nil) (fun _ _ _ _ _ _ => (pe_call Gis_cell hr rfl mis_cell kis_cell bis_cell .nil pass0 (pa_cons (pv 0) pa_nil)))) pa_nil)))), ?_⟩
  have hlv : (rowV r).length = r.length := List.length_map _
  refine ⟨_, rfl, p, rfl, ⟨_, SqL.of hp⟩, fun acc hacc => comp_pure (fun j => V.bl (isCellN (r.getD j []))) hacc (SqL.of hp) (by rw [hlv]; omega) ?_ ?_⟩
  · intro j x H2 Qk hx h2 k
    obtain ⟨fl, hf, rfl⟩ := row_get hx
    refine ⟨_, rfl, fl, rfl, hlz fl (List.mem_of_getElem? hf), fun H3 s3 => ?_⟩
    have k' := k H3 s3
    rw [getD_some hf] at k'
    exact k'
  · intro H2 h2 ha2
    have e : (List.range (rowV r).length).map (fun j => V.bl (isCellN (r.getD j []))) = (r.map isCellN).map V.bl := by
      rw [hlv, range_map r [] fun c => V.bl (isCellN c), List.map_map]
      rfl
    rw [e] at ha2
    refine ⟨acc, _, rfl, SqL.of ha2, ?_⟩
    have q' := q H2 h2
    rw [show r.all isCellN = (r.map isCellN).all id by rw [List.all_map]; rfl] at q'
    exact q'
theorem schas_cut : FnScope ["column"] ["column"] (defScope shas_cut) := ⟨rfl, rfl, rfl, by decide +kernel, rfl, by decide +kernel, by decide +kernel⟩
theorem ok_has_cut {f g : Addr} {fd gd : FuncData} (F : Fun K "has_cut" "has_cut" shas_cut f fd) (G : Gb mg)
    (Gis_cut : FnOk P w K mg base CX0 1 g gd ["cell"] spIsCut) (bis_cut : Binds K gd ["cell"] []) (kis_cut : PySem.W.keepIn K (.ref g) = true) (mis_cut : mg "is_cut" = some (.ref g)) :
    FnOk P w K mg base CX0 2 f fd ["column"] spHasCut := by
  refine F.ok schas_cut (fun vs H Q E h => ?_) (fun cdv A outer s H vs Q E hr h => ?_)
  · obtain ⟨p, r, rfl, _⟩ := h
    rfl
  obtain ⟨p, r, rfl, hp, hz, q⟩ := h
  refine ⟨_, (pss_one (ps_ret (pe_callB (call_anyL rfl) rfl G.any bt_any (pa_cons (pe_comp (caps := []) (sc := defScope shas_cut) (N := ["column"]) rfl (pi_list (pv 0)) rfl rfl (by decide +kernel) (fun _ _ _ _ _ _ => pif_nil) (fun _ _ _ _ _ _ => (pe_call Gis_cut hr rfl mis_cut kis_cut bis_cut .nil pass0 (pa_cons (pv 0) pa_nil)))) pa_nil)))), ?_⟩
  have hlv : (rowV r).length = r.length := List.length_map _
  refine ⟨_, rfl, p, rfl, ⟨_, SqL.of hp⟩, fun acc hacc => comp_pure (fun j => V.bl (isCutN (r.getD j []))) hacc (SqL.of hp) (by rw [hlv]; omega) ?_ ?_⟩
  · intro j x H2 Qk hx h2 k
    obtain ⟨fl, hf, rfl⟩ := row_get hx
    refine ⟨_, rfl, fl, rfl, ?_⟩
    have k' := k H2 (Same.refl _)
    rw [getD_some hf] at k'
    exact k'
  · intro H2 h2 ha2
    have e : (List.range (rowV r).length).map (fun j => V.bl (isCutN (r.getD j []))) = (r.map isCutN).map V.bl := by
      rw [hlv, range_map r [] fun c => V.bl (isCutN c), List.map_map]
      rfl
    rw [e] at ha2
    refine ⟨acc, _, rfl, SqL.of ha2, ?_⟩
    have q' := q H2 h2
    rw [show hasCutN r = (r.map isCutN).any id by unfold hasCutN; rw [List.any_map]; rfl] at q'
    exact q'
theorem scwidth_of_cells : FnScope ["column"] ["column"] (defScope swidth_of_cells) := ⟨rfl, rfl, rfl, by decide +kernel, rfl, by decide +kernel, by decide +kernel⟩
theorem ok_width_of_cells {f : Addr} {fd : FuncData} (F : Fun K "width_of_cells" "width_of_cells" swidth_of_cells f fd) (G : Gb mg) : FnOk P w K mg base CX0 1 f fd ["column"] spWidthC := by
  refine F.ok scwidth_of_cells (fun vs H Q E h => ?_) (fun cdv A outer s H vs Q E hr h => ?_)
  · obtain ⟨p, r, rfl, _⟩ := h
    rfl
  obtain ⟨p, r, rfl, hp, hne, hlz, q⟩ := h
  refine ⟨_, (pss_one (ps_ret (pe_callB call_len_tx rfl G.len bt_len (pa_cons (pe_ix ix_list (pv 0) pe_int (fun _ _ => rfl)) pa_nil)))), ?_⟩
  cases r with
  | nil => exact absurd rfl hne
  | cons a r =>
    exact ⟨_, rfl, p, _, _, _, rfl, rfl, SqL.of hp, atI_nat (j := 0) (v := V.str (tx a)) rfl, _, rfl, smallN (hlz a List.mem_cons_self), q⟩
theorem scis_column : FnScope ["column", "width", "longest"] ["column"] (defScope sis_column) := ⟨rfl, rfl, rfl, by decide +kernel, rfl, by decide +kernel, by decide +kernel⟩
theorem ok_is_column {f g : Addr} {fd gd : FuncData} (F : Fun K "is_column" "is_column" sis_column f fd) (G : Gb mg) (gBLANK : GS mg "BLANK" [32]) (gLEAST_WIDTH : GI mg "LEAST_WIDTH" 1)
    (Gwidth_of_cells : FnOk P w K mg base CX0 1 g gd ["column"] spWidthC) (bwidth_of_cells : Binds K gd ["column"] []) (kwidth_of_cells : PySem.W.keepIn K (.ref g) = true) (mwidth_of_cells : mg "width_of_cells" = some (.ref g)) :
    FnOk P w K mg base CX0 2 f fd ["column"] spIsCol := by
  refine F.ok scis_column (fun vs H Q E h => ?_) (fun cdv A outer s H vs Q E hr h => ?_)
  · obtain ⟨p, r, rfl, _⟩ := h
    rfl
  obtain ⟨p, r, rfl, hp, hne, hz, hlz, q⟩ := h
  refine ⟨_, (pss_cons (ps_set (i := 1) scis_column.nd rfl (by first | exact Or.inl rfl | exact Or.inr rfl) (pe_call Gwidth_of_cells hr rfl mwidth_of_cells kwidth_of_cells bwidth_of_cells .nil pass0 (pa_cons (pv 0) pa_nil)))
    (pss_cons (ps_if (pt_val (pe_callB (call_anyL rfl) rfl G.any bt_any (pa_cons (pe_comp (caps := [("width", 1)]) (sc := defScope sis_column) (N := ["column", "width", "longest"]) rfl (pi_list (pv 0)) rfl rfl (by decide +kernel) (fun _ _ _ _ _ _ => pif_nil) (fun _ _ _ _ _ _ => (pe_cmpR op_ne (pe_callB call_len_tx rfl G.len bt_len (pa_cons (pv 0) pa_nil)) (pv 1) (nomark _)))) pa_nil))) (pss_one (ps_ret pe_bl)) pss_nil)
    (pss_cons (ps_set (i := 2) scis_column.nd rfl (by first | exact Or.inl rfl | exact Or.inr rfl) (pe_callB (call_maxL rfl) rfl G.max bt_max (pa_cons (pe_comp (caps := []) (sc := defScope sis_column) (N := ["column", "width", "longest"]) rfl (pi_list (pv 0)) rfl rfl (by decide +kernel) (fun _ _ _ _ _ _ => pif_nil) (fun _ _ _ _ _ _ => (pe_callB call_len_tx rfl G.len bt_len (pa_cons (pe_bmK (K := K) rfl PySem.F.plainAttrs_str PySem.F.slot_str_rstrip PySem.F.type_str_rstrip mt_rstrip (pv 0) (pa_cons (pe_gl rfl gBLANK) pa_nil)) pa_nil)))) pa_nil)))
    (pss_one (ps_ret (pe_cmpR op_eq (pv 1) (pe_callB (call_max2 rfl) rfl G.max bt_max (pa_cons (pv 2) (pa_cons (pe_gl rfl gLEAST_WIDTH) pa_nil))) (nomark _))))))), ?_⟩
  have hlv : (rowV r).length = r.length := List.length_map _
  refine ⟨_, rfl, p, r, rfl, hp, hne, hlz, ?_⟩
  refine ⟨_, rfl, p, rfl, ⟨_, SqL.of hp⟩, fun acc hacc => comp_pure (fun j => V.bl (!decide ((r.getD j []).length = widthN r))) hacc (SqL.of hp) (by rw [hlv]; omega) ?_ ?_⟩
  · intro j x H2 Qk hx h2 k
    obtain ⟨fl, hf, rfl⟩ := row_get hx
    refine ⟨_, rfl, _, rfl, smallN (hlz fl (List.mem_of_getElem? hf)), _, rfl, rfl, ?_⟩
    have k' := k H2 (Same.refl _)
    rw [getD_some hf] at k'
    have e : decide (V.int ((fl.length : Nat) : Int) = V.int ((widthN r : Nat) : Int)) = decide (fl.length = widthN r) := by
      rw [dec_num]
      exact decide_eq_decide.mpr Int.ofNat_inj
    rw [e]
    exact k'
  intro H2 h2 ha2
  have e : (List.range (rowV r).length).map (fun j => V.bl (!decide ((r.getD j []).length = widthN r))) = (r.map fun l => !decide (l.length = widthN r)).map V.bl := by
    rw [hlv, range_map r [] fun c => V.bl (!decide (c.length = widthN r)), List.map_map]
    rfl
  rw [e] at ha2
  refine ⟨acc, _, rfl, SqL.of ha2, _, rfl, ?_⟩
  have ea : (r.any fun l => !decide (l.length = widthN r)) = (r.map fun l => !decide (l.length = widthN r)).any id := by rw [List.any_map]; rfl
  rw [← ea]
  refine ite2 (fun c => ?_) (fun c => ?_)
  · have q' := q H2 h2
    rw [show isColN r = false by unfold isColN; rw [c]; rfl] at q'
    exact q'
  have hp2 := h2 _ _ hp
  refine ⟨_, rfl, p, rfl, ⟨_, SqL.of hp2⟩, fun acc2 hacc2 => comp_pure (fun j => V.int ((rsN (r.getD j [])).length : Nat)) hacc2 (SqL.of hp2) (by rw [hlv]; omega) ?_ ?_⟩
  · intro j x H3 Qk hx h3 k
    obtain ⟨fl, hf, rfl⟩ := row_get hx
    have hfl := hlz fl (List.mem_of_getElem? hf)
    have hrl := rsN_len fl
    refine ⟨_, rfl, rfl, _, _, rfl, rfl, smallN hfl, ?_⟩
    rw [rstrip_tx]
    refine ⟨_, rfl, smallN (by omega), ?_⟩
    have k' := k H3 (Same.refl _)
    rw [getD_some hf] at k'
    exact k'
  intro H3 h3 ha3
  have e3 : (List.range (rowV r).length).map (fun j => V.int ((rsN (r.getD j [])).length : Nat)) = ((r.map rsN).map fun l => ((l.length : Nat) : Int)).map V.int := by
    rw [hlv, range_map r [] fun c => V.int ((rsN c).length : Nat), List.map_map, List.map_map]
    rfl
  rw [e3] at ha3
  refine ⟨acc2, _, rfl, SqL.of ha3, by rw [List.length_map, List.length_map]; exact List.length_pos_iff.mpr hne, fun M hM hm => ⟨_, rfl, _, rfl, _, _, rfl, rfl, ?_⟩⟩
  have e1 := longestOf_max hM hm
  dsimp only
  rw [e1]
  have q' := q H3 (h2.trans h3)
  have c' : (r.any fun l => !decide (l.length = widthN r)) = false := Bool.eq_false_iff.mpr c
  have el : longestOf (r.map rsN) = longR r := by unfold longestOf longR; rw [List.map_map]; rfl
  have e4 : isColN r = decide (V.int ((widthN r : Nat) : Int) = V.int ((longestOf (r.map rsN) : Nat) : Int)) := by
    rw [dec_num, el]
    unfold isColN
    rw [c']
    show (true && _) = _
    rw [Bool.true_and]
    exact decide_eq_decide.mpr Int.ofNat_inj.symm
  rw [e4] at q'
  exact q'
theorem scshare_a_cap : FnScope ["columns", "cut_widths"] ["columns"] (defScope sshare_a_cap) := ⟨rfl, rfl, rfl, by decide +kernel, rfl, by decide +kernel, by decide +kernel⟩
theorem ok_share_a_cap {f g g2 : Addr} {fd gd gd2 : FuncData} (F : Fun K "share_a_cap" "share_a_cap" sshare_a_cap f fd) (G : Gb mg)
    (Gwidth_of_cells : FnOk P w K mg base CX0 2 g gd ["column"] spWidthC) (bwidth_of_cells : Binds K gd ["column"] []) (kwidth_of_cells : PySem.W.keepIn K (.ref g) = true) (mwidth_of_cells : mg "width_of_cells" = some (.ref g))
    (Ghas_cut : FnOk P w K mg base CX0 2 g2 gd2 ["column"] spHasCut) (bhas_cut : Binds K gd2 ["column"] []) (khas_cut : PySem.W.keepIn K (.ref g2) = true) (mhas_cut : mg "has_cut" = some (.ref g2)) :
    FnOk P w K mg base CX0 3 f fd ["columns"] spShare := by
  refine F.ok scshare_a_cap (fun vs H Q E h => ?_) (fun cdv A outer s H vs Q E hr h => ?_)
  · obtain ⟨p, rs, cs, rfl, _⟩ := h
    rfl
  obtain ⟨p, rs, cs, rfl, ht, hz, hok, q⟩ := h
  refine ⟨_, (pss_cons (ps_setComp (k := 1) (caps := []) (sc := defScope sshare_a_cap) (N := ["columns", "cut_widths"]) rfl (pi_list (pv 0)) rfl rfl (by decide +kernel) (fun _ _ _ _ _ _ => (pif_one (pt_val (pe_call Ghas_cut hr rfl mhas_cut khas_cut bhas_cut .nil pass0 (pa_cons (pv 0) pa_nil))))) (fun _ _ _ _ _ _ => (pe_call Gwidth_of_cells hr rfl mwidth_of_cells kwidth_of_cells bwidth_of_cells .nil pass0 (pa_cons (pv 0) pa_nil))) scshare_a_cap.nd rfl (by first | exact Or.inl rfl | exact Or.inr rfl))
    (pss_cons (ps_if (pt_not (pt_truth (pv 1) (fun _ => rfl))) (pss_one (ps_ret pe_bl)) pss_nil)
    (pss_one (ps_ret (pe_cmpR op_eq (pe_callB (call_maxL rfl) rfl G.max bt_max (pa_cons (pe_comp (caps := []) (sc := defScope sshare_a_cap) (N := ["columns", "cut_widths"]) rfl (pi_list (pv 0)) rfl rfl (by decide +kernel) (fun _ _ _ _ _ _ => pif_nil) (fun _ _ _ _ _ _ => (pe_call Gwidth_of_cells hr rfl mwidth_of_cells kwidth_of_cells bwidth_of_cells .nil pass0 (pa_cons (pv 0) pa_nil)))) pa_nil)) (pe_callB (call_minL rfl) rfl G.min bt_min (pa_cons (pv 1) pa_nil)) (nomark _)))))), ?_⟩
  have hrl := Paired.length ht.rows
  have hlm : (rs.map V.ref).length = cs.length := by rw [List.length_map]; exact hrl
  refine ⟨_, rfl, p, rfl, ⟨_, SqL.of ht.tab⟩, fun acc hacc => comp_filter (fun j => hasCutN (cs.getD j [])) (fun j => V.int (widthN (cs.getD j []) : Nat)) hacc (SqL.of ht.tab) (by rw [hlm]; omega) ?_ ?_ ?_⟩
  · intro j x H2 Qk hx h2 k
    obtain ⟨aj, c, rfl, hr1, hr2, hr3⟩ := row_at (ht.same h2).rows hx
    have hc := hok c (List.mem_of_getElem? hr1)
    refine ⟨_, rfl, aj, c, rfl, hr3, hc.2.1, fun H3 s3 => ⟨_, rfl, ?_⟩⟩
    have k' := k H3 s3
    rw [getD_some hr1] at k'
    exact k'
  · intro j x H2 Qk hx h2 k
    obtain ⟨aj, c, rfl, hr1, hr2, hr3⟩ := row_at (ht.same h2).rows hx
    have hc := hok c (List.mem_of_getElem? hr1)
    refine ⟨_, rfl, aj, c, rfl, hr3, hc.1, hc.2.2, ?_⟩
    have k' := k H2 (Same.refl _)
    rw [getD_some hr1] at k'
    exact k'
  intro H2 h2 ha2
  rw [hlm, range_filter cs [] hasCutN fun c => V.int (widthN c : Nat)] at ha2
  have ht2 := ht.same h2
  refine ⟨_, rfl, _, .inl ⟨_, SqL.of ha2, rfl⟩, ?_⟩
  refine ite2 (fun c => ?_) (fun c => ?_)
  · have e : cs.filter hasCutN = [] := by simpa using c
    have q' := q H2 h2
    rw [show shareN cs = true by unfold shareN; rw [decide_eq_true e]; rfl] at q'
    exact q'
  · have e : cs.filter hasCutN ≠ [] := fun z => c (by rw [z]; rfl)
    refine ⟨_, rfl, p, rfl, ⟨_, SqL.of ht2.tab⟩, fun acc2 hacc2 => comp_pure (fun j => V.int (widthN (cs.getD j []) : Nat)) hacc2 (SqL.of ht2.tab) (by rw [hlm]; omega) ?_ ?_⟩
    · intro j x H3 Qk hx h3 k
      obtain ⟨aj, c, rfl, hr1, hr2, hr3⟩ := row_at (ht2.same h3).rows hx
      have hc := hok c (List.mem_of_getElem? hr1)
      refine ⟨_, rfl, aj, c, rfl, hr3, hc.1, hc.2.2, ?_⟩
      have k' := k H3 (Same.refl _)
      rw [getD_some hr1] at k'
      exact k'
    intro H3 h3 ha3
    rw [hlm, range_map cs [] fun c => V.int (widthN c : Nat)] at ha3
    have w1 : cs.map (fun c => V.int (widthN c : Nat)) = ((cs.map widthN).map fun (n : Nat) => (n : Int)).map V.int := by rw [List.map_map, List.map_map]; rfl
    have w2 : (cs.filter hasCutN).map (fun c => V.int (widthN c : Nat)) = (((cs.filter hasCutN).map widthN).map fun (n : Nat) => (n : Int)).map V.int := by rw [List.map_map, List.map_map]; rfl
    rw [w1] at ha3
    have ha2' := h3 _ _ ha2
    rw [w2] at ha2'
    have hne : cs ≠ [] := fun z => e (by rw [z]; rfl)
    refine ⟨acc2, _, rfl, SqL.of ha3, by rw [List.length_map, List.length_map]; exact List.length_pos_iff.mpr hne, fun M hM hm => ?_⟩
    refine ⟨_, rfl, acc, _, rfl, SqL.of ha2', by rw [List.length_map, List.length_map]; exact List.length_pos_iff.mpr e, fun m hm1 hm2 => ⟨rfl, ?_⟩⟩
    rw [maxN_is hM hm, minN_is hm1 hm2, dec_num]
    have q' := q H3 (h2.trans h3)
    have e5 : shareN cs = decide (((maxN (cs.map widthN) : Nat) : Int) = ((minN ((cs.filter hasCutN).map widthN) : Nat) : Int)) := by
      unfold shareN
      rw [decide_eq_false e, Bool.false_or]
      exact decide_eq_decide.mpr Int.ofNat_inj.symm
    rw [e5] at q'
    exact q'
theorem scis_sheet : FnScope ["rows", "columns"] ["rows"] (defScope sis_sheet) := ⟨rfl, rfl, rfl, by decide +kernel, rfl, by decide +kernel, by decide +kernel⟩
theorem ok_is_sheet {f g1 g2 g3 g4 : Addr} {fd d1 d2 d3 d4 : FuncData} (F : Fun K "is_sheet" "is_sheet" sis_sheet f fd) (G : Gb mg)
    (Ghas_cells_alone : FnOk P w K mg base CX0 4 g1 d1 ["row"] spCellsAlone) (bhas_cells_alone : Binds K d1 ["row"] []) (khas_cells_alone : PySem.W.keepIn K (.ref g1) = true) (mhas_cells_alone : mg "has_cells_alone" = some (.ref g1))
    (Gcolumns_of : FnOk P w K mg base CX0 4 g2 d2 ["rows"] spCols) (bcolumns_of : Binds K d2 ["rows"] []) (kcolumns_of : PySem.W.keepIn K (.ref g2) = true) (mcolumns_of : mg "columns_of" = some (.ref g2))
    (Gis_column : FnOk P w K mg base CX0 4 g3 d3 ["column"] spIsCol) (bis_column : Binds K d3 ["column"] []) (kis_column : PySem.W.keepIn K (.ref g3) = true) (mis_column : mg "is_column" = some (.ref g3))
    (Gshare_a_cap : FnOk P w K mg base CX0 4 g4 d4 ["columns"] spShare) (bshare_a_cap : Binds K d4 ["columns"] []) (kshare_a_cap : PySem.W.keepIn K (.ref g4) = true) (mshare_a_cap : mg "share_a_cap" = some (.ref g4)) :
    FnOk P w K mg base CX0 5 f fd ["rows"] spIsSheet := by
  refine F.ok scis_sheet (fun vs H Q E h => ?_) (fun cdv A outer s H vs Q E hr h => ?_)
  · obtain ⟨p, rs, t, rfl, _⟩ := h
    rfl
  obtain ⟨p, rs, t, rfl, ht, hz, hok, q⟩ := h
  refine ⟨_, (pss_cons (ps_if (pt_not (pt_val (pe_callB (call_allL rfl) rfl G.all bt_all (pa_cons (pe_comp (caps := []) (sc := defScope sis_sheet) (N := ["rows", "columns"]) rfl (pi_list (pv 0)) rfl rfl (by decide +kernel) (fun _ _ _ _ _ _ => pif_nil) (fun _ _ _ _ _ _ => (pe_call Ghas_cells_alone hr rfl mhas_cells_alone khas_cells_alone bhas_cells_alone .nil pass0 (pa_cons (pv 0) pa_nil)))) pa_nil)))) (pss_one (ps_ret pe_bl)) pss_nil)
    (pss_cons (ps_if (pt_val (pe_callB (call_anyL rfl) rfl G.any bt_any (pa_cons (pe_comp (caps := [("rows", 0)]) (sc := defScope sis_sheet) (N := ["rows", "columns"]) rfl (pi_list (pv 0)) rfl rfl (by decide +kernel) (fun _ _ _ _ _ _ => pif_nil) (fun _ _ _ _ _ _ => (pe_cmpR op_ne (pe_callB (call_len_seqK (K := K) rfl) rfl G.len bt_len (pa_cons (pv 0) pa_nil)) (pe_callB (call_len_seqK (K := K) rfl) rfl G.len bt_len (pa_cons (pe_ix (ix_listK (K := K) rfl) (pv 1) pe_int (fun _ _ => rfl)) pa_nil)) (nomark _)))) pa_nil))) (pss_one (ps_ret pe_bl)) pss_nil)
    (pss_cons (ps_set (i := 1) scis_sheet.nd rfl (by first | exact Or.inl rfl | exact Or.inr rfl) (pe_call Gcolumns_of hr rfl mcolumns_of kcolumns_of bcolumns_of .nil pass0 (pa_cons (pv 0) pa_nil)))
    (pss_one (ps_ret (pe_and (pe_callB (call_allL rfl) rfl G.all bt_all (pa_cons (pe_comp (caps := []) (sc := defScope sis_sheet) (N := ["rows", "columns"]) rfl (pi_list (pv 1)) rfl rfl (by decide +kernel) (fun _ _ _ _ _ _ => pif_nil) (fun _ _ _ _ _ _ => (pe_call Gis_column hr rfl mis_column kis_column bis_column .nil pass0 (pa_cons (pv 0) pa_nil)))) pa_nil)) (pe_one (pe_call Gshare_a_cap hr rfl mshare_a_cap kshare_a_cap bshare_a_cap .nil pass0 (pa_cons (pv 1) pa_nil))))))))), ?_⟩
  have hrl := Paired.length ht.rows
  have hlm : (rs.map V.ref).length = t.length := by rw [List.length_map]; exact hrl
  -- if not all([has_cells_alone(row) for row in rows])
  refine ⟨_, rfl, p, rfl, ⟨_, SqL.of ht.tab⟩, fun acc hacc => comp_pure (fun j => V.bl ((t.getD j []).all isCellN)) hacc (SqL.of ht.tab) (by rw [hlm]; omega) ?_ ?_⟩
  · intro j x H2 Qk hx h2 k
    obtain ⟨aj, r, rfl, hr1, hr2, hr3⟩ := row_at (ht.same h2).rows hx
    have hr := hok r (List.mem_of_getElem? hr1)
    refine ⟨_, rfl, aj, r, rfl, hr3, hr.1, hr.2, fun H3 s3 => ?_⟩
    have k' := k H3 s3
    rw [getD_some hr1] at k'
    exact k'
  intro H2 h2 ha2
  have e : (List.range (rs.map V.ref).length).map (fun j => V.bl ((t.getD j []).all isCellN)) = (t.map fun r => r.all isCellN).map V.bl := by
    rw [hlm, range_map t [] fun r => V.bl (r.all isCellN), List.map_map]
    rfl
  rw [e] at ha2
  refine ⟨acc, _, rfl, SqL.of ha2, _, rfl, ?_⟩
  rw [show ((t.map fun r => r.all isCellN).all id) = (t.all fun r => r.all isCellN) by rw [List.all_map]; rfl]
  refine ite2 (fun c => ?_) (fun c => ?_)
  · have c' : (t.all fun r => r.all isCellN) = false := by simpa using c
    have q' := q H2 h2
    rw [show isSheetN t = false by unfold isSheetN; rw [c', Bool.false_and]] at q'
    exact q'
  have c1 : (t.all fun r => r.all isCellN) = true := by simpa using c
  have ht2 := ht.same h2
  -- if any([len(row) != len(rows[0]) for row in rows])
  refine ⟨_, rfl, p, rfl, ⟨_, SqL.of ht2.tab⟩, fun acc2 hacc2 => comp_pure (fun j => V.bl (!decide ((t.getD j []).length = (t.headD []).length))) hacc2 (SqL.of ht2.tab) (by rw [hlm]; omega) ?_ ?_⟩
  · intro j x H3 Qk hx h3 k
    have ht3 := ht2.same h3
    obtain ⟨aj, r, rfl, hr1, hr2, hr3⟩ := row_at ht3.rows hx
    have hlen : 0 < t.length := by have := (List.getElem?_eq_some_iff.mp hr1).1; omega
    have hr0 : 0 < rs.length := by omega
    obtain ⟨r0, hz1, hz2⟩ := Paired.getL ht3.rows (List.getElem?_eq_getElem hr0)
    have hat : atI (rs.map V.ref) 0 = some (V.ref rs[0]) := atI_nat (j := 0) (by rw [List.getElem?_map, List.getElem?_eq_getElem hr0] <;> rfl)
    refine ⟨_, rfl, _, _, rfl, .inl (SqL.of hr3), _, rfl, p, _, _, _, rfl, rfl, SqL.of ht3.tab, hat, _, _, rfl, .inl (SqL.of hz2), rfl, ?_⟩
    have k' := k H3 (Same.refl _)
    have e0 : t.headD [] = r0 := by
      cases t with
      | nil => cases hz1
      | cons a b => cases hz1; rfl
    rw [getD_some hr1, e0] at k'
    have l1 : (rowV r).length = r.length := List.length_map _
    have l2 : (rowV r0).length = r0.length := List.length_map _
    rw [l1, l2, dec_num, show decide (((r.length : Nat) : Int) = ((r0.length : Nat) : Int)) = decide (r.length = r0.length) from decide_eq_decide.mpr Int.ofNat_inj]
    exact k'
  intro H3 h3 ha3
  have e3 : (List.range (rs.map V.ref).length).map (fun j => V.bl (!decide ((t.getD j []).length = (t.headD []).length))) = (t.map fun r => !decide (r.length = (t.headD []).length)).map V.bl := by
    rw [hlm, range_map t [] fun r => V.bl (!decide (r.length = (t.headD []).length)), List.map_map]
    rfl
  rw [e3] at ha3
  refine ⟨acc2, _, rfl, SqL.of ha3, _, rfl, ?_⟩
  rw [show ((t.map fun r => !decide (r.length = (t.headD []).length)).any id) = (t.any fun r => !decide (r.length = (t.headD []).length)) by rw [List.any_map]; rfl]
  refine ite2 (fun c => ?_) (fun c => ?_)
  · have q' := q H3 (h2.trans h3)
    rw [show isSheetN t = false by unfold isSheetN; rw [c1, c]; rfl] at q'
    exact q'
  have c2 : (t.any fun r => !decide (r.length = (t.headD []).length)) = false := Bool.eq_false_iff.mpr c
  have hlens : ∀ r ∈ t, r.length = (t.headD []).length := fun r hr => by
    have := List.any_eq_false.mp c2 r hr
    simpa using this
  have hn1 : (t.headD []).length ≤ 10000 := by
    cases t with
    | nil => exact Nat.zero_le _
    | cons a b => exact (hok a List.mem_cons_self).1
  have ht3 := ht2.same h3
  refine ⟨_, rfl, p, rs, t, _, rfl, ht3, hlens, hn1, hz, fun qc ps H4 s4 hc hqc => ?_⟩
  have cok : ∀ c ∈ colsOf t (t.headD []).length, c ≠ [] ∧ c.length ≤ 10000 ∧ ∀ l ∈ c, l.length ≤ 100000 := fun c hcm => by
    unfold colsOf at hcm
    by_cases h0 : t = []
    · rw [if_pos h0] at hcm
      cases hcm
    · rw [if_neg h0] at hcm
      obtain ⟨k, _, rfl⟩ := List.mem_map.mp hcm
      refine ⟨fun z => h0 (List.map_eq_nil_iff.mp z), by rw [List.length_map]; exact hz, fun l hl => ?_⟩
      obtain ⟨r, hr, rfl⟩ := List.mem_map.mp hl
      exact Cb.getD_le (hok r hr).2 k
  have hcl : (colsOf t (t.headD []).length).length ≤ 10000 := by
    unfold colsOf
    split
    · exact Nat.zero_le _
    · rw [List.length_map, List.length_range]; exact hn1
  have hpl := Paired.length hc.rows
  have hlp : (ps.map V.ref).length = (colsOf t (t.headD []).length).length := by rw [List.length_map]; exact hpl
  generalize hcs : colsOf t (t.headD []).length = cs at hc cok hcl hpl hlp
  -- return all([is_column(column) for column in columns]) and share_a_cap(columns)
  refine ⟨_, rfl, qc, rfl, ⟨_, SqL.of hc.tab⟩, fun acc4 hacc4 => comp_pure (fun j => V.bl (isColN (cs.getD j []))) hacc4 (SqL.of hc.tab) (by rw [hlp]; omega) ?_ ?_⟩
  · intro j x H5 Qk hx h5 k
    obtain ⟨aj, r, rfl, hr1, hr2, hr3⟩ := row_at (hc.same h5).rows hx
    have hr := cok r (List.mem_of_getElem? hr1)
    refine ⟨_, rfl, aj, r, rfl, hr3, hr.1, hr.2.1, hr.2.2, fun H6 s6 => ?_⟩
    have k' := k H6 s6
    rw [getD_some hr1] at k'
    exact k'
  intro H5 h5 ha5
  have e5 : (List.range (ps.map V.ref).length).map (fun j => V.bl (isColN (cs.getD j []))) = (cs.map isColN).map V.bl := by
    rw [hlp, range_map cs [] fun r => V.bl (isColN r), List.map_map]
    rfl
  rw [e5] at ha5
  refine ⟨acc4, _, rfl, SqL.of ha5, _, rfl, ?_⟩
  rw [show ((cs.map isColN).all id) = cs.all isColN by rw [List.all_map]; rfl]
  have s5 := ((h2.trans h3).trans s4).trans h5
  have esh : isSheetN t = (cs.all isColN && shareN cs) := by
    unfold isSheetN
    rw [c1, c2, hcs]
    rfl
  refine ite2 (fun c => ?_) (fun c => ?_)
  · refine ⟨_, rfl, qc, ps, cs, rfl, hc.same h5, hcl, cok, fun H6 s6 => ?_⟩
    have q' := q H6 (s5.trans s6)
    rw [esh, c, Bool.true_and] at q'
    exact q'
  · have q' := q H5 s5
    have c' : cs.all isColN = false := Bool.eq_false_iff.mpr c
    rw [esh, c', Bool.false_and] at q'
    exact q'
end
abbrev vErr : List Value := [.type "ValueError", .type "Exception", .type "BaseException", .type "object"]
def spReadX (cN : Addr) : Sp := fun vs H Q E => ∃ (p : Addr) (ls : List (List Nat)), vs = [.ref p] ∧ H p = some (.lst (rowV ls)) ∧ ls.length ≤ 1000 ∧ (∀ l ∈ ls, l.length ≤ 9000) ∧ (isSheetN (rowsOf ls) = false → ∀ H', Same H H' → E (.ref cN) none H') ∧
  (isSheetN (rowsOf ls) = true → ∀ v H', Same H H' → Rep (fresh H H') (readTold ls) v → Q v H')
section
variable {P : Program} {w : World} {K : PySem.W.Frag} {mg : Str → Option Value} {base : Heap}
theorem scread : FnScope ["lines", "rows"] ["lines"] (defScope sread) := ⟨rfl, rfl, rfl, by decide +kernel, rfl, by decide +kernel, by decide +kernel⟩
theorem ok_read {f g1 g2 cN : Addr} {fd d1 d2 : FuncData} (F : Fun K "read" "read" sread f fd) (G : Gb mg) (gBAR : GS mg "BAR" [124]) (oNoSheet : PyProof.Rows.OwnCls "NoSheet" cN vErr "ValueError.__new__" mg base)
    (Gis_sheet : FnOk P w K mg base CX0 5 g1 d1 ["rows"] spIsSheet) (bis_sheet : Binds K d1 ["rows"] []) (kis_sheet : PySem.W.keepIn K (.ref g1) = true) (mis_sheet : mg "is_sheet" = some (.ref g1))
    (Gtold_by_row : FnOk P w K mg base CX0 5 g2 d2 ["row"] spToldRow) (btold_by_row : Binds K d2 ["row"] []) (ktold_by_row : PySem.W.keepIn K (.ref g2) = true) (mtold_by_row : mg "told_by_row" = some (.ref g2)) :
    FnOk P w K mg base (CXf P w) 6 f fd ["lines"] (spReadX cN) := by
  refine F.okX scread (fun vs H Q E h => ?_) (fun cdv A outer s H vs Q E hr h => ?_)
  · obtain ⟨p, ls, rfl, _⟩ := h
    rfl
  obtain ⟨p, ls, rfl, hp, hz, hlz, qN, q⟩ := h
  refine ⟨_, (pss_cons (ps_setComp (k := 1) (caps := []) (sc := defScope sread) (N := ["lines", "rows"]) rfl (pi_list (pv 0)) rfl rfl (by decide +kernel) (fun _ _ _ _ _ _ => pif_nil) (fun _ _ _ _ _ _ => (pe_bmK (K := K) rfl PySem.F.plainAttrs_str PySem.F.slot_str_split PySem.F.type_str_split mt_split (pv 0) (pa_cons (pe_gl rfl gBAR) pa_nil))) scread.nd rfl (by first | exact Or.inl rfl | exact Or.inr rfl))
    (pss_cons (ps_if (pt_not (pt_val (pe_call Gis_sheet hr rfl mis_sheet kis_sheet bis_sheet .nil pass0 (pa_cons (pv 1) pa_nil)))) (pss_one (ps_raise oNoSheet PySem.F.excBase_ValueError (pa_cons (pe_tx (l := [110, 111, 32, 116, 97, 98, 108, 101, 32, 105, 115, 32, 119, 114, 105, 116, 116, 101, 110, 32, 97, 115, 32, 116, 104, 101, 115, 101, 32, 108, 105, 110, 101, 115]) (by decide +kernel)) pa_nil) rfl)) pss_nil)
    (pss_one (ps_ret (pe_comp (caps := []) (sc := defScope sread) (N := ["lines", "rows"]) rfl (pi_list (pv 1)) rfl rfl (by decide +kernel) (fun _ _ _ _ _ _ => pif_nil) (fun _ _ _ _ _ _ => (pe_call Gtold_by_row hr rfl mtold_by_row ktold_by_row btold_by_row .nil pass0 (pa_cons (pv 0) pa_nil)))))))), ?_⟩
  have hlv : (rowV ls).length = ls.length := List.length_map _
  refine ⟨_, rfl, p, rfl, ⟨_, SqL.of hp⟩, fun acc hacc => comp_fresh (fun j => .l ((splitN 124 (ls.getD j [])).map .s)) hacc (SqL.of hp) (by rw [hlv]; omega) ?_ ?_⟩
  · intro j x H2 Qk hx h2 k
    obtain ⟨l, hf, rfl⟩ := row_get hx
    have hl := hlz l (List.mem_of_getElem? hf)
    refine ⟨_, rfl, rfl, l, 124, splitN 124 l, rfl, rfl, by omega, split_tx l 124, fun p2 hp2 => k _ _ (same_new hp2 _) ?_⟩
    rw [getD_some hf, Rep]
    exact ⟨p2, rowV (splitN 124 l), rfl, by rw [fresh_none hp2, upd_same]; rfl, reps_row _ _⟩
  intro ys H2 h2 ha2 hrep
  have e1 : (List.range (rowV ls).length).map (fun j => Dt.l ((splitN 124 (ls.getD j [])).map .s)) = (rowsOf ls).map fun r => .l (r.map .s) := by
    rw [hlv, range_map ls [] fun l => Dt.l ((splitN 124 l).map .s)]
    unfold rowsOf
    rw [List.map_map]
    rfl
  rw [e1] at hrep
  obtain ⟨p', rs, hv, ht⟩ := tab_of_rep (Rep.same (fresh_sub H H2) hrep)
  cases hv
  have hrz : (rowsOf ls).length ≤ 10000 := by unfold rowsOf; rw [List.length_map]; omega
  have hok : ∀ r ∈ rowsOf ls, r.length ≤ 10000 ∧ ∀ l ∈ r, l.length ≤ 100000 := fun r hr => by
    obtain ⟨l, hl, rfl⟩ := List.mem_map.mp hr
    have h1 := splitN_len 124 l
    have h3 := hlz l hl
    exact ⟨by omega, fun l' hl' => by have := h1.2 l' hl'; omega⟩
  refine ⟨_, rfl, acc, rs, rowsOf ls, rfl, ht, hrz, hok, fun H3 s3 => ⟨_, rfl, ?_⟩⟩
  refine ite2 (fun c => ?_) (fun c => ?_)
  · have c1 : isSheetN (rowsOf ls) = false := by simpa using c
    exact ⟨(by show 1 ≤ sizeLine; rw [sizeLine_eq]; decide), qN c1 H3 (h2.trans s3)⟩
  have hsh : isSheetN (rowsOf ls) = true := by simpa using c
  have q := q hsh
  have ht3 := ht.same s3
  have hrl := Paired.length ht.rows
  have hlm : (rs.map V.ref).length = (rowsOf ls).length := by rw [List.length_map]; exact hrl
  refine ⟨_, rfl, acc, rfl, ⟨_, SqL.of ht3.tab⟩, fun acc2 hacc2 => comp_fresh (fun j => .l (((rowsOf ls).getD j []).map toldD)) hacc2 (SqL.of ht3.tab) (by rw [hlm]; omega) ?_ ?_⟩
  · intro j x H4 Qk hx h4 k
    obtain ⟨aj, r, rfl, hr1, hr2, hr3⟩ := row_at (ht3.same h4).rows hx
    have hr := hok r (List.mem_of_getElem? hr1)
    refine ⟨_, rfl, aj, r, rfl, hr3, hr.1, hr.2, fun v H5 s5 hv => k v H5 s5 ?_⟩
    rw [getD_some hr1]
    exact hv
  · intro ys2 H4 h4 ha4 hrep4
    rw [hlm, range_map (rowsOf ls) [] fun r => Dt.l (r.map toldD)] at hrep4
    have s13 := h2.trans s3
    exact q _ _ (s13.trans h4) (Rep.same (fresh_anti fun b hb => s13.free hb) hrep4)
end
theorem cutN_to (l : List Nat) (p : Nat) : cutN l none (some ((p : Nat) : Int)) = l.take p := by
  unfold cutN
  rw [HT.sIx_nat, HT.sIx_none, List.drop_zero, Nat.sub_zero]
  by_cases h : p ≤ l.length
  · rw [Nat.min_eq_left h]
  · rw [Nat.min_eq_right (by omega), List.take_length, List.take_of_length_le (by omega)]
theorem cutN_from (l : List Nat) (p : Nat) : cutN l (some ((p : Nat) : Int)) none = l.drop p := by
  unfold cutN
  rw [HT.sIx_nat, HT.sIx_none]
  by_cases h : p ≤ l.length
  · rw [Nat.min_eq_left h, List.take_of_length_le (by rw [List.length_drop]; exact Nat.le_refl _)]
  · rw [Nat.min_eq_right (by omega), Nat.sub_self, List.take_zero, List.drop_eq_nil_of_le (by omega)]
theorem cutV_to (xs : List V) (k : Nat) : cutV xs none (some ((k : Nat) : Int)) = xs.take k := by
  unfold cutV
  rw [HT.sIx_nat, HT.sIx_none, List.drop_zero, Nat.sub_zero]
  by_cases h : k ≤ xs.length
  · rw [Nat.min_eq_left h]
  · rw [Nat.min_eq_right (by omega), List.take_length, List.take_of_length_le (by omega)]
/-- the signs that a line is spoilt with -/
structure Sign1 (x : List Nat) : Prop where
  len : x.length = 1
  signs : Signs x
def spSpoilt : Sp := fun vs H Q _ => ∃ (p : Addr) (ls : List (List Nat)) (way : Int) (k : Nat) (spot : Int) (x : List Nat), vs = [.ref p, .int way, .int k, .int spot, .str (tx x)] ∧ H p = some (.lst (rowV ls)) ∧ ls.length ≤ 63 ∧ k < ls.length ∧ (∀ l ∈ ls, Line0 l) ∧ Sign1 x ∧
  ∀ (q : Addr) (ls' : List (List Nat)) (H' : Hp), Same H H' → H' q = some (.lst (rowV ls')) → ls'.length ≤ 63 → (∀ l ∈ ls', Line1 l) → Q (.ref q) H'
theorem signs_lit {x : List Nat} (h : x.all (fun c => decide ((32 ≤ c ∧ c ≤ 125 ∧ c ≠ 37 ∧ c ≠ 124) ∨ c = 124 ∨ c = 126)) = true) : Signs x := fun c hc => by
  have h2 := List.all_eq_true.mp h c hc
  rw [decide_eq_true_eq] at h2
  exact h2
theorem signs_nil : Signs [] := fun c hc => by cases hc
section
variable {P : Program} {w : World} {K : PySem.W.Frag} {mg : Str → Option Value} {base : Heap}
theorem sc_law_spoilt : FnScope ["_law_lines", "_law_way", "_law_row", "_law_spot", "_law_sign", "_law_line", "_law_place", "_law_made"] ["_law_lines", "_law_way", "_law_row", "_law_spot", "_law_sign"] (defScope s_law_spoilt) := ⟨rfl, rfl, rfl, by decide +kernel, rfl, by decide +kernel, by decide +kernel⟩
theorem ok_spoilt {f : Addr} {fd : FuncData} (F : Fun K "_law_spoilt" "_law_spoilt" s_law_spoilt f fd) (G : Gb mg) : FnOk P w K mg base CX0 1 f fd ["_law_lines", "_law_way", "_law_row", "_law_spot", "_law_sign"] spSpoilt := by
  refine F.ok sc_law_spoilt (fun vs H Q E h => ?_) (fun cdv A outer s H vs Q E hr h => ?_)
  · obtain ⟨p, ls, way, k, spot, x, rfl, _⟩ := h
    rfl
  obtain ⟨p, ls, way, k, spot, x, rfl, hp, hz, hk, h0, hx, q⟩ := h
  refine ⟨_, (pss_cons (ps_set (i := 5) sc_law_spoilt.nd rfl (by first | exact Or.inl rfl | exact Or.inr rfl) (pe_ix ix_list (pv 0) (pv 2) (fun _ _ => rfl)))
    (pss_cons (ps_set (i := 6) sc_law_spoilt.nd rfl (by first | exact Or.inl rfl | exact Or.inr rfl) (pe_op op_mod (pv 3) (pe_op op_add (pe_callB call_len_tx rfl G.len bt_len (pa_cons (pv 5) pa_nil)) pe_int)))
    (pss_cons (ps_if (pt_cmpR op_eq (pv 1) pe_int (nomark _)) (pss_one (ps_set (i := 5) sc_law_spoilt.nd rfl (by first | exact Or.inl rfl | exact Or.inr rfl) (pe_op op_add_tx (pe_op op_add_tx (pe_slice sl_str (pv 5) po_none (po_some (pv 6))) (pv 4)) (pe_slice sl_str (pv 5) (po_some (pe_op op_add (pv 6) pe_int)) po_none)))) pss_nil)
    (pss_cons (ps_if (pt_cmpR op_eq (pv 1) pe_int (nomark _)) (pss_one (ps_set (i := 5) sc_law_spoilt.nd rfl (by first | exact Or.inl rfl | exact Or.inr rfl) (pe_op op_add_tx (pe_slice sl_str (pv 5) po_none (po_some (pv 6))) (pe_slice sl_str (pv 5) (po_some (pe_op op_add (pv 6) pe_int)) po_none)))) pss_nil)
    (pss_cons (ps_if (pt_cmpR op_eq (pv 1) pe_int (nomark _)) (pss_one (ps_set (i := 5) sc_law_spoilt.nd rfl (by first | exact Or.inl rfl | exact Or.inr rfl) (pe_op op_add_tx (pe_op op_add_tx (pe_slice sl_str (pv 5) po_none (po_some (pv 6))) (pv 4)) (pe_slice sl_str (pv 5) (po_some (pv 6)) po_none)))) pss_nil)
    (pss_cons (ps_set (i := 7) sc_law_spoilt.nd rfl (by first | exact Or.inl rfl | exact Or.inr rfl) (pe_op op_cat (pe_op op_cat (pe_slice sl_list (pv 0) po_none (po_some (pv 2))) (pe_lst (pa_cons (pv 5) pa_nil))) (pe_slice sl_list (pv 0) (po_some (pe_op op_add (pv 2) pe_int)) po_none)))
    (pss_cons (ps_if (pt_cmpR op_eq (pv 1) pe_int (nomark _)) (pss_one (ps_setComp (k := 7) (caps := []) (sc := defScope s_law_spoilt) (N := ["_law_lines", "_law_way", "_law_row", "_law_spot", "_law_sign", "_law_line", "_law_place", "_law_made"]) rfl (pi_list (pv 0)) rfl rfl (by decide +kernel) (fun _ _ _ _ _ _ => pif_nil) (fun _ _ _ _ _ _ => (pe_op op_add_tx (pv 0) (pe_tx (l := [32]) (by decide +kernel)))) sc_law_spoilt.nd rfl (by first | exact Or.inl rfl | exact Or.inr rfl))) pss_nil)
    (pss_cons (ps_if (pt_cmpR op_eq (pv 1) pe_int (nomark _)) (pss_one (ps_setComp (k := 7) (caps := [("_law_sign", 4), ("_law_place", 6)]) (sc := defScope s_law_spoilt) (N := ["_law_lines", "_law_way", "_law_row", "_law_spot", "_law_sign", "_law_line", "_law_place", "_law_made"]) rfl (pi_list (pv 0)) rfl rfl (by decide +kernel) (fun _ _ _ _ _ _ => pif_nil) (fun _ _ _ _ _ _ => (pe_op op_add_tx (pe_op op_add_tx (pe_slice sl_str (pv 0) po_none (po_some (pv 2))) (pv 1)) (pe_slice sl_str (pv 0) (po_some (pv 2)) po_none))) sc_law_spoilt.nd rfl (by first | exact Or.inl rfl | exact Or.inr rfl))) pss_nil)
    (pss_cons (ps_if (pt_cmpR op_eq (pv 1) pe_int (nomark _)) (pss_one (ps_setComp (k := 7) (caps := [("_law_place", 6)]) (sc := defScope s_law_spoilt) (N := ["_law_lines", "_law_way", "_law_row", "_law_spot", "_law_sign", "_law_line", "_law_place", "_law_made"]) rfl (pi_list (pv 0)) rfl rfl (by decide +kernel) (fun _ _ _ _ _ _ => pif_nil) (fun _ _ _ _ _ _ => (pe_op op_add_tx (pe_slice sl_str (pv 0) po_none (po_some (pv 1))) (pe_slice sl_str (pv 0) (po_some (pe_op op_add (pv 1) pe_int)) po_none))) sc_law_spoilt.nd rfl (by first | exact Or.inl rfl | exact Or.inr rfl))) pss_nil)
    (pss_cons (ps_if (pt_cmpR op_eq (pv 1) pe_int (nomark _)) (pss_one (ps_setComp (k := 7) (caps := [("_law_sign", 4)]) (sc := defScope s_law_spoilt) (N := ["_law_lines", "_law_way", "_law_row", "_law_spot", "_law_sign", "_law_line", "_law_place", "_law_made"]) rfl (pi_list (pv 0)) rfl rfl (by decide +kernel) (fun _ _ _ _ _ _ => pif_nil) (fun _ _ _ _ _ _ => (pe_op op_add_tx (pe_op op_add_tx (pv 0) (pe_tx (l := [124]) (by decide +kernel))) (pv 1))) sc_law_spoilt.nd rfl (by first | exact Or.inl rfl | exact Or.inr rfl))) pss_nil)
    (pss_cons (ps_if (pt_cmpR op_eq (pv 1) pe_int (nomark _)) (pss_one (ps_setComp (k := 7) (caps := []) (sc := defScope s_law_spoilt) (N := ["_law_lines", "_law_way", "_law_row", "_law_spot", "_law_sign", "_law_line", "_law_place", "_law_made"]) rfl (pi_list (pv 0)) rfl rfl (by decide +kernel) (fun _ _ _ _ _ _ => pif_nil) (fun _ _ _ _ _ _ => (pe_op op_add_tx (pv 0) (pe_tx (l := [124, 109, 109, 109, 109, 109, 109, 109, 109, 109, 109, 109, 109]) (by decide +kernel)))) sc_law_spoilt.nd rfl (by first | exact Or.inl rfl | exact Or.inr rfl))) pss_nil)
    (pss_one (ps_ret (pv 7)))))))))))))), ?_⟩
  have hx1 := hx.len
  have hlv : (rowV ls).length = ls.length := List.length_map _
  have hm : ls[k] ∈ ls := List.getElem_mem hk
  have hl0 := h0 _ hm
  have hlen := hl0.len
  have hat : atI (rowV ls) ((k : Nat) : Int) = some (V.str (tx ls[k])) := atI_nat (by unfold rowV; rw [List.getElem?_map, List.getElem?_eq_getElem hk] <;> rfl)
  refine ⟨_, rfl, _, rfl, p, _, _, _, rfl, rfl, SqL.of hp, hat, ?_⟩
  refine ⟨_, rfl, _, rfl, _, rfl, smallN (by omega), _, _, rfl, rfl, _, _, rfl, rfl, (by show (0 : Int) < (ls[k].length : Int) + 1; omega), ?_⟩
  have mp := Int.emod_nonneg spot (show (ls[k].length : Int) + 1 ≠ 0 by omega)
  have mp' := Int.emod_lt_of_pos spot (show (0 : Int) < (ls[k].length : Int) + 1 by omega)
  dsimp only [gName]
  obtain ⟨pc, epc⟩ : ∃ n : Nat, spot % ((ls[k].length : Int) + 1) = (n : Int) := ⟨_, (Int.toNat_of_nonneg mp).symm⟩
  rw [epc]
  rw [epc] at mp'
  generalize ls[k] = l0 at hl0 hlen mp'
  have ed := fun (z : List Nat) (hz : z.length ≤ 13) (sz : Signs z) (b : Nat) => hl0.edit hz sz pc b
  have c1 : ((pc : Nat) : Int) + 1 = ((pc + 1 : Nat) : Int) := by omega
  -- the line
  refine tSeq_mid (fun σ' H' => ∃ l', σ' = [some (.ref p), some (.int way), some (.int (k : Nat)), some (.int spot), some (.str (tx x)), some (.str (tx l')), some (.int (pc : Nat)), none] ∧ H' = H ∧ ((way = 1 ∧ Line1 l') ∨ (way ≠ 1 ∧ l' = l0))) ?_ ?_
  rotate_left
  · intro U hU
    refine ⟨_, rfl, rfl, _, rfl, ?_⟩
    refine ite2 (fun c => ?_) (fun c => ?_)
    · have c' := V.int.inj (of_decide_eq_true c)
      refine ⟨_, rfl, _, rfl, _, rfl, _, rfl, smallN (by omega), _, rfl, _, _, rfl, rfl, ?_, ?_⟩
      · rw [cutN_to, List.length_take]
        exact smallN (by omega)
      rw [cutN_to]
      refine ⟨_, rfl, _, rfl, _, _, rfl, rfl, _, rfl, _, rfl, smallN (by omega), _, _, rfl, rfl, ?_, ?_⟩
      · rw [c1, cutN_from, List.length_append, List.length_take, List.length_drop]
        exact smallN (by omega)
      rw [c1, cutN_from]
      exact hU _ _ ⟨_, rfl, rfl, .inl ⟨c', ed x (by omega) hx.signs _⟩⟩
    · exact hU _ _ ⟨l0, rfl, rfl, .inr ⟨fun z => c (decide_eq_true (congrArg V.int z)), rfl⟩⟩
  rintro σ' H' ⟨l1, rfl, rfl, h1⟩
  refine tSeq_mid (fun σ' H2 => ∃ l', σ' = [some (.ref p), some (.int way), some (.int (k : Nat)), some (.int spot), some (.str (tx x)), some (.str (tx l')), some (.int (pc : Nat)), none] ∧ H2 = H' ∧ (((way = 1 ∨ way = 2) ∧ Line1 l') ∨ ((way ≠ 1 ∧ way ≠ 2) ∧ l' = l0))) ?_ ?_
  rotate_left
  · intro U hU
    refine ⟨_, rfl, rfl, _, rfl, ?_⟩
    refine ite2 (fun c => ?_) (fun c => ?_)
    · have c' := V.int.inj (of_decide_eq_true c)
      obtain ⟨_, rfl⟩ := h1.resolve_left (fun z => by have := z.1; omega)
      refine ⟨_, rfl, _, rfl, _, rfl, _, rfl, smallN (by omega), _, rfl, _, rfl, _, _, rfl, rfl, _, rfl, _, rfl, smallN (by omega), _, _, rfl, rfl, ?_, ?_⟩
      · rw [c1, cutN_to, cutN_from, List.length_take, List.length_drop]
        exact smallN (by omega)
      rw [c1, cutN_to, cutN_from]
      have := ed [] (by decide) signs_nil (pc + 1)
      rw [List.append_nil] at this
      exact hU _ _ ⟨_, rfl, rfl, .inl ⟨.inr c', this⟩⟩
    · have c' : way ≠ 2 := fun z => c (decide_eq_true (congrArg V.int z))
      rcases h1 with ⟨w1, hl1⟩ | ⟨w1, hl1⟩
      · exact hU _ _ ⟨l1, rfl, rfl, .inl ⟨.inl w1, hl1⟩⟩
      · exact hU _ _ ⟨l1, rfl, rfl, .inr ⟨⟨w1, c'⟩, hl1⟩⟩
  rintro σ' H2 ⟨l2, rfl, rfl, h2⟩
  refine tSeq_mid (fun σ' H3 => ∃ l', σ' = [some (.ref p), some (.int way), some (.int (k : Nat)), some (.int spot), some (.str (tx x)), some (.str (tx l')), some (.int (pc : Nat)), none] ∧ H3 = H2 ∧ Line1 l') ?_ ?_
  rotate_left
  · intro U hU
    refine ⟨_, rfl, rfl, _, rfl, ?_⟩
    refine ite2 (fun c => ?_) (fun c => ?_)
    · have c' := V.int.inj (of_decide_eq_true c)
      obtain ⟨_, rfl⟩ := h2.resolve_left (fun z => by have := z.1; omega)
      refine ⟨_, rfl, _, rfl, _, rfl, _, rfl, smallN (by omega), _, rfl, _, _, rfl, rfl, ?_, ?_⟩
      · rw [cutN_to, List.length_take]
        exact smallN (by omega)
      rw [cutN_to]
      refine ⟨_, rfl, _, rfl, _, rfl, _, rfl, smallN (by omega), _, _, rfl, rfl, ?_, ?_⟩
      · rw [cutN_from, List.length_append, List.length_take, List.length_drop]
        exact smallN (by omega)
      rw [cutN_from]
      exact hU _ _ ⟨_, rfl, rfl, ed x (by omega) hx.signs _⟩
    · rcases h2 with ⟨w1, hl1⟩ | ⟨w1, hl1⟩
      · exact hU _ _ ⟨l2, rfl, rfl, hl1⟩
      · exact hU _ _ ⟨l2, rfl, rfl, hl1 ▸ hl0.one⟩
  rintro σ' H3 ⟨l3, rfl, rfl, h3⟩
  -- made
  refine ⟨_, rfl, _, rfl, _, rfl, p, _, rfl, SqL.of hp, fun p1 hp1 => ?_⟩
  have g1 : Same H3 (upd H3 p1 (.lst (cutV (rowV ls) none (some ((k : Nat) : Int))))) := same_new hp1 _
  refine ⟨_, rfl, (by show 1 ≤ sizeLine; rw [sizeLine_eq]; decide), fun p2 hp2 => ?_⟩
  have g2 := g1.new hp2 (.lst [V.str (tx l3)])
  have b1 : (cutV (rowV ls) none (some ((k : Nat) : Int))).length ≤ 63 := by
    rw [cutV_to, List.length_take, hlv]
    omega
  refine ⟨_, _, _, _, rfl, rfl, same_new hp2 _ _ _ upd_same, upd_same, smallN (by show _ + 1 ≤ 100000; omega), fun p3 hp3 => ?_⟩
  have g3 := g2.new hp3 (.lst (cutV (rowV ls) none (some ((k : Nat) : Int)) ++ [V.str (tx l3)]))
  refine ⟨_, rfl, _, rfl, _, _, rfl, rfl, _, rfl, p, _, rfl, SqL.of (g3 _ _ hp), fun p4 hp4 => ?_⟩
  have c2 : ((k : Nat) : Int) + 1 = ((k + 1 : Nat) : Int) := by omega
  have b2 : (cutV (rowV ls) (some (((k : Nat) : Int) + 1)) none).length ≤ 63 := by
    rw [c2, cutV_from, List.length_drop, hlv]
    omega
  refine ⟨_, _, _, _, rfl, rfl, same_new hp4 _ _ _ upd_same, upd_same, smallN (by rw [List.length_append]; show _ + 1 + _ ≤ 100000; omega), fun p5 hp5 => ?_⟩
  have g4 := g3.new hp4 (.lst (cutV (rowV ls) (some (((k : Nat) : Int) + 1)) none))
  have g5 := g4.new hp5 (.lst (cutV (rowV ls) none (some ((k : Nat) : Int)) ++ [V.str (tx l3)] ++ cutV (rowV ls) (some (((k : Nat) : Int) + 1)) none))
  have e5 : cutV (rowV ls) none (some ((k : Nat) : Int)) ++ [V.str (tx l3)] ++ cutV (rowV ls) (some (((k : Nat) : Int) + 1)) none = rowV (ls.take k ++ [l3] ++ ls.drop (k + 1)) := by
    rw [c2, cutV_to, cutV_from]
    unfold rowV
    rw [List.map_append, List.map_append, List.map_take, List.map_drop]
    rfl
  have first : ∃ q ls', (upd (upd (upd (upd (upd H3 p1 (.lst (cutV (rowV ls) none (some ((k : Nat) : Int))))) p2 (.lst [V.str (tx l3)])) p3 (.lst (cutV (rowV ls) none (some ((k : Nat) : Int)) ++ [V.str (tx l3)]))) p4 (.lst (cutV (rowV ls) (some (((k : Nat) : Int) + 1)) none))) p5 (.lst (cutV (rowV ls) none (some ((k : Nat) : Int)) ++ [V.str (tx l3)] ++ cutV (rowV ls) (some (((k : Nat) : Int) + 1)) none))) q = some (.lst (rowV ls')) ∧ q = p5 ∧ ls'.length ≤ 63 ∧ ∀ l ∈ ls', Line1 l := by
    refine ⟨p5, _, by rw [upd_same, e5], rfl, ?_, fun l hl => ?_⟩
    · rw [List.length_append, List.length_append, List.length_take, List.length_drop]
      show _ + 1 + _ ≤ 63
      omega
    · rcases List.mem_append.mp hl with hl | hl
      · rcases List.mem_append.mp hl with hl | hl
        · exact (h0 l (List.mem_of_mem_take hl)).one
        · rw [List.mem_singleton.mp hl]
          exact h3
      · exact (h0 l (List.mem_of_mem_drop hl)).one
  obtain ⟨q0, ls0, hq0, eq0, hz0, hl0s⟩ := first
  subst eq0
  dsimp only [gName]
  generalize upd (upd (upd (upd (upd H3 p1 _) p2 _) p3 _) p4 _) q0 _ = H4 at hq0 g5
  clear e5 b2 b1 g4 g3 g2 g1 hp1 hp2 hp3 hp4 hp5 p1 p2 p3 p4
  let N : St → Hp → Prop := fun σ' H' => ∃ q ls', σ' = [some (.ref p), some (.int way), some (.int (k : Nat)), some (.int spot), some (.str (tx x)), some (.str (tx l3)), some (.int (pc : Nat)), some (.ref q)] ∧ Same H3 H' ∧ H' q = some (.lst (rowV ls')) ∧ ls'.length ≤ 63 ∧ ∀ l ∈ ls', Line1 l
  have n0 : N [some (.ref p), some (.int way), some (.int (k : Nat)), some (.int spot), some (.str (tx x)), some (.str (tx l3)), some (.int (pc : Nat)), some (.ref q0)] H4 := ⟨q0, ls0, rfl, g5, hq0, hz0, hl0s⟩
  -- each way on: a new list of lines, each as e makes it
  have made : ∀ {te : TE} {caps : List (Str × Nat)} {Hc : Hp} {U : St → Hp → Prop} {σ : St} (e : List Nat → List Nat), (∀ l, Line0 l → Line1 (e l)) → Same H3 Hc → (∀ q, σ.set 7 (some (.ref q)) = [some (.ref p), some (.int way), some (.int (k : Nat)), some (.int spot), some (.str (tx x)), some (.str (tx l3)), some (.int (pc : Nat)), some (.ref q)]) →
      (∀ l H2 (Qk : VK), Line0 l → Qk (.str (tx (e l))) H2 → te (some (.str (tx l)) :: caps.map (capV σ)) H2 Qk) → (∀ σ' H', N σ' H' → U σ' H') → ∀ acc, Hc acc = none → compGo acc (Itl K p) caps tAll te σ (fun a _ H => U (σ.set 7 (some (.ref a))) H) Hc := by
    intro te caps Hc U σ e he hs hσ hte hU acc hacc
    have hpc := hs _ _ hp
    refine comp_pure (fun j => V.str (tx (e (ls.getD j [])))) hacc (SqL.of hpc) (by rw [hlv]; omega) ?_ ?_
    · intro j y H5 Qk hy h5 kk
      obtain ⟨l, hl, rfl⟩ := row_get hy
      have kk' := kk H5 (Same.refl _)
      rw [getD_some hl] at kk'
      exact hte l H5 Qk (h0 l (List.mem_of_getElem? hl)) kk'
    · intro H5 h5 ha5
      rw [hlv, range_map ls [] fun l => V.str (tx (e l))] at ha5
      rw [hσ]
      refine hU _ _ ⟨acc, ls.map e, rfl, hs.trans h5, ?_, by rw [List.length_map]; exact hz, fun l hl => ?_⟩
      · rw [ha5]
        unfold rowV
        rw [List.map_map]
        rfl
      · obtain ⟨l', hl', rfl⟩ := List.mem_map.mp hl
        exact he l' (h0 l' hl')
  have bl : ∀ l, Line0 l → l.length ≤ 600 := fun l h => h.len
  -- 4
  refine tSeq_mid N ?_ (fun U hU => ?_)
  rotate_left
  · refine ⟨_, rfl, rfl, _, rfl, ?_⟩
    refine ite2 (fun c => ?_) (fun c => hU _ _ n0)
    refine ⟨_, rfl, p, rfl, ⟨_, SqL.of (g5 _ _ hp)⟩, made (fun l => l ++ [32]) (fun l h => h.more (by decide) (signs_lit (by decide))) g5 (fun q => rfl) (fun l H2 Qk h kk => ?_) hU⟩
    have := bl l h
    exact ⟨_, rfl, _, _, rfl, rfl, smallN (by show l.length + 1 ≤ 100000; omega), kk⟩
  clear n0 hq0 hz0 hl0s g5
  rintro σ' H5 ⟨q5, ls5, rfl, g5, hq5, hz5, hl5⟩
  -- 5
  refine tSeq_mid N ?_ (fun U hU => ?_)
  rotate_left
  · refine ⟨_, rfl, rfl, _, rfl, ?_⟩
    refine ite2 (fun c => ?_) (fun c => hU _ _ ⟨q5, ls5, rfl, g5, hq5, hz5, hl5⟩)
    refine ⟨_, rfl, p, rfl, ⟨_, SqL.of (g5 _ _ hp)⟩, made (fun l => l.take pc ++ x ++ l.drop pc) (fun l h => h.edit (by omega) hx.signs pc pc) g5 (fun q => rfl) (fun l H2 Qk h kk => ?_) hU⟩
    have := bl l h
    refine ⟨_, rfl, _, rfl, _, rfl, _, rfl, smallN (by omega), _, rfl, _, _, rfl, rfl, ?_, ?_⟩
    · rw [cutN_to, List.length_take]
      exact smallN (by omega)
    rw [cutN_to]
    refine ⟨_, rfl, _, rfl, _, rfl, _, rfl, smallN (by omega), _, _, rfl, rfl, ?_, ?_⟩
    · rw [cutN_from, List.length_append, List.length_take, List.length_drop]
      exact smallN (by omega)
    rw [cutN_from]
    exact kk
  clear hq5 hz5 hl5 g5
  rintro σ' H6 ⟨q6, ls6, rfl, g6, hq6, hz6, hl6⟩
  -- 6
  refine tSeq_mid N ?_ (fun U hU => ?_)
  rotate_left
  · refine ⟨_, rfl, rfl, _, rfl, ?_⟩
    refine ite2 (fun c => ?_) (fun c => hU _ _ ⟨q6, ls6, rfl, g6, hq6, hz6, hl6⟩)
    refine ⟨_, rfl, p, rfl, ⟨_, SqL.of (g6 _ _ hp)⟩, made (fun l => l.take pc ++ [] ++ l.drop (pc + 1)) (fun l h => h.edit (by decide) signs_nil pc (pc + 1)) g6 (fun q => rfl) (fun l H2 Qk h kk => ?_) hU⟩
    have := bl l h
    refine ⟨_, rfl, _, rfl, _, rfl, _, rfl, smallN (by omega), _, rfl, _, rfl, _, _, rfl, rfl, _, rfl, _, rfl, smallN (by omega), _, _, rfl, rfl, ?_, ?_⟩
    · rw [c1, cutN_to, cutN_from, List.length_take, List.length_drop]
      exact smallN (by omega)
    rw [c1, cutN_to, cutN_from]
    rw [List.append_nil] at kk
    exact kk
  clear hq6 hz6 hl6 g6
  rintro σ' H7 ⟨q7, ls7, rfl, g7, hq7, hz7, hl7⟩
  -- 7
  refine tSeq_mid N ?_ (fun U hU => ?_)
  rotate_left
  · refine ⟨_, rfl, rfl, _, rfl, ?_⟩
    refine ite2 (fun c => ?_) (fun c => hU _ _ ⟨q7, ls7, rfl, g7, hq7, hz7, hl7⟩)
    refine ⟨_, rfl, p, rfl, ⟨_, SqL.of (g7 _ _ hp)⟩, made (fun l => l ++ ([124] ++ x)) (fun l h => h.more (by rw [List.length_append]; show 1 + _ ≤ 13; omega) (fun c hc => ?_)) g7 (fun q => rfl) (fun l H2 Qk h kk => ?_) hU⟩
    · rcases List.mem_append.mp hc with z | z
      · exact .inr (.inl (List.mem_singleton.mp z))
      · exact hx.signs c z
    have := bl l h
    rw [← List.append_assoc] at kk
    exact ⟨_, rfl, _, _, rfl, rfl, smallN (by show l.length + 1 ≤ 100000; omega), _, rfl, _, _, rfl, rfl, smallN (by rw [List.length_append]; show l.length + 1 + _ ≤ 100000; omega), kk⟩
  clear hq7 hz7 hl7 g7
  rintro σ' H8 ⟨q8, ls8, rfl, g8, hq8, hz8, hl8⟩
  -- 8
  refine tSeq_mid N ?_ (fun U hU => ?_)
  rotate_left
  · refine ⟨_, rfl, rfl, _, rfl, ?_⟩
    refine ite2 (fun c => ?_) (fun c => hU _ _ ⟨q8, ls8, rfl, g8, hq8, hz8, hl8⟩)
    refine ⟨_, rfl, p, rfl, ⟨_, SqL.of (g8 _ _ hp)⟩, made (fun l => l ++ [124, 109, 109, 109, 109, 109, 109, 109, 109, 109, 109, 109, 109]) (fun l h => h.more (by decide) (signs_lit (by decide))) g8 (fun q => rfl) (fun l H2 Qk h kk => ?_) hU⟩
    have := bl l h
    exact ⟨_, rfl, _, _, rfl, rfl, smallN (by show l.length + 13 ≤ 100000; omega), kk⟩
  clear hq8 hz8 hl8 g8
  rintro σ' H9 ⟨q9, ls9, rfl, g9, hq9, hz9, hl9⟩
  exact ⟨_, rfl, q q9 ls9 H9 g9 hq9 hz9 hl9⟩
end
theorem last_at {p : List Nat} (h : p ≠ []) : ∃ c, atI p (-1) = some c ∧ p.getLast? = some c := by
  rcases List.eq_nil_or_concat p with rfl | ⟨r, c, rfl⟩
  · exact absurd rfl h
  · rw [List.concat_eq_append]
    exact ⟨c, atI_last r c, by rw [List.getLast?_append]; rfl⟩
def spPartGood : Sp := fun vs H Q _ => ∃ p : List Nat, vs = [.str (tx p)] ∧ p.length ≤ 100000 ∧ Q (.bl (partN p)) H
def spColGood : Sp := fun vs H Q _ => ∃ (a : Addr) (c : List (List Nat)) (cap : Nat), vs = [.ref a, .int cap] ∧ H a = some (.lst (rowV c)) ∧ c ≠ [] ∧ (∀ p ∈ c, p.length ≤ 100000) ∧ Q (.bl (colGoodN c cap)) H
theorem dec_one {c d : Nat} : decide (V.str ⟨#[c]⟩ = V.str (tx [d])) = decide (c = d) := by
  rw [show (⟨#[c]⟩ : Str) = tx [c] from rfl, dec_tx]
  by_cases h : c = d
  · subst h; simp
  · rw [decide_eq_false h, decide_eq_false]
    intro z
    exact h (by simpa using z)
section
variable {P : Program} {w : World} {K : PySem.W.Frag} {mg : Str → Option Value} {base : Heap}
theorem sc_law_part_good : FnScope ["_law_part"] ["_law_part"] (defScope s_law_part_good) := ⟨rfl, rfl, rfl, by decide +kernel, rfl, by decide +kernel, by decide +kernel⟩
theorem ok_part_good {f : Addr} {fd : FuncData} (F : Fun K "_law_part_good" "_law_part_good" s_law_part_good f fd) (G : Gb mg) : FnOk P w K mg base CX0 1 f fd ["_law_part"] spPartGood := by
  refine F.ok sc_law_part_good (fun vs H Q E h => ?_) (fun cdv A outer s H vs Q E hr h => ?_)
  · obtain ⟨p, rfl, _⟩ := h
    rfl
  obtain ⟨p, rfl, hz, q⟩ := h
  refine ⟨_, (pss_one (ps_ret (pe_and (pe_cmpR op_ne (pv 0) (pe_tx (l := []) (by decide +kernel)) (nomark _)) (pe_and (pe_cmpR op_ne (pv 0) (pe_tx (l := [126]) (by decide +kernel)) (nomark _)) (pe_one (pe_cmpR op_notIn_str (pe_tx (l := [126]) (by decide +kernel)) (pe_slice sl_str (pv 0) po_none (po_some (pe_un un_neg pe_int))) rfl)))))), ?_⟩
  refine ⟨_, rfl, rfl, _, rfl, ?_⟩
  rw [dec_tx]
  refine ite2 (fun c => ?_) (fun c => ?_)
  · refine ⟨_, rfl, rfl, _, rfl, ?_⟩
    rw [dec_tx]
    refine ite2 (fun c2 => ?_) (fun c2 => ?_)
    · refine ⟨_, rfl, _, rfl, _, rfl, _, rfl, smallN hz, _, _, rfl, rfl, ?_⟩
      have e1 : (!(PySem.Builtin.Str.occurrences (tx (cutN p none (some (-1)))) (tx [126]) 0 (tx (cutN p none (some (-1)))).length 1).isEmpty) = decide (126 ∈ p.dropLast) := by
        rw [cut_last, show tx [126] = (⟨#[126]⟩ : Str) from rfl, StrLaws.found_one, tx_codes]
      rw [e1]
      have e : partN p = !decide (126 ∈ p.dropLast) := by
        unfold partN
        rw [c, c2]
        rfl
      rw [e] at q
      exact q
    · have c' : (!decide (p = [126])) = false := Bool.eq_false_iff.mpr c2
      have e : partN p = false := by
        unfold partN
        rw [c', Bool.false_and, Bool.and_false]
      rw [e] at q
      exact q
  · have c' : (!decide (p = [])) = false := Bool.eq_false_iff.mpr c
    have e : partN p = false := by
      unfold partN
      rw [c', Bool.false_and]
    rw [e] at q
    exact q
theorem sc_law_column_good : FnScope ["_law_parts", "_law_cap", "_law_width", "_law_cut", "_law_full", "_law_part"] ["_law_parts", "_law_cap"] (defScope s_law_column_good) := ⟨rfl, rfl, rfl, by decide +kernel, rfl, by decide +kernel, by decide +kernel⟩
theorem ok_column_good {f g : Addr} {fd gd : FuncData} (F : Fun K "_law_column_good" "_law_column_good" s_law_column_good f fd) (G : Gb mg)
    (G_law_part_good : FnOk P w K mg base CX0 1 g gd ["_law_part"] spPartGood) (b_law_part_good : Binds K gd ["_law_part"] []) (k_law_part_good : PySem.W.keepIn K (.ref g) = true) (m_law_part_good : mg "_law_part_good" = some (.ref g)) :
    FnOk P w K mg base CX0 2 f fd ["_law_parts", "_law_cap"] spColGood := by
  refine F.ok sc_law_column_good (fun vs H Q E h => ?_) (fun cdv A outer s H vs Q E hr h => ?_)
  · obtain ⟨a, c, cap, rfl, _⟩ := h
    rfl
  obtain ⟨a, c, cap, rfl, ha, hne, hz, q⟩ := h
  refine ⟨_, (pss_cons (ps_set (i := 2) sc_law_column_good.nd rfl (by first | exact Or.inl rfl | exact Or.inr rfl) (pe_callB call_len_tx rfl G.len bt_len (pa_cons (pe_ix ix_list (pv 0) pe_int (fun _ _ => rfl)) pa_nil)))
    (pss_cons (ps_set (i := 3) sc_law_column_good.nd rfl (by first | exact Or.inl rfl | exact Or.inr rfl) pe_bl)
    (pss_cons (ps_set (i := 4) sc_law_column_good.nd rfl (by first | exact Or.inl rfl | exact Or.inr rfl) (pe_cmpR op_eq (pv 2) pe_int (nomark _)))
    (pss_cons (ps_for PassesOwn.never rfl (pi_list (pv 0)) (pg_name (i := 5) sc_law_column_good.nd rfl (by first | exact Or.inl rfl | exact Or.inr rfl)) (pss_cons (ps_if (PW.pt (pw_or (pt_cmpR op_ne (pe_callB call_len_tx rfl G.len bt_len (pa_cons (pv 5) pa_nil)) (pv 2) (nomark _)) (pw_or1 (pt_not (pt_val (pe_call G_law_part_good hr rfl m_law_part_good k_law_part_good b_law_part_good .nil pass0 (pa_cons (pv 5) pa_nil))))))) (pss_one (ps_ret pe_bl)) pss_nil)
    (pss_cons (ps_set (i := 3) sc_law_column_good.nd rfl (by first | exact Or.inl rfl | exact Or.inr rfl) (pe_or (pv 3) (pe_one (pe_cmpR op_eq (pe_ix ix_str (pv 5) (pe_un un_neg pe_int) (fun _ _ => rfl)) (pe_tx (l := [126]) (by decide +kernel)) (nomark _)))))
    (pss_one (ps_set (i := 4) sc_law_column_good.nd rfl (by first | exact Or.inl rfl | exact Or.inr rfl) (pe_or (pv 4) (pe_one (pe_cmpR op_ne (pe_ix ix_str (pv 5) (pe_un un_neg pe_int) (fun _ _ => rfl)) (pe_tx (l := [32]) (by decide +kernel)) (nomark _)))))))))
    (pss_one (ps_ret (pe_and (pv 4) (pe_and (pe_cmpR op_le (pv 2) (pv 1) (nomark _)) (pe_one (pe_or (pe_not (pv 3)) (pe_one (pe_cmpR op_eq (pv 2) (pv 1) (nomark _))))))))))))), ?_⟩
  obtain ⟨c0, cr, rfl⟩ : ∃ c0 cr, c = c0 :: cr := by
    cases c with
    | nil => exact absurd rfl hne
    | cons x y => exact ⟨x, y, rfl⟩
  have hc0 := hz c0 List.mem_cons_self
  refine ⟨_, rfl, a, _, _, _, rfl, rfl, SqL.of ha, atI_nat (j := 0) (v := V.str (tx c0)) rfl, _, rfl, smallN hc0, ?_⟩
  generalize hcc : c0 :: cr = c at *
  have hw : widthN c = c0.length := by rw [← hcc]; rfl
  rw [← hw]
  refine ⟨_, rfl, rfl, ?_⟩
  have e1 : decide (V.int ((widthN c : Nat) : Int) = V.int 1) = decide (widthN c = 1) := by
    rw [dec_num]
    exact decide_eq_decide.mpr (by omega)
  rw [e1]
  refine ⟨_, rfl, a, rfl, ⟨_, SqL.of ha⟩, for_list (K := K) (a := a) (xs := rowV c) (fun i σ H' => ∃ pv, σ = [some (.ref a), some (.int cap), some (.int (widthN c : Nat)), some (.bl ((c.take i).any isCutN)), some (.bl (decide (widthN c = 1) || (c.take i).any fun p => !(p.getLast? == some 32))), pv] ∧ H' = H ∧ ((c.take i).all fun p => decide (p.length = widthN c) && partN p) = true) ?_ (fun i σ H' _ ⟨_, _, e, _⟩ => by rw [e]; exact SqL.of ha) ?_ ?_⟩
  · exact ⟨none, by rw [List.take_zero, List.any_nil, List.any_nil, Bool.or_false] <;> rfl, rfl, rfl⟩
  · rintro i x σ H' hx ⟨pv, rfl, rfl, hall⟩
    obtain ⟨p, hp, rfl⟩ := row_get hx
    have hpm := List.mem_of_getElem? hp
    have hpl := hz p hpm
    obtain ⟨hi, ep⟩ := List.getElem?_eq_some_iff.mp hp
    have et : c.take (i + 1) = c.take i ++ [p] := by rw [List.take_succ_eq_append_getElem hi, ep]
    have dl : decide (V.int ((p.length : Nat) : Int) = V.int ((widthN c : Nat) : Int)) = decide (p.length = widthN c) := by
      rw [dec_num]
      exact decide_eq_decide.mpr Int.ofNat_inj
    have bad : (decide (p.length = widthN c) && partN p) = false → colGoodN c cap = false := fun h => by
      unfold colGoodN
      rw [show (c.all fun p => decide (p.length = widthN c) && partN p) = false from List.all_eq_false.mpr ⟨p, hpm, by rw [h]; exact Bool.false_ne_true⟩, Bool.false_and]
    refine ⟨_, rfl, _, rfl, smallN hpl, _, rfl, rfl, _, rfl, ?_⟩
    rw [dl]
    refine ite2 (fun c1 => ?_) (fun c1 => ?_)
    · have c1' : decide (p.length = widthN c) = false := by simpa using c1
      have := bad (by rw [c1', Bool.false_and])
      rw [this] at q
      exact iteT q
    have c1' : decide (p.length = widthN c) = true := by simpa using c1
    refine ⟨_, rfl, p, rfl, hpl, _, rfl, ?_⟩
    refine ite2 (fun c2 => ?_) (fun c2 => ?_)
    · have c2' : partN p = false := by simpa using c2
      have := bad (by rw [c2', Bool.and_false])
      rw [this] at q
      exact q
    have c2' : partN p = true := by simpa using c2
    have pne : p ≠ [] := fun z => by
      rw [z] at c2'
      exact absurd c2' (by decide)
    obtain ⟨lc, hat, hlast⟩ := last_at pne
    have hcut : isCutN p = decide (lc = 126) := by
      unfold isCutN
      rw [hlast]
      by_cases h : lc = 126
      · subst h; rfl
      · rw [decide_eq_false h]
        simpa using h
    have hbl : (p.getLast? == some 32) = decide (lc = 32) := by
      rw [hlast]
      by_cases h : lc = 32
      · subst h; rfl
      · rw [decide_eq_false h]
        simpa using h
    have aI : atI (tx p).cps.toList (-1) = some lc := by rw [tx_codes]; exact hat
    -- cut
    unfold tNext
    dsimp only
    refine tSeq_mid (fun σ' H2 => σ' = [some (.ref a), some (.int cap), some (.int (widthN c : Nat)), some (.bl ((c.take (i + 1)).any isCutN)), some (.bl (decide (widthN c = 1) || (c.take i).any fun p => !(p.getLast? == some 32))), some (.str (tx p))] ∧ H2 = H') ?_ ?_
    rotate_left
    · intro U hU
      refine ⟨_, rfl, _, rfl, ?_⟩
      refine ite2 (fun c3 => ?_) (fun c3 => ?_)
      · refine hU _ _ ⟨?_, rfl⟩
        rw [et, List.any_append, c3, Bool.true_or]
        rfl
      · refine ⟨_, rfl, _, rfl, _, _, _, rfl, rfl, by rw [tx_len]; exact smallN hpl, aI, rfl, ?_⟩
        refine hU _ _ ⟨?_, rfl⟩
        have c3' : (c.take i).any isCutN = false := Bool.eq_false_iff.mpr c3
        rw [et, List.any_append, c3', Bool.false_or, dec_one]
        show _ = [_, _, _, some (V.bl ([p].any isCutN)), _, _]
        rw [show [p].any isCutN = decide (lc = 126) by rw [← hcut]; simp]
        rfl
    rintro σ' H2 ⟨rfl, rfl⟩
    -- full
    refine ⟨_, rfl, _, rfl, ?_⟩
    have fin : ∀ b, b = (decide (widthN c = 1) || (c.take (i + 1)).any fun p => !(p.getLast? == some 32)) → ∃ pv, [some (V.ref a), some (.int cap), some (.int (widthN c : Nat)), some (.bl ((c.take (i + 1)).any isCutN)), some (.bl b), some (.str (tx p))] = [some (.ref a), some (.int cap), some (.int (widthN c : Nat)), some (.bl ((c.take (i + 1)).any isCutN)), some (.bl (decide (widthN c = 1) || (c.take (i + 1)).any fun p => !(p.getLast? == some 32))), pv] ∧ H2 = H2 ∧ ((c.take (i + 1)).all fun p => decide (p.length = widthN c) && partN p) = true := fun b hb => by
      refine ⟨_, by rw [hb], rfl, ?_⟩
      rw [et, List.all_append, hall]
      simp [of_decide_eq_true c1', c2']
    refine ite2 (fun c3 => ?_) (fun c3 => ?_)
    · refine fin _ ?_
      rw [et, List.any_append, ← Bool.or_assoc, c3, Bool.true_or]
    · refine ⟨_, rfl, _, rfl, _, _, _, rfl, rfl, by rw [tx_len]; exact smallN hpl, aI, rfl, ?_⟩
      refine fin _ ?_
      have c3' : (decide (widthN c = 1) || (c.take i).any fun p => !(p.getLast? == some 32)) = false := Bool.eq_false_iff.mpr c3
      rw [et, List.any_append, ← Bool.or_assoc, c3', Bool.false_or, dec_one]
      show _ = [p].any fun p => !(p.getLast? == some 32)
      rw [show ([p].any fun p => !(p.getLast? == some 32)) = !decide (lc = 32) by rw [← hbl]; simp]
  · rintro σ H' ⟨pv, rfl, rfl, hall⟩
    have e5 : (rowV c).length = c.length := List.length_map _
    rw [e5, List.take_length] at hall ⊢
    have eq1 : colGoodN c cap = (fullN c && (decide (widthN c ≤ cap) && (!hasCutN c || decide (widthN c = cap)))) := by
      unfold colGoodN
      rw [hall, Bool.true_and]
    have ef : (decide (widthN c = 1) || c.any fun p => !(p.getLast? == some 32)) = fullN c := rfl
    have eh : c.any isCutN = hasCutN c := rfl
    rw [ef, eh]
    rw [eq1] at q
    have dle : decide (((widthN c : Nat) : Int) ≤ ((cap : Nat) : Int)) = decide (widthN c ≤ cap) := decide_eq_decide.mpr (by omega)
    have deq : decide (V.int ((widthN c : Nat) : Int) = V.int ((cap : Nat) : Int)) = decide (widthN c = cap) := by
      rw [dec_num]
      exact decide_eq_decide.mpr Int.ofNat_inj
    refine ⟨_, rfl, _, rfl, ?_⟩
    refine ite2 (fun c1 => ?_) (fun c1 => ?_)
    · rw [c1, Bool.true_and] at q
      refine ⟨_, rfl, _, rfl, _, _, rfl, rfl, _, rfl, ?_⟩
      rw [dle]
      refine ite2 (fun c2 => ?_) (fun c2 => ?_)
      · rw [c2, Bool.true_and] at q
        refine ⟨_, rfl, _, rfl, _, rfl, ?_⟩
        refine ite2 (fun c3 => ?_) (fun c3 => ?_)
        · rw [c3, Bool.true_or] at q
          exact q
        · have c3' : (!hasCutN c) = false := Bool.eq_false_iff.mpr c3
          rw [c3', Bool.false_or] at q
          refine ⟨_, rfl, _, rfl, rfl, ?_⟩
          rw [deq]
          exact q
      · have c2' : decide (widthN c ≤ cap) = false := Bool.eq_false_iff.mpr c2
        rw [c2', Bool.false_and] at q
        exact q
    · have c1' : fullN c = false := Bool.eq_false_iff.mpr c1
      rw [c1', Bool.false_and] at q
      exact q
end
def spGood : Sp := fun vs H Q _ => ∃ (p : Addr) (ls : List (List Nat)), vs = [.ref p] ∧ H p = some (.lst (rowV ls)) ∧ ls.length ≤ 63 ∧ (∀ l ∈ ls, l.length ≤ 9000) ∧ ∀ H', Same H H' → Q (.bl (goodN (rowsOf ls))) H'
theorem capG0_take {rows : List (List (List Nat))} {i : Nat} {r : List (List Nat)} (h : rows[i]? = some r) : capG0 (rows.take (i + 1)) = ((r.filter isCutN).map List.length).foldl max (capG0 (rows.take i)) := by
  obtain ⟨hi, e⟩ := List.getElem?_eq_some_iff.mp h
  unfold capG0
  rw [List.take_succ_eq_append_getElem hi, e, List.flatten_append, List.filter_append, List.map_append, List.foldl_append]
  simp
theorem last_one (p : List Nat) : cutN p (some (-1)) none = match p.getLast? with | none => [] | some c => [c] := by
  rcases List.eq_nil_or_concat p with rfl | ⟨r, c, rfl⟩
  · rfl
  · rw [List.concat_eq_append, List.getLast?_append]
    unfold cutN
    have e : HT.sIx (r ++ [c]).length 0 (some (-1)) = r.length := by
      show (if (-1 : Int) < 0 then (-1 + ((r ++ [c]).length : Int)).toNat else min (-1 : Int).toNat (r ++ [c]).length) = r.length
      rw [if_pos (by decide), List.length_append]
      show (-1 + ((r.length + 1 : Nat) : Int)).toNat = r.length
      omega
    rw [e, HT.sIx_none, List.drop_left, List.length_append]
    show List.take (r.length + 1 - r.length) [c] = [c]
    rw [Nat.add_sub_cancel_left]
    rfl
theorem last_is (p : List Nat) : decide (cutN p (some (-1)) none = [126]) = isCutN p := by
  rw [last_one]
  unfold isCutN
  cases p.getLast? with
  | none => rfl
  | some c =>
    by_cases h : c = 126
    · subst h; rfl
    · simp [h]
section
variable {P : Program} {w : World} {K : PySem.W.Frag} {mg : Str → Option Value} {base : Heap}
theorem sc_law_good : FnScope ["_law_lines", "_law_rows", "_law_cap", "_law_row", "_law_part", "_law_k"] ["_law_lines"] (defScope s_law_good) := ⟨rfl, rfl, rfl, by decide +kernel, rfl, by decide +kernel, by decide +kernel⟩
theorem ok_good {f g : Addr} {fd gd : FuncData} (F : Fun K "_law_good" "_law_good" s_law_good f fd) (G : Gb mg)
    (G_law_column_good : FnOk P w K mg base CX0 2 g gd ["_law_parts", "_law_cap"] spColGood) (b_law_column_good : Binds K gd ["_law_parts", "_law_cap"] []) (k_law_column_good : PySem.W.keepIn K (.ref g) = true) (m_law_column_good : mg "_law_column_good" = some (.ref g)) :
    FnOk P w K mg base CX0 3 f fd ["_law_lines"] spGood := by
  refine F.ok sc_law_good (fun vs H Q E h => ?_) (fun cdv A outer s H vs Q E hr h => ?_)
  · obtain ⟨p, ls, rfl, _⟩ := h
    rfl
  obtain ⟨p, ls, rfl, hp, hz, hlz, q⟩ := h
  refine ⟨_, (pss_cons (ps_setComp (k := 1) (caps := []) (sc := defScope s_law_good) (N := ["_law_lines", "_law_rows", "_law_cap", "_law_row", "_law_part", "_law_k"]) rfl (pi_list (pv 0)) rfl rfl (by decide +kernel) (fun _ _ _ _ _ _ => pif_nil) (fun _ _ _ _ _ _ => (pe_bmK (K := K) rfl PySem.F.plainAttrs_str PySem.F.slot_str_split PySem.F.type_str_split mt_split (pv 0) (pa_cons (pe_tx (l := [124]) (by decide +kernel)) pa_nil))) sc_law_good.nd rfl (by first | exact Or.inl rfl | exact Or.inr rfl))
    (pss_cons (ps_set (i := 2) sc_law_good.nd rfl (by first | exact Or.inl rfl | exact Or.inr rfl) pe_int)
    (pss_cons (ps_for PassesOwn.never rfl (pi_list (pv 1)) (pg_name (i := 3) sc_law_good.nd rfl (by first | exact Or.inl rfl | exact Or.inr rfl)) (pss_cons (ps_if (pt_cmpR op_ne (pe_callB call_len_seq rfl G.len bt_len (pa_cons (pv 3) pa_nil)) (pe_callB call_len_seq rfl G.len bt_len (pa_cons (pe_ix ix_list (pv 1) pe_int (fun _ _ => rfl)) pa_nil)) (nomark _)) (pss_one (ps_ret pe_bl)) pss_nil)
    (pss_one (ps_for PassesOwn.never rfl (pi_list (pv 3)) (pg_name (i := 4) sc_law_good.nd rfl (by first | exact Or.inl rfl | exact Or.inr rfl)) (pss_one (ps_if (pt_cmpR op_eq (pe_slice sl_str (pv 4) (po_some (pe_un un_neg pe_int)) po_none) (pe_tx (l := [126]) (by decide +kernel)) (nomark _)) (pss_one (ps_set (i := 2) sc_law_good.nd rfl (by first | exact Or.inl rfl | exact Or.inr rfl) (pe_callB (call_max2 rfl) rfl G.max bt_max (pa_cons (pv 2) (pa_cons (pe_callB call_len_tx rfl G.len bt_len (pa_cons (pv 4) pa_nil)) pa_nil))))) pss_nil))))))
    (pss_cons (ps_if (pt_cmpR op_eq (pv 2) pe_int (nomark _)) (pss_one (ps_set (i := 2) sc_law_good.nd rfl (by first | exact Or.inl rfl | exact Or.inr rfl) pe_int)) pss_nil)
    (pss_cons (ps_if (pt_cmpR (op_eq_nil hr.units0) (pv 1) (pe_lst pa_nil) (nomark _)) (pss_one (ps_ret pe_bl)) pss_nil)
    (pss_cons (ps_for PassesOwn.never rfl (pi_range1 rfl G.range (pa_cons (pe_callB call_len_seq rfl G.len bt_len (pa_cons (pe_ix ix_list (pv 1) pe_int (fun _ _ => rfl)) pa_nil)) pa_nil)) (pg_name (i := 5) sc_law_good.nd rfl (by first | exact Or.inl rfl | exact Or.inr rfl)) (pss_one (ps_if (pt_not (pt_val (pe_call G_law_column_good hr rfl m_law_column_good k_law_column_good b_law_column_good .nil pass0 (pa_cons (pe_comp (caps := [("_law_k", 5)]) (sc := defScope s_law_good) (N := ["_law_lines", "_law_rows", "_law_cap", "_law_row", "_law_part", "_law_k"]) rfl (pi_list (pv 1)) rfl rfl (by decide +kernel) (fun _ _ _ _ _ _ => pif_nil) (fun _ _ _ _ _ _ => (pe_ix (ix_listK (K := K) rfl) (pv 0) (pv 1) (fun _ _ => rfl)))) (pa_cons (pv 2) pa_nil))))) (pss_one (ps_ret pe_bl)) pss_nil)))
    (pss_one (ps_ret pe_bl)))))))), ?_⟩
  have zero : 0 ≤ sizeLine := Nat.zero_le _
  have hlv : (rowV ls).length = ls.length := List.length_map _
  refine ⟨_, rfl, p, rfl, ⟨_, SqL.of hp⟩, fun acc hacc => comp_fresh (fun j => .l ((splitN 124 (ls.getD j [])).map .s)) hacc (SqL.of hp) (by rw [hlv]; omega) ?_ ?_⟩
  · intro j x H2 Qk hx h2 k
    obtain ⟨l, hf, rfl⟩ := row_get hx
    have hl := hlz l (List.mem_of_getElem? hf)
    refine ⟨_, rfl, rfl, l, 124, splitN 124 l, rfl, rfl, by omega, split_tx l 124, fun p2 hp2 => k _ _ (same_new hp2 _) ?_⟩
    rw [getD_some hf, Rep]
    exact ⟨p2, rowV (splitN 124 l), rfl, by rw [fresh_none hp2, upd_same]; rfl, reps_row _ _⟩
  intro ys H2 h2 ha2 hrep
  have e1 : (List.range (rowV ls).length).map (fun j => Dt.l ((splitN 124 (ls.getD j [])).map .s)) = (rowsOf ls).map fun r => .l (r.map .s) := by
    rw [hlv, range_map ls [] fun l => Dt.l ((splitN 124 l).map .s)]
    unfold rowsOf
    rw [List.map_map]
    rfl
  rw [e1] at hrep
  obtain ⟨p', rs, hv, ht⟩ := tab_of_rep (Rep.same (fresh_sub H H2) hrep)
  cases hv
  have hrz : (rowsOf ls).length ≤ 63 := by unfold rowsOf; rw [List.length_map]; exact hz
  have hok : ∀ r ∈ rowsOf ls, r.length ≤ 9001 ∧ ∀ l ∈ r, l.length ≤ 9000 := fun r hr => by
    obtain ⟨l, hl, rfl⟩ := List.mem_map.mp hr
    have h1 := splitN_len 124 l
    have h3 := hlz l hl
    exact ⟨by omega, fun l' hl' => by have := h1.2 l' hl'; omega⟩
  generalize hR : rowsOf ls = R at *
  have hrl := Paired.length ht.rows
  have hlm : (rs.map V.ref).length = R.length := by rw [List.length_map]; exact hrl
  -- the rows' lengths and the cap
  refine ⟨_, rfl, acc, rfl, ⟨_, SqL.of ht.tab⟩, for_list (K := K) (a := acc) (xs := rs.map V.ref) (fun i σ H' => ∃ v1 v2, σ = [some (.ref p), some (.ref acc), some (.int (capG0 (R.take i) : Nat)), v1, v2, none] ∧ H' = H2 ∧ ((R.take i).all fun r => decide (r.length = (R.headD []).length)) = true) ⟨none, none, rfl, rfl, rfl⟩ (fun i σ H' _ ⟨_, _, _, e, _⟩ => by rw [e]; exact SqL.of ht.tab) ?_ ?_⟩
  · rintro i x σ H' hx ⟨v1, v2, rfl, rfl, hall⟩
    obtain ⟨ai, r, rfl, hr1, hr2, hr3⟩ := row_at ht.rows hx
    have hrm : r ∈ R := List.mem_of_getElem? hr1
    obtain ⟨hi, er⟩ := List.getElem?_eq_some_iff.mp hr1
    have hr0 : 0 < rs.length := by omega
    obtain ⟨r0, hz1, hz2⟩ := Paired.getL ht.rows (List.getElem?_eq_getElem hr0)
    have hat : atI (rs.map V.ref) 0 = some (V.ref rs[0]) := atI_nat (j := 0) (by rw [List.getElem?_map, List.getElem?_eq_getElem hr0] <;> rfl)
    have e0 : R.headD [] = r0 := by
      cases R with
      | nil => cases hz1
      | cons a b => cases hz1; rfl
    have l1 : (rowV r).length = r.length := List.length_map _
    have l2 : (rowV r0).length = r0.length := List.length_map _
    refine ⟨_, rfl, _, _, rfl, .inl (SqL.of hr3), _, rfl, acc, _, _, _, rfl, rfl, SqL.of ht.tab, hat, _, _, rfl, .inl (SqL.of hz2), rfl, _, rfl, ?_⟩
    rw [l1, l2, dec_num, show decide (((r.length : Nat) : Int) = ((r0.length : Nat) : Int)) = decide (r.length = r0.length) from decide_eq_decide.mpr Int.ofNat_inj]
    refine ite2 (fun c => ?_) (fun c => ?_)
    · have c' : decide (r.length = r0.length) = false := by simpa using c
      have q' := q H' h2
      rw [show goodN R = false by
        unfold goodN
        rw [show (R.all fun r => decide (r.length = (R.headD []).length)) = false from List.all_eq_false.mpr ⟨r, hrm, by rw [e0, c']; exact Bool.false_ne_true⟩, Bool.false_and]] at q'
      exact q'
    have c' : decide (r.length = r0.length) = true := by simpa using c
    unfold tNext
    dsimp only
    refine ⟨_, rfl, ai, rfl, ⟨_, SqL.of hr3⟩, for_list (K := K) (a := ai) (xs := rowV r) (fun j σ H2' => ∃ v2, σ = [some (.ref p), some (.ref acc), some (.int ((((r.take j).filter isCutN).map List.length).foldl max (capG0 (R.take i)) : Nat)), some (.ref ai), v2, none] ∧ H2' = H') ⟨v2, rfl, rfl⟩ (fun j σ H2' _ ⟨_, _, e⟩ => by rw [e]; exact SqL.of hr3) ?_ ?_⟩
    · rintro j y σ H3 hy ⟨v3, rfl, rfl⟩
      obtain ⟨pt, hf, rfl⟩ := row_get hy
      have hpl := (hok r hrm).2 pt (List.mem_of_getElem? hf)
      obtain ⟨hj, ep⟩ := List.getElem?_eq_some_iff.mp hf
      have et : ((r.take (j + 1)).filter isCutN).map List.length = ((r.take j).filter isCutN).map List.length ++ (([pt].filter isCutN).map List.length) := by
        rw [List.take_succ_eq_append_getElem hj, ep, List.filter_append, List.map_append]
      refine ⟨_, rfl, _, rfl, _, rfl, _, rfl, smallN (by omega), rfl, _, rfl, ?_⟩
      rw [dec_tx, last_is]
      refine ite2 (fun c2 => ?_) (fun c2 => ?_)
      · refine ⟨_, rfl, _, rfl, _, rfl, smallN (by omega), _, _, rfl, ?_⟩
        refine ⟨some (.str (tx pt)), ?_, rfl⟩
        rw [et, List.foldl_append, List.filter_cons_of_pos c2]
        have em : ∀ M : Nat, (if ((pt.length : Nat) : Int) > ((M : Nat) : Int) then ((pt.length : Nat) : Int) else ((M : Nat) : Int)) = ((max M pt.length : Nat) : Int) := fun M => by
          split <;> omega
        show _ = [_, _, some (V.int ((max ((((r.take j).filter isCutN).map List.length).foldl max (capG0 (R.take i))) pt.length : Nat) : Int)), _, _, _]
        rw [← em]
        rfl
      · refine ⟨some (.str (tx pt)), ?_, rfl⟩
        rw [et, List.foldl_append, List.filter_cons_of_neg c2]
        rfl
    · rintro σ H3 ⟨v3, rfl, rfl⟩
      refine ⟨some (.ref ai), v3, ?_, rfl, ?_⟩
      · rw [capG0_take hr1, l1, List.take_length]
      · rw [List.take_succ_eq_append_getElem hi, List.all_append, hall, er, e0]
        simp [of_decide_eq_true c']
  rintro σ H' ⟨v1, v2, rfl, rfl, hall⟩
  rw [hlm, List.take_length] at hall ⊢
  -- the cap
  dsimp only
  refine tSeq_mid (fun σ' H3 => σ' = [some (.ref p), some (.ref acc), some (.int (capG R : Nat)), v1, v2, none] ∧ H3 = H') ?_ ?_
  rotate_left
  · intro U hU
    refine ⟨_, rfl, rfl, _, rfl, ?_⟩
    rw [dec_num]
    refine ite2 (fun c => ?_) (fun c => ?_)
    · have c' : capG0 R = 0 := by
        have := of_decide_eq_true c
        omega
      refine hU _ _ ⟨?_, rfl⟩
      rw [show capG R = 200 from if_pos c']
      rfl
    · have c' : ¬ capG0 R = 0 := fun z => c (decide_eq_true (by omega))
      refine hU _ _ ⟨?_, rfl⟩
      rw [show capG R = capG0 R from if_neg c']
  rintro σ' H3 ⟨rfl, rfl⟩
  -- no rows
  refine ⟨_, rfl, zero, fun p9 hp9 => ⟨_, _, _, rfl, rfl, SqL.of ((same_new hp9 _) _ _ ht.tab), SqL.of upd_same, _, rfl, ?_⟩⟩
  have g9 : Same H3 (upd H3 p9 (.lst [])) := same_new hp9 _
  have ht9 := ht.same g9
  generalize upd H3 p9 (.lst []) = H9 at g9 ht9
  have hg9 := h2.trans g9
  refine ite2 (fun c => ?_) (fun c => ?_)
  · have er : rs = [] := by simpa using c
    have e2 : R = [] := List.length_eq_zero_iff.mp (by rw [← hrl, er] <;> rfl)
    have q' := q H9 hg9
    rw [show goodN R = true by rw [e2]; rfl] at q'
    exact q'
  have hne : R ≠ [] := fun z => c (by
    have : rs = [] := List.length_eq_zero_iff.mp (by rw [hrl, z] <;> rfl)
    rw [this]
    rfl)
  have hR0 : 0 < R.length := List.length_pos_iff.mpr hne
  have hr0 : 0 < rs.length := by omega
  obtain ⟨r0, hz1, hz2⟩ := Paired.getL ht9.rows (List.getElem?_eq_getElem hr0)
  have hat : atI (rs.map V.ref) 0 = some (V.ref rs[0]) := atI_nat (j := 0) (by rw [List.getElem?_map, List.getElem?_eq_getElem hr0] <;> rfl)
  have e0 : R.headD [] = r0 := by
    cases R with
    | nil => cases hz1
    | cons a b => cases hz1; rfl
  have l2 : (rowV r0).length = r0.length := List.length_map _
  have hr0m := hok r0 (List.mem_of_getElem? hz1)
  have hlens : ∀ r ∈ R, r.length = r0.length := fun r hr => by
    have := of_decide_eq_true (List.all_eq_true.mp hall r hr)
    rw [e0] at this
    exact this
  have egood : goodN R = (List.range r0.length).all fun k => colGoodN (R.map fun r => r.getD k []) (capG R) := by
    unfold goodN
    rw [hall, e0, decide_eq_false hne, Bool.true_and, Bool.false_or]
  rw [egood] at q
  refine ⟨_, rfl, acc, _, _, _, rfl, rfl, SqL.of ht9.tab, hat, _, _, rfl, .inl (SqL.of hz2), _, rfl, by rw [l2]; omega, by rw [l2]; omega, ?_⟩
  rw [l2]
  refine for_range (lo := 0) (n := ((r0.length : Nat) : Int).toNat) (fun i σ H' => ∃ kv, σ = [some (.ref p), some (.ref acc), some (.int (capG R : Nat)), v1, v2, kv] ∧ Same H9 H' ∧ ((List.range i).all fun k => colGoodN (R.map fun r => r.getD k []) (capG R)) = true) ⟨none, rfl, Same.refl _, rfl⟩ ?_ ?_
  · rintro i σ H5 hi ⟨kv, rfl, gs, hal⟩
    have hi' : i < r0.length := by omega
    have ez : ((0 : Int) + (i : Int)) = ((i : Nat) : Int) := Int.zero_add _
    rw [ez]
    have hts := ht9.same gs
    refine ⟨_, rfl, acc, rfl, ⟨_, SqL.of hts.tab⟩, fun ac2 hac2 => comp_pure (fun j => V.str (tx ((R.getD j []).getD i []))) hac2 (SqL.of hts.tab) (by rw [hlm]; omega) ?_ ?_⟩
    · intro j x H6 Qk hx h6 k
      obtain ⟨aj, r, rfl, hr1, hr2, hr3⟩ := row_at (hts.same h6).rows hx
      have hir : i < r.length := by rw [hlens r (List.mem_of_getElem? hr1)]; exact hi'
      refine ⟨_, rfl, _, rfl, aj, _, _, _, rfl, rfl, SqL.of hr3, atI_nat (j := i) (v := V.str (tx r[i])) (by unfold rowV; rw [List.getElem?_map, List.getElem?_eq_getElem hir] <;> rfl), ?_⟩
      have k' := k H6 (Same.refl _)
      rw [getD_some hr1, getD_some (List.getElem?_eq_getElem hir)] at k'
      exact k'
    intro H6 h6 ha6
    have ecol : (List.range (rs.map V.ref).length).map (fun j => V.str (tx ((R.getD j []).getD i []))) = rowV (R.map fun r => r.getD i []) := by
      rw [hlm, range_map R [] fun r => V.str (tx (r.getD i []))]
      unfold rowV
      rw [List.map_map]
      rfl
    rw [ecol] at ha6
    refine ⟨_, rfl, ac2, _, capG R, rfl, ha6, fun z => hne (List.map_eq_nil_iff.mp z), fun p hpm => ?_, _, rfl, ?_⟩
    · obtain ⟨r, hr, rfl⟩ := List.mem_map.mp hpm
      have := Cb.getD_le (hok r hr).2 i
      omega
    refine ite2 (fun c2 => ?_) (fun c2 => ?_)
    · have c2' : colGoodN (R.map fun r => r.getD i []) (capG R) = false := by simpa using c2
      have q' := q H6 ((hg9.trans gs).trans h6)
      rw [show ((List.range r0.length).all fun k => colGoodN (R.map fun r => r.getD k []) (capG R)) = false from List.all_eq_false.mpr ⟨i, List.mem_range.mpr hi', by rw [c2']; exact Bool.false_ne_true⟩] at q'
      exact q'
    · have c2' : colGoodN (R.map fun r => r.getD i []) (capG R) = true := by simpa using c2
      refine ⟨_, rfl, gs.trans h6, ?_⟩
      rw [List.range_succ, List.all_append, hal, List.all_cons, List.all_nil, c2']
      rfl
  · rintro σ H5 ⟨kv, rfl, gs, hal⟩
    rw [Int.toNat_natCast] at hal
    have q' := q H5 (hg9.trans gs)
    rw [hal] at q'
    exact q'
end
/-- what the program has read: rows of pairs -/
def toldP (l : List Nat) : List Nat × List Nat := if isCutN l = true then (sCut, l.dropLast) else (sWhole, rsN l)
theorem toldD_eq (l : List Nat) : toldD l = .t [.s (toldP l).1, .s (toldP l).2] := by
  unfold toldD toldP
  split <;> rfl
/-- a list of pairs of texts on the heap -/
abbrev PairsAt (H : Hp) : List Addr → List (List Nat) → Prop := Paired fun a l => H a = some (.tup [.str (tx (toldP l).1), .str (tx (toldP l).2)])
theorem pairs_of {H : Hp} : ∀ {r : List (List Nat)} {vs : List V}, Reps H (r.map toldD) vs → ∃ ps : List Addr, vs = ps.map V.ref ∧ PairsAt H ps r
  | [], vs, h => by
    rw [List.map_nil, Reps] at h
    subst h
    exact ⟨[], rfl, .nil⟩
  | l :: r, vs, h => by
    rw [List.map_cons, Reps] at h
    obtain ⟨v, vr, rfl, h1, h2⟩ := h
    obtain ⟨ps, rfl, h4⟩ := pairs_of h2
    rw [toldD_eq, Rep] at h1
    obtain ⟨p, us, rfl, hp, h3⟩ := h1
    rw [Reps] at h3
    obtain ⟨v1, r1, rfl, e1, h3⟩ := h3
    rw [Reps] at h3
    obtain ⟨v2, r2, rfl, e2, h3⟩ := h3
    rw [Reps] at h3
    subst h3
    rw [Rep] at e1 e2
    subst e1 e2
    exact ⟨p :: ps, rfl, .cons hp h4⟩
abbrev FoundRows (H : Hp) : List Addr → List (List (List Nat)) → Prop := Paired fun a r => ∃ ps, H a = some (.lst (ps.map V.ref)) ∧ PairsAt H ps r
theorem found_rows {H : Hp} : ∀ {rows : List (List (List Nat))} {vs : List V}, Reps H (rows.map fun r => .l (r.map toldD)) vs → ∃ rs : List Addr, vs = rs.map V.ref ∧ FoundRows H rs rows
  | [], vs, h => by
    rw [List.map_nil, Reps] at h
    subst h
    exact ⟨[], rfl, .nil⟩
  | r :: rows, vs, h => by
    rw [List.map_cons, Reps] at h
    obtain ⟨v, vr, rfl, h1, h2⟩ := h
    obtain ⟨rs, rfl, h4⟩ := found_rows h2
    rw [Rep] at h1
    obtain ⟨p, us, rfl, hp, h3⟩ := h1
    obtain ⟨ps, rfl, h5⟩ := pairs_of h3
    exact ⟨p :: rs, rfl, .cons ⟨ps, hp, h5⟩ h4⟩
structure FoundAt (H : Hp) (p : Addr) (rs : List Addr) (rows : List (List (List Nat))) : Prop where
  tab : H p = some (.lst (rs.map V.ref))
  rows : FoundRows H rs rows
theorem found_at {H : Hp} {rows : List (List (List Nat))} {v : V} (h : Rep H (.l (rows.map fun r => .l (r.map toldD))) v) : ∃ p rs, v = .ref p ∧ FoundAt H p rs rows := by
  rw [Rep] at h
  obtain ⟨p, vs, rfl, hp, h⟩ := h
  obtain ⟨rs, rfl, h4⟩ := found_rows h
  exact ⟨p, rs, rfl, hp, h4⟩
theorem PairsAt.same {H H' : Hp} (s : Same H H') {ps : List Addr} {r : List (List Nat)} (h : PairsAt H ps r) : PairsAt H' ps r := Paired.mapP h fun a l q => s a _ q
theorem FoundAt.same {H H' : Hp} (s : Same H H') {p : Addr} {rs : List Addr} {rows : List (List (List Nat))} (h : FoundAt H p rs rows) : FoundAt H' p rs rows :=
  ⟨s _ _ h.tab, Paired.mapP h.rows fun a r q => by
    obtain ⟨ps, h1, h2⟩ := q
    exact ⟨ps, s _ _ h1, h2.same s⟩⟩
theorem at_ref {F : Addr → α → Prop} {rs : List Addr} {t : List α} {j : Nat} {x : V} (h : Paired F rs t) (hx : (rs.map V.ref)[j]? = some x) : ∃ a r, x = .ref a ∧ t[j]? = some r ∧ rs[j]? = some a ∧ F a r := by
  rw [List.getElem?_map] at hx
  cases ha : rs[j]? with
  | none => rw [ha] at hx; cases hx
  | some a =>
    rw [ha] at hx
    cases hx
    obtain ⟨r, h1, h2⟩ := Paired.getL h ha
    exact ⟨a, r, rfl, h1, rfl, h2⟩
theorem told_first (l : List Nat) : (toldP l).1 = sCut ∨ (toldP l).1 = sWhole := by
  unfold toldP
  split
  · exact .inl rfl
  · exact .inr rfl
def spAreFields : Sp := fun vs H Q _ => ∃ (p : Addr) (rs : List Addr) (rows : List (List (List Nat))), vs = [.ref p] ∧ FoundAt H p rs rows ∧ Q (.bl true) H
section
variable {P : Program} {w : World} {K : PySem.W.Frag} {mg : Str → Option Value} {base : Heap}
theorem sc_law_are_fields : FnScope ["_law_found", "_law_row", "_law_one"] ["_law_found"] (defScope s_law_are_fields) := ⟨rfl, rfl, rfl, by decide +kernel, rfl, by decide +kernel, by decide +kernel⟩
theorem ok_are_fields {f : Addr} {fd : FuncData} (F : Fun K "_law_are_fields" "_law_are_fields" s_law_are_fields f fd) (G : Gb mg) : FnOk P w K mg base CX0 1 f fd ["_law_found"] spAreFields := by
  refine F.ok sc_law_are_fields (fun vs H Q E h => ?_) (fun cdv A outer s H vs Q E hr h => ?_)
  · obtain ⟨p, rs, rows, rfl, _⟩ := h
    rfl
  obtain ⟨p, rs, rows, rfl, hf, q⟩ := h
  refine ⟨_, (pss_cons (ps_if (pt_not (pt_val (pe_callB call_isi rfl G.isi bt_isinstance (pa_cons (pv 0) (pa_cons (pe_bltn (v := .ty "list") rfl G.list bt_list rfl) pa_nil))))) (pss_one (ps_ret pe_bl)) pss_nil)
    (pss_cons (ps_for PassesOwn.never rfl (pi_list (pv 0)) (pg_name (i := 1) sc_law_are_fields.nd rfl (by first | exact Or.inl rfl | exact Or.inr rfl)) (pss_cons (ps_if (pt_not (pt_val (pe_callB call_isi rfl G.isi bt_isinstance (pa_cons (pv 1) (pa_cons (pe_bltn (v := .ty "list") rfl G.list bt_list rfl) pa_nil))))) (pss_one (ps_ret pe_bl)) pss_nil)
    (pss_one (ps_for PassesOwn.never rfl (pi_list (pv 1)) (pg_name (i := 2) sc_law_are_fields.nd rfl (by first | exact Or.inl rfl | exact Or.inr rfl)) (pss_cons (ps_if (PW.pt (pw_or (pt_not (pt_val (pe_callB call_isi rfl G.isi bt_isinstance (pa_cons (pv 2) (pa_cons (pe_bltn (v := .ty "tuple") rfl G.tuple bt_tuple rfl) pa_nil))))) (pw_or (pt_cmpR op_ne (pe_callB call_len_seq rfl G.len bt_len (pa_cons (pv 2) pa_nil)) pe_int (nomark _)) (pw_or1 (pt_not (pt_val (pe_callB call_isi rfl G.isi bt_isinstance (pa_cons (pe_ix ix_tup (pv 2) pe_int (fun _ _ => rfl)) (pa_cons (pe_bltn (v := .ty "str") rfl G.str bt_str rfl) pa_nil))))))))) (pss_one (ps_ret pe_bl)) pss_nil)
    (pss_one (ps_if (PW.pt (pw_or (pt_not (pt_val (pe_callB call_isi rfl G.isi bt_isinstance (pa_cons (pe_ix ix_tup (pv 2) pe_int (fun _ _ => rfl)) (pa_cons (pe_bltn (v := .ty "str") rfl G.str bt_str rfl) pa_nil))))) (pw_or1 (PW.pt (pw_and (pt_cmpR op_ne (pe_ix ix_tup (pv 2) pe_int (fun _ _ => rfl)) (pe_tx (l := sWhole) (by decide +kernel)) (nomark _)) (pw_and1 (pt_cmpR op_ne (pe_ix ix_tup (pv 2) pe_int (fun _ _ => rfl)) (pe_tx (l := sCut) (by decide +kernel)) (nomark _)))))))) (pss_one (ps_ret pe_bl)) pss_nil)))))))
    (pss_one (ps_ret pe_bl)))), ?_⟩
  refine ⟨_, rfl, _, _, _, _, rfl, TyOf.lst hf.tab, kit_same _ _, _, rfl, iteF ?_⟩
  refine ⟨_, rfl, p, rfl, ⟨_, SqL.of hf.tab⟩, for_list (K := K) (a := p) (xs := rs.map V.ref) (fun i σ H' => ∃ v1 v2, σ = [some (.ref p), v1, v2] ∧ H' = H) ⟨_, _, rfl, rfl⟩ (fun i σ H' _ ⟨_, _, _, e⟩ => by rw [e]; exact SqL.of hf.tab) ?_ ?_⟩
  · rintro i x σ H' hx ⟨v1, v2, rfl, rfl⟩
    obtain ⟨ai, r, rfl, hr1, hr2, ps, hr3, hps⟩ := at_ref hf.rows hx
    refine ⟨_, rfl, _, _, _, _, rfl, TyOf.lst hr3, kit_same _ _, _, rfl, iteF ?_⟩
    refine ⟨_, rfl, ai, rfl, ⟨_, SqL.of hr3⟩, for_list (K := K) (a := ai) (xs := ps.map V.ref) (fun j σ H2 => ∃ v2, σ = [some (.ref p), some (.ref ai), v2] ∧ H2 = H') ⟨_, rfl, rfl⟩ (fun j σ H2 _ ⟨_, _, e⟩ => by rw [e]; exact SqL.of hr3) ?_ ?_⟩
    · rintro j y σ H2 hy ⟨v2, rfl, rfl⟩
      obtain ⟨aj, l, rfl, hl1, hl2, hl3⟩ := at_ref hps hy
      have h0 : atI [V.str (tx (toldP l).1), V.str (tx (toldP l).2)] 0 = some (V.str (tx (toldP l).1)) := atI_nat (j := 0) rfl
      have h1 : atI [V.str (tx (toldP l).1), V.str (tx (toldP l).2)] 1 = some (V.str (tx (toldP l).2)) := atI_nat (j := 1) rfl
      refine ⟨_, rfl, _, _, _, _, rfl, TyOf.tup hl3, kit_same _ _, _, rfl, iteF ?_⟩
      refine ⟨_, rfl, _, _, rfl, .inr (SqT.of hl3), rfl, _, rfl, iteNS rfl ?_⟩
      refine ⟨_, rfl, aj, _, _, _, rfl, rfl, SqT.of hl3, h0, _, _, _, _, rfl, TyOf.str _, kit_same _ _, _, rfl, iteF ?_⟩
      refine ⟨_, rfl, aj, _, _, _, rfl, rfl, SqT.of hl3, h1, _, _, _, _, rfl, TyOf.str _, kit_same _ _, _, rfl, iteF ?_⟩
      refine ⟨_, rfl, aj, _, _, _, rfl, rfl, SqT.of hl3, h0, rfl, _, rfl, ?_⟩
      rw [dec_tx]
      rcases told_first l with e | e
      · rw [e]
        refine iteT ⟨_, rfl, aj, _, _, _, rfl, rfl, SqT.of hl3, h0, rfl, _, rfl, ?_⟩
        rw [dec_tx, e]
        exact iteF ⟨_, rfl, rfl⟩
      · rw [e]
        exact iteF (iteF ⟨_, rfl, rfl⟩)
    · rintro σ H2 ⟨v2, rfl, rfl⟩
      exact ⟨_, _, rfl, rfl⟩
  · rintro σ H' ⟨v1, v2, rfl, rfl⟩
    exact q
end
theorem capN_take {rows : List (List (List Nat))} {i : Nat} {r : List (List Nat)} (h : rows[i]? = some r) : capN (rows.take (i + 1)) = ((r.filter isCutN).map List.length).foldl min (capN (rows.take i)) := by
  obtain ⟨hi, e⟩ := List.getElem?_eq_some_iff.mp h
  unfold capN
  rw [List.take_succ_eq_append_getElem hi, e, List.flatten_append, List.filter_append, List.map_append, List.foldl_append]
  simp
theorem told_cut {l : List Nat} (h : isCutN l = true) : toldP l = (sCut, l.dropLast) := if_pos h
theorem told_whole {l : List Nat} (h : ¬ isCutN l = true) : toldP l = (sWhole, rsN l) := if_neg h
theorem cut_len {l : List Nat} (h : isCutN l = true) : l.dropLast.length + 1 = l.length := by
  have := congrArg List.length (cut_eq h)
  rw [List.length_append] at this
  exact this.symm
def spAgain : Sp := fun vs H Q _ => ∃ (p : Addr) (rs : List Addr) (rows : List (List (List Nat))) (n : Nat), vs = [.ref p] ∧ FoundAt H p rs rows ∧ (∀ r ∈ rows, r.length = n ∧ ∀ l ∈ r, l.length ≤ 200) ∧ rows.length ≤ 63 ∧ n ≤ 900 ∧ 2 ≤ capN rows ∧
  ∀ (q : Addr) (H' : Hp), Same H H' → H' q = some (.lst ((Cb.shownOf (againT rows) (capN rows)).map fun l => V.str (tx l))) → Q (.ref q) H'
section
variable {P : Program} {w : World} {K : PySem.W.Frag} {mg : Str → Option Value} {base : Heap}
theorem sc_law_written_again : FnScope ["_law_found", "_law_cap", "_law_table", "_law_row", "_law_made", "_law_one"] ["_law_found"] (defScope s_law_written_again) := ⟨rfl, rfl, rfl, by decide +kernel, rfl, by decide +kernel, by decide +kernel⟩
theorem ok_again {f g : Addr} {fd gd : FuncData} (F : Fun K "_law_written_again" "_law_written_again" s_law_written_again f fd) (G : Gb mg)
    (G_law_written : FnOk P w K mg base CX0 2 g gd ["_law_table", "_law_cap"] spWritten) (b_law_written : Binds K gd ["_law_table", "_law_cap"] []) (k_law_written : PySem.W.keepIn K (.ref g) = true) (m_law_written : mg "_law_written" = some (.ref g)) :
    FnOk P w K mg base CX0 3 f fd ["_law_found"] spAgain := by
  refine F.ok sc_law_written_again (fun vs H Q E h => ?_) (fun cdv A outer s H vs Q E hr h => ?_)
  · obtain ⟨p, rs, rows, n, rfl, _⟩ := h
    rfl
  obtain ⟨p, rs, rows, n, rfl, hf, hok, hz, hn, hcap, q⟩ := h
  refine ⟨_, (pss_cons (ps_set (i := 1) sc_law_written_again.nd rfl (by first | exact Or.inl rfl | exact Or.inr rfl) pe_int)
    (pss_cons (ps_set (i := 2) sc_law_written_again.nd rfl (by first | exact Or.inl rfl | exact Or.inr rfl) (pe_lst pa_nil))
    (pss_cons (ps_for PassesOwn.never rfl (pi_list (pv 0)) (pg_name (i := 3) sc_law_written_again.nd rfl (by first | exact Or.inl rfl | exact Or.inr rfl)) (pss_cons (ps_set (i := 4) sc_law_written_again.nd rfl (by first | exact Or.inl rfl | exact Or.inr rfl) (pe_lst pa_nil))
    (pss_cons (ps_for PassesOwn.never rfl (pi_list (pv 3)) (pg_name (i := 5) sc_law_written_again.nd rfl (by first | exact Or.inl rfl | exact Or.inr rfl)) (pss_one (ps_if (pt_cmpR op_eq (pe_ix ix_tup (pv 5) pe_int (fun _ _ => rfl)) (pe_tx (l := sCut) (by decide +kernel)) (nomark _)) (pss_cons (ps_set (i := 1) sc_law_written_again.nd rfl (by first | exact Or.inl rfl | exact Or.inr rfl) (pe_callB (call_min2 rfl) rfl G.min bt_min (pa_cons (pv 1) (pa_cons (pe_op op_add (pe_callB call_len_tx rfl G.len bt_len (pa_cons (pe_ix ix_tup (pv 5) pe_int (fun _ _ => rfl)) pa_nil)) pe_int) pa_nil))))
    (pss_one (ps_expr (pe_bm PySem.F.plainAttrs_list PySem.F.slot_list_append PySem.F.type_list_append mt_append (pv 4) (pa_cons (pe_op op_add_tx (pe_ix ix_tup (pv 5) pe_int (fun _ _ => rfl)) (pe_tx (l := [120, 120]) (by decide +kernel))) pa_nil))))) (pss_one (ps_expr (pe_bm PySem.F.plainAttrs_list PySem.F.slot_list_append PySem.F.type_list_append mt_append (pv 4) (pa_cons (pe_ix ix_tup (pv 5) pe_int (fun _ _ => rfl)) pa_nil)))))))
    (pss_one (ps_expr (pe_bm PySem.F.plainAttrs_list PySem.F.slot_list_append PySem.F.type_list_append mt_append (pv 2) (pa_cons (pv 4) pa_nil)))))))
    (pss_one (ps_ret (pe_call G_law_written hr rfl m_law_written k_law_written b_law_written .nil pass0 (pa_cons (pv 2) (pa_cons (pv 1) pa_nil)))))))), ?_⟩
  have zero : 0 ≤ sizeLine := Nat.zero_le _
  have hrl := Paired.length hf.rows
  have big : (100000 : Nat) < sizeLine := by rw [sizeLine_eq]; decide
  refine ⟨zero, fun pt hpt => ?_⟩
  have s0 : Same H (upd H pt (.lst [])) := same_new hpt _
  refine ⟨_, rfl, p, rfl, ⟨_, SqL.of (s0 _ _ hf.tab)⟩, for_list (K := K) (a := p) (xs := rs.map V.ref) (fun i σ H' => ∃ (ts : List Addr) (v1 v2 v3 : Option V), σ = [some (.ref p), some (.int (capN (rows.take i) : Nat)), some (.ref pt), v1, v2, v3] ∧ Same H H' ∧ TabAt H' pt ts (againT (rows.take i)) ∧ pt ∉ ts)
    ⟨[], none, none, none, rfl, s0, ⟨upd_same, .nil⟩, by simp⟩ (fun i σ H' _ ⟨_, _, _, _, _, e, _⟩ => SqL.of (e _ _ hf.tab)) ?_ ?_⟩
  · rintro i x σ H' hx ⟨ts, v1, v2, v3, rfl, hs, ht, hnt⟩
    obtain ⟨ai, r, rfl, hr1, hr2, ps, hr3, hps⟩ := at_ref hf.rows hx
    have hrm : r ∈ rows := List.mem_of_getElem? hr1
    obtain ⟨hi, er⟩ := List.getElem?_eq_some_iff.mp hr1
    obtain ⟨hrn, hrl2⟩ := hok r hrm
    have hpl := Paired.length hps
    refine ⟨zero, fun pm hpm => ?_⟩
    have npm : H pm = none := hs.free hpm
    have s1 : Same H' (upd H' pm (.lst [])) := same_new hpm _
    have nmt : pm ≠ pt := fun z => by rw [z, ht.tab] at hpm; cases hpm
    have nms : pm ∉ ts := not_in ht.rows hpm
    refine ⟨_, rfl, ai, rfl, ⟨_, SqL.of (s1 _ _ (hs _ _ hr3))⟩, for_list (K := K) (a := ai) (xs := ps.map V.ref) (fun j σ H2 => ∃ v3, σ = [some (.ref p), some (.int ((((r.take j).filter isCutN).map List.length).foldl min (capN (rows.take i)) : Nat)), some (.ref pt), some (.ref ai), some (.ref pm), v3] ∧ Same H H2 ∧ TabAt H2 pt ts (againT (rows.take i)) ∧ H2 pm = some (.lst (rowV ((r.take j).map fldN))))
      ⟨v3, rfl, hs.trans s1, ht.same s1, upd_same⟩ (fun j σ H2 _ ⟨_, _, e, _⟩ => SqL.of (e _ _ hr3)) ?_ ?_⟩
    · rintro j y σ H2 hy ⟨v3, rfl, hs2, ht2, hm2⟩
      obtain ⟨aj, l, rfl, hl1, hl2, hl3⟩ := at_ref hps hy
      have hlm : l ∈ r := List.mem_of_getElem? hl1
      obtain ⟨hj, el⟩ := List.getElem?_eq_some_iff.mp hl1
      have hll := hrl2 l hlm
      have hl4 := hs2 _ _ hl3
      have h0 : atI [V.str (tx (toldP l).1), V.str (tx (toldP l).2)] 0 = some (V.str (tx (toldP l).1)) := atI_nat (j := 0) rfl
      have h1 : atI [V.str (tx (toldP l).1), V.str (tx (toldP l).2)] 1 = some (V.str (tx (toldP l).2)) := atI_nat (j := 1) rfl
      have et : ((r.take (j + 1)).filter isCutN).map List.length = ((r.take j).filter isCutN).map List.length ++ (([l].filter isCutN).map List.length) := by
        rw [List.take_succ_eq_append_getElem hj, el, List.filter_append, List.map_append]
      have em : (r.take (j + 1)).map fldN = (r.take j).map fldN ++ [fldN l] := by
        rw [List.take_succ_eq_append_getElem hj, el, List.map_append]
        rfl
      have hml : (rowV ((r.take j).map fldN)).length < sizeLine := by
        unfold rowV
        rw [List.length_map, List.length_map, List.length_take]
        omega
      have put : ∀ v, v = V.str (tx (fldN l)) → Same H (upd H2 pm (.lst (rowV ((r.take j).map fldN) ++ [v]))) ∧ TabAt (upd H2 pm (.lst (rowV ((r.take j).map fldN) ++ [v]))) pt ts (againT (rows.take i)) ∧ (upd H2 pm (.lst (rowV ((r.take j).map fldN) ++ [v]))) pm = some (.lst (rowV ((r.take (j + 1)).map fldN))) := by
        rintro v rfl
        refine ⟨hs2.put npm _, ⟨by rw [upd_ne (Ne.symm nmt)]; exact ht2.tab, RowsAt.put ht2.rows nms _⟩, ?_⟩
        rw [upd_same, em]
        unfold rowV
        rw [List.map_append]
        rfl
      refine ⟨_, rfl, aj, _, _, _, rfl, rfl, SqT.of hl4, h0, rfl, _, rfl, ?_⟩
      rw [dec_tx]
      by_cases hc : isCutN l = true
      · have et1 : (toldP l).1 = sCut := by rw [told_cut hc]
        have et2 : (toldP l).2 = l.dropLast := by rw [told_cut hc]
        have hdl := cut_len hc
        rw [et1]
        refine iteT ?_
        refine ⟨_, rfl, _, rfl, aj, _, _, _, rfl, rfl, SqT.of hl4, h1, _, rfl, ?_, ?_⟩
        · rw [et2]
          exact smallN (by omega)
        refine ⟨_, _, rfl, rfl, _, _, rfl, ?_⟩
        refine ⟨_, rfl, .inl ⟨rfl, _, SqL.of hm2⟩, _, rfl, aj, _, _, _, rfl, rfl, SqT.of hl4, h1, _, _, rfl, rfl, ?_, ?_⟩
        · rw [et2]
          exact smallN (by show _ + 2 ≤ 100000; omega)
        have ef : fldN l = (toldP l).2 ++ [120, 120] := by
          rw [et2]
          exact if_pos hc
        obtain ⟨a1, a2, a3⟩ := put (V.str (tx ((toldP l).2 ++ [120, 120]))) (by rw [ef])
        refine ⟨pm, _, _, rfl, rfl, hm2, hml, ?_⟩
        refine ⟨some (.ref aj), ?_, a1, a2, a3⟩
        rw [et, List.foldl_append, List.filter_cons_of_pos hc]
        have ec : ∀ M : Nat, (if ((l.dropLast.length : Nat) : Int) + 1 < ((M : Nat) : Int) then ((l.dropLast.length : Nat) : Int) + 1 else ((M : Nat) : Int)) = ((min M l.length : Nat) : Int) := fun M => by
          split <;> omega
        show _ = [_, some (V.int ((min ((((r.take j).filter isCutN).map List.length).foldl min (capN (rows.take i))) l.length : Nat) : Int)), _, _, _, _]
        rw [← ec, et2]
        rfl
      · have et1 : (toldP l).1 = sWhole := by rw [told_whole hc]
        have et2 : (toldP l).2 = rsN l := by rw [told_whole hc]
        rw [et1]
        refine iteF ?_
        refine ⟨_, rfl, .inl ⟨rfl, _, SqL.of hm2⟩, _, rfl, aj, _, _, _, rfl, rfl, SqT.of hl4, h1, ?_⟩
        obtain ⟨a1, a2, a3⟩ := put (V.str (tx (toldP l).2)) (by rw [et2, show fldN l = rsN l from if_neg hc])
        refine ⟨pm, _, _, rfl, rfl, hm2, hml, ?_⟩
        refine ⟨some (.ref aj), ?_, a1, a2, a3⟩
        rw [et, List.foldl_append, List.filter_cons_of_neg hc]
        rfl
    · rintro σ H2 ⟨v3, rfl, hs2, ht2, hm2⟩
      have hlp : (ps.map V.ref).length = r.length := by rw [List.length_map]; exact hpl
      rw [hlp, List.take_length] at hm2 ⊢
      have hlt := Paired.length ht2.rows
      have hlt2 : ts.length ≤ 63 := by
        rw [hlt]
        unfold againT
        rw [List.length_map, List.length_take]
        omega
      refine ⟨_, rfl, .inl ⟨rfl, _, SqL.of ht2.tab⟩, _, rfl, pt, _, _, rfl, rfl, ht2.tab, by rw [List.length_map]; omega, ?_⟩
      refine ⟨ts ++ [pm], some (.ref ai), some (.ref pm), v3, ?_, hs2.put hpt _, ⟨by rw [upd_same, List.map_append] <;> rfl, ?_⟩, ?_⟩
      · rw [capN_take hr1]
      · have ea : againT (rows.take (i + 1)) = againT (rows.take i) ++ [r.map fldN] := by
          unfold againT
          rw [List.take_succ_eq_append_getElem hi, er, List.map_append]
          rfl
        rw [ea]
        refine RowsAt.put (Paired.snoc ht2.rows hm2) ?_ _
        intro z
        rcases List.mem_append.mp z with z | z
        · exact hnt z
        · exact nmt (List.mem_singleton.mp z).symm
      · intro z
        rcases List.mem_append.mp z with z | z
        · exact hnt z
        · exact nmt (List.mem_singleton.mp z).symm
  · rintro σ H' ⟨ts, v1, v2, v3, rfl, hs, ht, hnt⟩
    have hlr : (rs.map V.ref).length = rows.length := by rw [List.length_map]; exact hrl
    rw [hlr, List.take_length] at ht ⊢
    refine ⟨_, rfl, _, rfl, pt, ts, againT rows, n, capN rows, rfl, ht, fun r' hr' => ?_, by unfold againT; rw [List.length_map]; omega, hn, hcap, fun qq H2 s2 _ hq => q qq H2 (hs.trans s2) hq⟩
    obtain ⟨r, hr, rfl⟩ := List.mem_map.mp hr'
    refine ⟨by rw [List.length_map]; exact (hok r hr).1, fun fl hfl => ?_⟩
    obtain ⟨l, hl, rfl⟩ := List.mem_map.mp hfl
    have h1 := (hok r hr).2 l hl
    have h2 := rsN_len l
    rw [fld_len]
    split <;> omega
end
structure Cl5 (K : PySem.W.Frag) (cS cC cF cN : Addr) : Prop where
  nn : PySem.W.exmOne K (.ref cN) (.ref cN) = some true
  ns : PySem.W.exmOne K (.ref cN) (.ref cS) = some true
  zn : ExcK K cN
  inc : PySem.W.kitOne K (.ref cN) (.ref cC) = some false
  inf : PySem.W.kitOne K (.ref cN) (.ref cF) = some false
  inn : PySem.W.kitOne K (.ref cN) (.ref cN) = some true
  inv : PySem.W.kitOne K (.ref cN) (.type "ValueError") = some true
def spRefused : Sp := fun vs H Q _ => ∃ (p : Addr) (ls : List (List Nat)), vs = [.ref p] ∧ H p = some (.lst (rowV ls)) ∧ ls.length ≤ 1000 ∧ (∀ l ∈ ls, l.length ≤ 9000) ∧ ∀ H', Same H H' → Q (.bl (!isSheetN (rowsOf ls))) H'
section
variable {P : Program} {w : World} {K : PySem.W.Frag} {mg : Str → Option Value} {base : Heap}
theorem sc_law_refused_by_any : FnScope ["_law_lines", "e", "_law_kinds"] ["_law_lines"] (defScope s_law_refused_by_any) := ⟨rfl, rfl, rfl, by decide +kernel, rfl, by decide +kernel, by decide +kernel⟩
theorem ok_refused {f fW cS cC cF cN : Addr} {fd dW : FuncData} (F : Fun K "_law_refused_by_any" "_law_refused_by_any" s_law_refused_by_any f fd) (G : Gb mg) (Z : Cl5 K cS cC cF cN) (mVE : mg "ValueError" = none) (mSheetError : mg "SheetError" = some (.ref cS)) (mNoCap : mg "NoCap" = some (.ref cC)) (mNoField : mg "NoField" = some (.ref cF)) (mNoSheet : mg "NoSheet" = some (.ref cN))
    (Gread : FnOk P w K mg base (CXf P w) 7 fW dW ["lines"] (spReadX cN)) (bread : Binds K dW ["lines"] []) (kread : PySem.W.keepIn K (.ref fW) = true) (mread : mg "read" = some (.ref fW)) :
    FnOk P w K mg base CX0 8 f fd ["_law_lines"] spRefused := by
  refine F.ok sc_law_refused_by_any (fun vs H Q E h => ?_) (fun cdv A outer s H vs Q E hr h => ?_)
  · obtain ⟨p, ls, rfl, _⟩ := h
    rfl
  obtain ⟨p, ls, rfl, hp, hz, hlz, q⟩ := h
  refine ⟨_, pss_cons (ps_try rfl rfl (psx_expr Gread hr rfl mread kread bread (pa_cons (pv 0) pa_nil))
      (ph_as (i := 1) rfl mSheetError sc_law_refused_by_any.nd rfl rfl (fun ea C oe hc => pss_cons (ps_set (i := 2) sc_law_refused_by_any.nd rfl (by first | exact Or.inl rfl | exact Or.inr rfl) (pe_op op_add (pe_callTy call_int1 rfl G.int bt_int (pa_cons (pe_callB (call_isiE (K := K) rfl (List.mem_append_right _ (List.mem_singleton.mpr rfl)) hc) rfl G.isi bt_isinstance (pa_cons (pv 1) (pa_cons (pe_gl (v := .ref cC) rfl ⟨_, mNoCap, rfl⟩) pa_nil))) pa_nil)) (pe_callTy call_int1 rfl G.int bt_int (pa_cons (pe_callB (call_isiE (K := K) rfl (List.mem_append_right _ (List.mem_singleton.mpr rfl)) hc) rfl G.isi bt_isinstance (pa_cons (pv 1) (pa_cons (pe_gl (v := .ref cF) rfl ⟨_, mNoField, rfl⟩) pa_nil))) pa_nil))))
        (pss_cons (ps_set (i := 2) sc_law_refused_by_any.nd rfl (by first | exact Or.inl rfl | exact Or.inr rfl) (pe_op op_add (pv 2) (pe_callTy call_int1 rfl G.int bt_int (pa_cons (pe_callB (call_isiE (K := K) rfl (List.mem_append_right _ (List.mem_singleton.mpr rfl)) hc) rfl G.isi bt_isinstance (pa_cons (pv 1) (pa_cons (pe_gl (v := .ref cN) rfl ⟨_, mNoSheet, rfl⟩) pa_nil))) pa_nil))))
        (pss_one (ps_ret (pe_and (pe_cmpR op_eq (pv 2) pe_int (nomark _)) (pe_one (pe_callB (call_isiE (K := K) rfl (List.mem_append_right _ (List.mem_singleton.mpr rfl)) hc) rfl G.isi bt_isinstance (pa_cons (pv 1) (pa_cons (pe_bltn (v := .ty "ValueError") rfl mVE bt_VE rfl) pa_nil))))))))) ph_nil))
    (pss_one (ps_ret pe_bl)), ?_⟩
  let EX : XK := fun C d H' => C = .ref cN ∧ isSheetN (rowsOf ls) = false ∧ Same H H'
  refine ⟨_, rfl, EX, ?_, p, ls, rfl, hp, hz, hlz, fun h H' s' => ⟨rfl, h, s'⟩, fun h v H' s' _ => ?_⟩
  · rintro C d H' ⟨rfl, h, s'⟩ ea _
    refine .inl ⟨Z.ns, ?_⟩
    refine ⟨_, rfl, cN, _, _, false, rfl, Z.zn, rfl, fun u r => r, Z.inc, .inr ⟨_, rfl, ?_⟩⟩
    refine ⟨_, rfl, cN, _, _, false, rfl, Z.zn, rfl, fun u r => r, Z.inf, .inr ⟨_, rfl, ?_⟩⟩
    refine ⟨_, _, rfl, rfl, ?_⟩
    refine ⟨_, rfl, _, rfl, cN, _, _, true, rfl, Z.zn, rfl, fun u r => r, Z.inn, .inr ⟨_, rfl, ?_⟩⟩
    refine ⟨_, _, rfl, rfl, ?_⟩
    refine ⟨_, rfl, rfl, _, rfl, ?_⟩
    refine iteT ⟨_, rfl, cN, _, _, true, rfl, Z.zn, rfl, fun u r => r, Z.inv, ?_⟩
    have := q H' s'
    rw [h] at this
    exact this
  · have := q H' s'
    rw [h] at this
    exact this
end
def marks : List Nat := [126, 124, 32, 97, 120]
theorem mark_ok {k : Nat} {c : Nat} (h : marks[k]? = some c) : Sign1 [c] := by
  have hm : c ∈ marks := List.mem_of_getElem? h
  have : ∀ c ∈ marks, (32 ≤ c ∧ c ≤ 125 ∧ c ≠ 37 ∧ c ≠ 124) ∨ c = 124 ∨ c = 126 := by decide
  exact ⟨rfl, fun d hd => by
    rw [List.mem_singleton] at hd
    subst hd
    exact this _ hm⟩
theorem capN_two {rows : List (List (List Nat))} (h : ∀ r ∈ rows, ∀ p ∈ r, isCellN p = true) : 2 ≤ capN rows := by
  rcases (capN_le rows).2.2 with e | ⟨r, hr, p, hp, hc, e⟩
  · rw [e]
    decide
  · rw [e]
    exact (cell_pos (h r hr p hp)).2 hc
theorem preN_ge : ∀ cs : List (List Nat), (∀ c ∈ cs, 1 ≤ c.length) → 2 * cs.length ≤ (preN [124] cs cs.length).length
  | [], _ => Nat.zero_le _
  | c :: cs, h => by
    have ih := preN_ge cs fun x hx => h x (List.mem_cons_of_mem _ hx)
    have h1 := h c List.mem_cons_self
    have e : preN [124] (c :: cs) (c :: cs).length = (c ++ [124]) ++ preN [124] cs cs.length := by
      unfold preN
      rw [List.take_length, List.take_length, List.map_cons, List.flatten_cons]
    rw [e, List.length_append, List.length_append, List.length_cons]
    show 2 * (cs.length + 1) ≤ c.length + 1 + _
    omega
theorem few_parts {ls : List (List Nat)} (h : ∀ l ∈ ls, Line1 l) (hc : ∀ r ∈ rowsOf ls, ∀ p ∈ r, isCellN p = true) : ((rowsOf ls).headD []).length ≤ 900 := by
  cases ls with
  | nil => exact Nat.zero_le _
  | cons l r =>
    show (splitN 124 l).length ≤ 900
    have h1 := preN_ge (splitN 124 l) fun p hp => (cell_pos (hc _ List.mem_cons_self p hp)).1
    have h2 := joinN_len [124] (splitN 124 l) (splitN_ne 124 l)
    rw [joinN_split] at h2
    have h3 := (h l List.mem_cons_self).len
    have h4 : [124].length = 1 := rfl
    omega
section
variable {P : Program} {w : World} {K : PySem.W.Frag} {mg : Str → Option Value} {base : Heap}
theorem sclaw : FnScope ["_law_script", "_law_head", "_law_columns", "_law_most", "_law_cap", "_law_table", "_law_lines", "_law_way", "_law_sign", "_law_row", "_law_handed", "_law_found", "_law_refused", "_law_again"] ["_law_script"] (defScope slaw) := ⟨rfl, rfl, rfl, by decide +kernel, rfl, by decide +kernel, by decide +kernel⟩
theorem ok_law {f fA fT fK fW fS fG fE fN fB fR cS cC cF cN : Addr} {fd dA dT dK dW dS dG dE dN dB dR : FuncData} (F : Fun K "law" "law" slaw f fd) (G : Gb mg) (Z : Cl5 K cS cC cF cN) (mNoSheet : mg "NoSheet" = some (.ref cN))
    (G_law_at : FnOk P w K mg base CX0 8 fA dA ["_law_script", "_law_k"] (spAt K)) (b_law_at : Binds K dA ["_law_script", "_law_k"] []) (k_law_at : PySem.W.keepIn K (.ref fA) = true) (m_law_at : mg "_law_at" = some (.ref fA))
    (G_law_table_of : FnOk P w K mg base CX0 8 fT dT ["_law_cells", "_law_columns", "_law_most"] (spTab K)) (b_law_table_of : Binds K dT ["_law_cells", "_law_columns", "_law_most"] []) (k_law_table_of : PySem.W.keepIn K (.ref fT) = true) (m_law_table_of : mg "_law_table_of" = some (.ref fT))
    (G_law_alike : FnOk P w K mg base CX0 8 fK dK ["_law_found", "_law_due"] spAlike) (b_law_alike : Binds K dK ["_law_found", "_law_due"] []) (k_law_alike : PySem.W.keepIn K (.ref fK) = true) (m_law_alike : mg "_law_alike" = some (.ref fK))
    (G_law_written : FnOk P w K mg base CX0 8 fW dW ["_law_table", "_law_cap"] spWritten) (b_law_written : Binds K dW ["_law_table", "_law_cap"] []) (k_law_written : PySem.W.keepIn K (.ref fW) = true) (m_law_written : mg "_law_written" = some (.ref fW))
    (G_law_spoilt : FnOk P w K mg base CX0 8 fS dS ["_law_lines", "_law_way", "_law_row", "_law_spot", "_law_sign"] spSpoilt) (b_law_spoilt : Binds K dS ["_law_lines", "_law_way", "_law_row", "_law_spot", "_law_sign"] []) (k_law_spoilt : PySem.W.keepIn K (.ref fS) = true) (m_law_spoilt : mg "_law_spoilt" = some (.ref fS))
    (G_law_good : FnOk P w K mg base CX0 8 fG dG ["_law_lines"] spGood) (b_law_good : Binds K dG ["_law_lines"] []) (k_law_good : PySem.W.keepIn K (.ref fG) = true) (m_law_good : mg "_law_good" = some (.ref fG))
    (G_law_are_fields : FnOk P w K mg base CX0 8 fE dE ["_law_found"] spAreFields) (b_law_are_fields : Binds K dE ["_law_found"] []) (k_law_are_fields : PySem.W.keepIn K (.ref fE) = true) (m_law_are_fields : mg "_law_are_fields" = some (.ref fE))
    (G_law_written_again : FnOk P w K mg base CX0 8 fN dN ["_law_found"] spAgain) (b_law_written_again : Binds K dN ["_law_found"] []) (k_law_written_again : PySem.W.keepIn K (.ref fN) = true) (m_law_written_again : mg "_law_written_again" = some (.ref fN))
    (G_law_refused_by_any : FnOk P w K mg base CX0 8 fB dB ["_law_lines"] spRefused) (b_law_refused_by_any : Binds K dB ["_law_lines"] []) (k_law_refused_by_any : PySem.W.keepIn K (.ref fB) = true) (m_law_refused_by_any : mg "_law_refused_by_any" = some (.ref fB))
    (Gread : FnOk P w K mg base (CXf P w) 8 fR dR ["lines"] (spReadX cN)) (bread : Binds K dR ["lines"] []) (kread : PySem.W.keepIn K (.ref fR) = true) (mread : mg "read" = some (.ref fR)) :
    FnOk P w K mg base CX0 9 f fd ["_law_script"] (spLaw K) := by
  refine F.ok sclaw (fun vs H Q E h => ?_) (fun cdv A outer s H vs Q E hr h => ?_)
  · obtain ⟨a, ns, rfl, _⟩ := h
    rfl
  obtain ⟨a, ns, rfl, hS, h63, q⟩ := h
  refine ⟨_, (pss_cons (ps_set (i := 1) sclaw.nd rfl (by first | exact Or.inl rfl | exact Or.inr rfl) (pe_call G_law_at hr rfl m_law_at k_law_at b_law_at .nil pass0 (pa_cons (pv 0) (pa_cons pe_int pa_nil))))
    (pss_cons (ps_set (i := 2) sclaw.nd rfl (by first | exact Or.inl rfl | exact Or.inr rfl) (pe_ix ix_list (pe_lst (pa_cons (pe_op op_add pe_int (pe_op op_mod (pv 1) pe_int)) (pa_cons pe_int pa_nil))) (pe_callTy call_int1 rfl G.int bt_int (pa_cons (pe_cmpR op_eq (pe_op op_mod (pe_op op_fdiv (pv 1) pe_int) pe_int) pe_int (nomark _)) pa_nil)) (fun _ _ => rfl)))
    (pss_cons (ps_set (i := 3) sclaw.nd rfl (by first | exact Or.inl rfl | exact Or.inr rfl) (pe_ix ix_list (pe_lst (pa_cons (pe_op op_add pe_int (pe_op op_mod (pe_op op_fdiv (pv 1) pe_int) pe_int)) (pa_cons pe_int pa_nil))) (pe_callTy call_int1 rfl G.int bt_int (pa_cons (pe_cmpR op_eq (pe_op op_mod (pe_op op_fdiv (pv 1) pe_int) pe_int) pe_int (nomark _)) pa_nil)) (fun _ _ => rfl)))
    (pss_cons (ps_set (i := 4) sclaw.nd rfl (by first | exact Or.inl rfl | exact Or.inr rfl) (pe_op op_add pe_int (pe_op op_mod (pe_call G_law_at hr rfl m_law_at k_law_at b_law_at .nil pass0 (pa_cons (pv 0) (pa_cons pe_int pa_nil))) pe_int)))
    (pss_cons (ps_if (pt_cmpR op_eq (pv 4) pe_int (nomark _)) (pss_one (ps_set (i := 4) sclaw.nd rfl (by first | exact Or.inl rfl | exact Or.inr rfl) (pe_ix ix_list (pe_lst (pa_cons pe_int (pa_cons (pe_op op_add pe_int (pe_op op_mod (pe_op op_fdiv (pe_call G_law_at hr rfl m_law_at k_law_at b_law_at .nil pass0 (pa_cons (pv 0) (pa_cons pe_int pa_nil))) pe_int) pe_int)) pa_nil))) (pe_op op_mod (pe_op op_fdiv (pe_call G_law_at hr rfl m_law_at k_law_at b_law_at .nil pass0 (pa_cons (pv 0) (pa_cons pe_int pa_nil))) pe_int) pe_int) (fun _ _ => rfl)))) pss_nil)
    (pss_cons (ps_if (pt_cmpR op_eq (pe_op op_mod (pe_op op_fdiv (pe_call G_law_at hr rfl m_law_at k_law_at b_law_at .nil pass0 (pa_cons (pv 0) (pa_cons pe_int pa_nil))) pe_int) pe_int) pe_int (nomark _)) (pss_cons (ps_set (i := 4) sclaw.nd rfl (by first | exact Or.inl rfl | exact Or.inr rfl) (pe_op op_add pe_int (pe_op op_mod (pe_op op_fdiv (pe_call G_law_at hr rfl m_law_at k_law_at b_law_at .nil pass0 (pa_cons (pv 0) (pa_cons pe_int pa_nil))) pe_int) pe_int)))
    (pss_one (ps_set (i := 3) sclaw.nd rfl (by first | exact Or.inl rfl | exact Or.inr rfl) pe_int))) pss_nil)
    (pss_cons (ps_set (i := 5) sclaw.nd rfl (by first | exact Or.inl rfl | exact Or.inr rfl) (pe_call G_law_table_of hr rfl m_law_table_of k_law_table_of b_law_table_of .nil pass0 (pa_cons (pe_slice sl_list (pv 0) (po_some pe_int) po_none) (pa_cons (pv 2) (pa_cons (pv 3) pa_nil)))))
    (pss_cons (ps_set (i := 6) sclaw.nd rfl (by first | exact Or.inl rfl | exact Or.inr rfl) (pe_call G_law_written hr rfl m_law_written k_law_written b_law_written .nil pass0 (pa_cons (pv 5) (pa_cons (pv 4) pa_nil))))
    (pss_cons (ps_set (i := 7) sclaw.nd rfl (by first | exact Or.inl rfl | exact Or.inr rfl) (pe_op op_mod (pe_call G_law_at hr rfl m_law_at k_law_at b_law_at .nil pass0 (pa_cons (pv 0) (pa_cons pe_int pa_nil))) pe_int))
    (pss_cons (ps_set (i := 8) sclaw.nd rfl (by first | exact Or.inl rfl | exact Or.inr rfl) (pe_ix ix_str (pe_tx (l := [126, 124, 32, 97, 120]) (by decide +kernel)) (pe_op op_mod (pe_call G_law_at hr rfl m_law_at k_law_at b_law_at .nil pass0 (pa_cons (pv 0) (pa_cons pe_int pa_nil))) pe_int) (fun _ _ => rfl)))
    (pss_cons (ps_if (PW.pt (pw_and (pt_cmpR (op_ne_nil hr.units0) (pv 6) (pe_lst pa_nil) (nomark _)) (pw_and1 (pt_cmpR op_lt (pv 7) pe_int (nomark _))))) (pss_cons (ps_set (i := 9) sclaw.nd rfl (by first | exact Or.inl rfl | exact Or.inr rfl) (pe_op op_mod (pe_op op_fdiv (pe_call G_law_at hr rfl m_law_at k_law_at b_law_at .nil pass0 (pa_cons (pv 0) (pa_cons pe_int pa_nil))) pe_int) (pe_callB call_len_seq rfl G.len bt_len (pa_cons (pv 6) pa_nil))))
    (pss_one (ps_set (i := 6) sclaw.nd rfl (by first | exact Or.inl rfl | exact Or.inr rfl) (pe_call G_law_spoilt hr rfl m_law_spoilt k_law_spoilt b_law_spoilt .nil pass0 (pa_cons (pv 6) (pa_cons (pv 7) (pa_cons (pv 9) (pa_cons (pe_op op_fdiv (pe_call G_law_at hr rfl m_law_at k_law_at b_law_at .nil pass0 (pa_cons (pv 0) (pa_cons pe_int pa_nil))) pe_int) (pa_cons (pv 8) pa_nil))))))))) pss_nil)
    (pss_cons (ps_set (i := 10) sclaw.nd rfl (by first | exact Or.inl rfl | exact Or.inr rfl) (pe_callTy call_list_of rfl G.list bt_list (pa_cons (pv 6) pa_nil)))
    (pss_cons (ps_set (i := 11) sclaw.nd rfl (by first | exact Or.inl rfl | exact Or.inr rfl) pe_non)
    (pss_cons (ps_set (i := 12) sclaw.nd rfl (by first | exact Or.inl rfl | exact Or.inr rfl) pe_bl)
    (pss_cons (ps_try rfl rfl (psx_set (i := 11) sclaw.nd rfl (by first | exact Or.inl rfl | exact Or.inr rfl) Gread hr rfl mread kread bread (pa_cons (pv 10) pa_nil)) (ph_hit rfl mNoSheet (fun _ => (pss_one (ps_set (i := 12) sclaw.nd rfl (by first | exact Or.inl rfl | exact Or.inr rfl) pe_bl))) ph_nil))
    (pss_cons (ps_if (pt_not (pt_val (pe_call G_law_alike hr rfl m_law_alike k_law_alike b_law_alike .nil pass0 (pa_cons (pv 10) (pa_cons (pv 6) pa_nil))))) (pss_one (ps_ret pe_bl)) pss_nil)
    (pss_cons (ps_if (PW.pt (pw_or (pt_val (pv 12)) (pw_or1 (pt_not (pt_val (pe_call G_law_good hr rfl m_law_good k_law_good b_law_good .nil pass0 (pa_cons (pv 6) pa_nil))))))) (pss_one (ps_ret (pe_and (pv 12) (pe_and (pe_not (pe_call G_law_good hr rfl m_law_good k_law_good b_law_good .nil pass0 (pa_cons (pv 6) pa_nil))) (pe_one (pe_call G_law_refused_by_any hr rfl m_law_refused_by_any k_law_refused_by_any b_law_refused_by_any .nil pass0 (pa_cons (pv 10) pa_nil))))))) pss_nil)
    (pss_cons (ps_if (pt_not (pt_val (pe_call G_law_are_fields hr rfl m_law_are_fields k_law_are_fields b_law_are_fields .nil pass0 (pa_cons (pv 11) pa_nil)))) (pss_one (ps_ret pe_bl)) pss_nil)
    (pss_cons (ps_set (i := 13) sclaw.nd rfl (by first | exact Or.inl rfl | exact Or.inr rfl) (pe_call G_law_written_again hr rfl m_law_written_again k_law_written_again b_law_written_again .nil pass0 (pa_cons (pv 11) pa_nil)))
    (pss_one (ps_ret (pe_and (pe_callB call_isi rfl G.isi bt_isinstance (pa_cons (pv 13) (pa_cons (pe_bltn (v := .ty "list") rfl G.list bt_list rfl) pa_nil))) (pe_one (pe_call G_law_alike hr rfl m_law_alike k_law_alike b_law_alike .nil pass0 (pa_cons (pv 13) (pa_cons (pv 6) pa_nil)))))))))))))))))))))))))), ?_⟩
  have two : 2 ≤ sizeLine := by rw [sizeLine_eq]; decide
  -- head, columns, most, cap
  refine ⟨_, rfl, a, ns, 0, rfl, hS, ?_⟩
  generalize ns.getD 0 0 = head
  refine ⟨_, rfl, _, _, rfl, rfl, (by show (0 : Int) < 4; decide), _, _, rfl, rfl, two, fun p1 hp1 => ⟨_, rfl, _, _, rfl, rfl, ⟨by decide, by decide⟩, _, _, rfl, rfl, (by show (0 : Int) < 8; decide), rfl, .inr ⟨_, rfl, p1, _, _, _, rfl, rfl, SqL.of upd_same, pick2 _ _ _ _, ?_⟩⟩⟩
  have g1 : Same H (upd H p1 (.lst [.int (1 + head % 4), .int 9])) := same_new hp1 _
  refine ⟨_, rfl, _, _, rfl, rfl, ⟨by decide, by decide⟩, _, _, rfl, rfl, (by show (0 : Int) < 10; decide), _, _, rfl, rfl, two, fun p2 hp2 => ⟨_, rfl, _, _, rfl, rfl, ⟨by decide, by decide⟩, _, _, rfl, rfl, (by show (0 : Int) < 8; decide), rfl, .inr ⟨_, rfl, p2, _, _, _, rfl, rfl, SqL.of upd_same, pick2 _ _ _ _, ?_⟩⟩⟩
  have g2 := g1.new hp2 (.lst [.int (3 + head / 4 % 10), .int 60])
  refine ⟨_, rfl, a, ns, 1, rfl, g2.seq hS, _, _, rfl, rfl, (by show (0 : Int) < 10; decide), _, _, rfl, rfl, ?_⟩
  have b4 := Int.emod_nonneg head (show (4 : Int) ≠ 0 by decide)
  have b4' := Int.emod_lt_of_pos head (show (0 : Int) < 4 by decide)
  have b10 := Int.emod_nonneg (head / 4) (show (10 : Int) ≠ 0 by decide)
  have b10' := Int.emod_lt_of_pos (head / 4) (show (0 : Int) < 10 by decide)
  obtain ⟨cols, hcols, hc1, hc9⟩ : ∃ cols : Nat, (if head / 40 % 8 = 1 then V.int 9 else V.int (1 + head % 4)) = V.int cols ∧ 1 ≤ cols ∧ cols ≤ 9 := by
    by_cases h : head / 40 % 8 = 1
    · exact ⟨9, by rw [if_pos h] <;> rfl, by decide, by decide⟩
    · exact ⟨(1 + head % 4).toNat, by rw [if_neg h, Int.toNat_of_nonneg (by omega)], by omega, by omega⟩
  obtain ⟨most, hmost, hm0, hm1⟩ : ∃ most : Int, (if head / 40 % 8 = 2 then V.int 60 else V.int (3 + head / 4 % 10)) = V.int most ∧ 0 ≤ most ∧ most ≤ 60 := by
    by_cases h : head / 40 % 8 = 2
    · exact ⟨60, by rw [if_pos h], by decide, by decide⟩
    · exact ⟨3 + head / 4 % 10, by rw [if_neg h], by omega, by omega⟩
  rw [hcols, hmost]
  have c10 := Int.emod_nonneg (ns.getD 1 0) (show (10 : Int) ≠ 0 by decide)
  have c10' := Int.emod_lt_of_pos (ns.getD 1 0) (show (0 : Int) < 10 by decide)
  have c50 := Int.emod_nonneg (ns.getD 1 0 / 20) (show (50 : Int) ≠ 0 by decide)
  have c50' := Int.emod_lt_of_pos (ns.getD 1 0 / 20) (show (0 : Int) < 50 by decide)
  have d50 := Int.emod_nonneg (ns.getD 1 0 / 160) (show (50 : Int) ≠ 0 by decide)
  have d50' := Int.emod_lt_of_pos (ns.getD 1 0 / 160) (show (0 : Int) < 50 by decide)
  have c2 := Int.emod_nonneg (ns.getD 1 0 / 10) (show (2 : Int) ≠ 0 by decide)
  have c2' := Int.emod_lt_of_pos (ns.getD 1 0 / 10) (show (0 : Int) < 2 by decide)
  dsimp only [gName]
  refine tSeq_mid (fun σ' H' => ∃ (cap : Nat), σ' = [some (.ref a), some (.int head), some (.int cols), some (.int most), some (.int cap)] ++ List.replicate 9 none ∧ 2 ≤ cap ∧ cap ≤ 1000000000000 ∧ Same H H') ?_ ?_
  rotate_left
  · intro U hU
    refine ⟨_, rfl, rfl, _, rfl, ?_⟩
    refine ite2 (fun c => ?_) (fun c => ?_)
    · refine ⟨_, rfl, a, ns, 1, rfl, g2.seq hS, _, _, rfl, rfl, ⟨by decide, by decide⟩, _, _, rfl, rfl, (by show (0 : Int) < 50; decide), _, _, rfl, rfl, two, fun p3 hp3 => ⟨_, rfl, a, ns, 1, rfl, (g2.new hp3 _).seq hS, _, _, rfl, rfl, ⟨by decide, by decide⟩, _, _, rfl, rfl, (by show (0 : Int) < 2; decide), p3, _, _, _, rfl, rfl, SqL.of upd_same, pick2n _ _ c2 c2', ?_⟩⟩
      by_cases h : ns.getD 1 0 / 10 % 2 = 1
      · rw [if_pos h]
        exact hU _ _ ⟨(11 + ns.getD 1 0 / 20 % 50).toNat, by rw [Int.toNat_of_nonneg (by omega)] <;> rfl, by omega, by omega, g2.new hp3 _⟩
      · rw [if_neg h]
        exact hU _ _ ⟨1000000000000, rfl, by omega, by omega, g2.new hp3 _⟩
    · exact hU _ _ ⟨(2 + ns.getD 1 0 % 10).toNat, by rw [Int.toNat_of_nonneg (by omega)] <;> rfl, by omega, by omega, g2⟩
  rintro σ' H2 ⟨cap, rfl, hcap2, hcapM, g3⟩
  refine tSeq_mid (fun σ' H' => ∃ (cap : Nat) (most : Int), σ' = [some (.ref a), some (.int head), some (.int cols), some (.int most), some (.int cap)] ++ List.replicate 9 none ∧ 2 ≤ cap ∧ cap ≤ 1000000000000 ∧ 0 ≤ most ∧ most ≤ 60 ∧ H' = H2) ?_ ?_
  rotate_left
  · intro U hU
    refine ⟨_, rfl, a, ns, 1, rfl, g3.seq hS, _, _, rfl, rfl, ⟨by decide, by decide⟩, _, _, rfl, rfl, (by show (0 : Int) < 4; decide), rfl, _, rfl, ?_⟩
    refine ite2 (fun c => ?_) (fun c => ?_)
    · refine ⟨_, rfl, a, ns, 1, rfl, g3.seq hS, _, _, rfl, rfl, ⟨by decide, by decide⟩, _, _, rfl, rfl, (by show (0 : Int) < 50; decide), _, _, rfl, rfl, ?_⟩
      exact hU _ _ ⟨(11 + ns.getD 1 0 / 160 % 50).toNat, 60, by rw [Int.toNat_of_nonneg (by omega)] <;> rfl, by omega, by omega, by decide, by decide, rfl⟩
    · exact hU _ _ ⟨cap, most, rfl, hcap2, hcapM, hm0, hm1, rfl⟩
  clear hmost hm0 hm1 most hcap2 hcapM cap
  rintro σ' H3 ⟨cap, most, rfl, hcap2, hcapM, hm0, hm1, rfl⟩
  -- table
  refine ⟨_, rfl, _, rfl, a, _, rfl, g3.seq hS, fun p4 hp4 => ?_⟩
  have e4 : cutV (ns.map V.int) (some 4) none = (ns.drop 4).map V.int := by
    have := cutV_from (ns.map V.int) 4
    rw [← List.map_drop] at this
    exact this
  rw [e4]
  have g4 := g3.new hp4 (.lst ((ns.drop 4).map V.int))
  refine ⟨_, rfl, _, rfl, p4, ns.drop 4, cols, most, rfl, SqL.of upd_same, by rw [List.length_drop]; omega, hc1, hm0, by omega, fun pt rs H5 g5 ht hpt hrs hnd hpn => ?_⟩
  have hti := tableOf_in (ns := ns.drop 4) hc1 hm0 hm1 (by rw [List.length_drop]; omega)
  generalize Cb.tableOf (ns.drop 4) cols most = t at ht hti
  replace g5 := g4.trans g5
  have zero : 0 ≤ sizeLine := Nat.zero_le _
  have htl := hti.size
  -- lines
  refine ⟨_, rfl, _, rfl, pt, rs, t, cols, cap, rfl, ht, fun r hr => ⟨(fields60 hti r hr).1, fun f hf => by have := (fields60 hti r hr).2 f hf; omega⟩, by omega, by omega, hcap2, fun pl H6 g6 hpl hl => ?_⟩
  replace g6 := g5.trans g6
  have hL0 := shown_line hti hc1 hc9 hcap2
  have hLz : (Cb.shownOf t cap).length ≤ 63 := by unfold Cb.shownOf; rw [List.length_map]; exact htl
  generalize Cb.shownOf t cap = ls at hl hL0 hLz
  -- way, sign
  refine ⟨_, rfl, a, ns, 2, rfl, g6.seq hS, _, _, rfl, rfl, (by show (0 : Int) < 10; decide), ?_⟩
  have k5 := Int.emod_nonneg (ns.getD 3 0) (show (5 : Int) ≠ 0 by decide)
  have k5' := Int.emod_lt_of_pos (ns.getD 3 0) (show (0 : Int) < 5 by decide)
  obtain ⟨km, ekm⟩ : ∃ n : Nat, ns.getD 3 0 % 5 = (n : Int) := ⟨_, (Int.toNat_of_nonneg k5).symm⟩
  rw [ekm] at k5'
  have hkm : km < marks.length := by show km < 5; omega
  refine ⟨_, rfl, a, ns, 3, rfl, g6.seq hS, _, _, rfl, rfl, (by show (0 : Int) < 5; decide), ?_⟩
  dsimp only
  rw [ekm]
  refine ⟨_, _, _, rfl, rfl, (by show 5 ≤ sizeLine; rw [sizeLine_eq]; decide), atI_nat (xs := marks) (j := km) (v := marks[km]) (List.getElem?_eq_getElem hkm), ?_⟩
  have hsg := mark_ok (List.getElem?_eq_getElem hkm)
  generalize marks[km] = sg at hsg
  dsimp only [gName]
  generalize hway : ns.getD 2 0 % 10 = way
  -- spoilt, or not
  refine tSeq_mid (fun σ' H' => ∃ (pl' : Addr) (ls' : List (List Nat)) (rv : Option V), σ' = [some (.ref a), some (.int head), some (.int cols), some (.int most), some (.int cap), some (.ref pt), some (.ref pl'), some (.int way), some (.str (tx [sg])), rv, none, none, none, none] ∧ H' pl' = some (.lst (rowV ls')) ∧ ls'.length ≤ 63 ∧ ∀ l ∈ ls', Line1 l) ?_ ?_
  rotate_left
  · intro U hU
    refine ⟨_, rfl, zero, fun p9 hp9 => ⟨_, _, _, rfl, rfl, SqL.of ((same_new hp9 _) _ _ hl), SqL.of upd_same, _, rfl, ?_⟩⟩
    have g9 : Same H6 (upd H6 p9 (.lst [])) := same_new hp9 _
    have hl9 := g9 _ _ hl
    have gS := g6.trans g9
    generalize upd H6 p9 (.lst []) = H9 at g9 hl9 gS
    have plain : U [some (.ref a), some (.int head), some (.int cols), some (.int most), some (.int cap), some (.ref pt), some (.ref pl), some (.int way), some (.str (tx [sg])), none, none, none, none, none] H9 := hU _ _ ⟨pl, ls, none, rfl, hl9, hLz, fun l h => (hL0 l h).one⟩
    refine ite2 (fun c => ?_) (fun c => plain)
    refine ⟨_, rfl, _, _, rfl, rfl, _, rfl, ?_⟩
    refine ite2 (fun c2 => ?_) (fun c2 => plain)
    have hlv : (rowV ls).length = ls.length := List.length_map _
    have hne : 0 < ls.length := by
      refine List.length_pos_iff.mpr fun z => ?_
      rw [z] at c
      exact absurd c (by decide)
    refine ⟨_, rfl, a, ns, 2, rfl, gS.seq hS, _, _, rfl, rfl, ⟨by decide, by decide⟩, _, rfl, _, _, rfl, .inl (SqL.of hl9), _, _, rfl, rfl, (by show (0 : Int) < (((rowV ls).length : Nat) : Int); rw [hlv]; omega), ?_⟩
    have hlv2 : (ls.map fun l => V.str (tx l)).length = ls.length := List.length_map _
    dsimp only
    rw [hlv2]
    have mr := Int.emod_nonneg (ns.getD 2 0 / 10) (show ((ls.length : Nat) : Int) ≠ 0 by omega)
    have mr' := Int.emod_lt_of_pos (ns.getD 2 0 / 10) (show (0 : Int) < ((ls.length : Nat) : Int) by omega)
    obtain ⟨kr, ekr⟩ : ∃ n : Nat, ns.getD 2 0 / 10 % ((ls.length : Nat) : Int) = (n : Int) := ⟨_, (Int.toNat_of_nonneg mr).symm⟩
    rw [ekr]
    rw [ekr] at mr'
    refine ⟨_, rfl, _, rfl, _, rfl, _, rfl, a, ns, 3, rfl, gS.seq hS, _, _, rfl, rfl, ⟨by decide, by decide⟩, _, rfl, pl, ls, way, kr, _, [sg], rfl, hl9, hLz, by omega, hL0, hsg, fun q9 ls' H10 s10 hq9 hz9 hl10 => ?_⟩
    exact hU _ _ ⟨q9, ls', _, rfl, hq9, hz9, hl10⟩
  rintro σ' H7 ⟨pl', ls', rv, rfl, hl7, hz7, hL1⟩
  clear hl hL0 hLz g6
  have hlen9 : ∀ l ∈ ls', l.length ≤ 9000 := fun l h => by have := (hL1 l h).len; omega
  obtain ⟨hsg1, h200⟩ := Line1.rows hL1
  have hgood := good_is hsg1 h200
  -- handed
  refine ⟨_, rfl, _, _, rfl, .inl (SqL.of hl7), fun ph hph => ?_⟩
  have g8 : Same H7 (upd H7 ph (.lst (rowV ls'))) := same_new hph _
  have hh8 : (upd H7 ph (.lst (rowV ls'))) ph = some (.lst (rowV ls')) := upd_same
  have hl8 := g8 _ _ hl7
  dsimp only [gName]
  generalize upd H7 ph (.lst (rowV ls')) = H8 at g8 hh8 hl8
  -- read
  refine tSeq_mid (fun σ' H' => σ' = [some (.ref a), some (.int head), some (.int cols), some (.int most), some (.int cap), some (.ref pt), some (.ref pl'), some (.int way), some (.str (tx [sg])), rv, some (.ref ph), some .non, none, none] ∧ H' = H8) ?_ (fun U hU => hU _ _ ⟨rfl, rfl⟩)
  rintro σ' H8' ⟨rfl, e8⟩
  have e8' := e8.symm
  subst e8'
  refine tSeq_mid (fun σ' H' => σ' = [some (.ref a), some (.int head), some (.int cols), some (.int most), some (.int cap), some (.ref pt), some (.ref pl'), some (.int way), some (.str (tx [sg])), rv, some (.ref ph), some .non, some (.bl false), none] ∧ H' = H8) ?_ (fun U hU => hU _ _ ⟨rfl, rfl⟩)
  rintro σ' H8' ⟨rfl, e8⟩
  have e8' := e8.symm
  subst e8'
  refine tSeq_mid (fun σ' H' => ∃ fv, σ' = [some (.ref a), some (.int head), some (.int cols), some (.int most), some (.int cap), some (.ref pt), some (.ref pl'), some (.int way), some (.str (tx [sg])), rv, some (.ref ph), some fv, some (.bl (!isSheetN (rowsOf ls'))), none] ∧ Same H8 H' ∧ (isSheetN (rowsOf ls') = true → ∃ pf rf, fv = .ref pf ∧ FoundAt H' pf rf (rowsOf ls'))) ?_ ?_
  rotate_left
  · intro U hU
    let EX : XK := fun C d H' => C = .ref cN ∧ isSheetN (rowsOf ls') = false ∧ Same H8 H'
    refine ⟨_, rfl, EX, ?_, ph, ls', rfl, hh8, by omega, hlen9, fun h H' s' => ⟨rfl, h, s'⟩, fun h v H' s' hv => ?_⟩
    · rintro C d H' ⟨rfl, h, s'⟩ ea _
      refine .inl ⟨Z.nn, hU _ _ ⟨.non, ?_, s', fun z => ?_⟩⟩
      · rw [h]
        rfl
      · rw [h] at z
        cases z
    · unfold readTold at hv
      obtain ⟨pf, rf, rfl, hf⟩ := found_at (Rep.same (fresh_sub H8 H') hv)
      refine hU _ _ ⟨.ref pf, ?_, s', fun _ => ⟨pf, rf, rfl, hf⟩⟩
      rw [h]
      rfl
  rintro σ' H9 ⟨fv, rfl, g9, hfound⟩
  have hh9 := g9 _ _ hh8
  have hl9 := g9 _ _ hl8
  have big : (linesD ls').size ≤ 50000 := by rw [size_lines]; omega
  refine ⟨_, rfl, _, rfl, linesD ls', _, _, rfl, rep_lines hh9, rep_lines hl9, big, fun H10 g10 => ⟨_, rfl, iteF ?_⟩⟩
  have hh10 := g10 _ _ hh9
  have hl10 := g10 _ _ hl9
  have hz7' : ls'.length ≤ 1000 := by omega
  -- refused or not good
  refine ⟨_, rfl, _, rfl, ?_⟩
  cases hsh : isSheetN (rowsOf ls') with
  | false =>
    refine iteT (iteT ?_)
    refine ⟨_, rfl, _, rfl, iteT ?_⟩
    refine ⟨_, rfl, pl', ls', rfl, hl10, hz7, hlen9, fun H11 g11 => ⟨_, rfl, _, rfl, ?_⟩⟩
    rw [hgood, hsh]
    refine iteT ⟨_, rfl, ph, ls', rfl, g11 _ _ hh10, hz7', hlen9, fun H12 g12 => ?_⟩
    rw [hsh]
    exact q H12
  | true =>
    refine iteF ⟨_, rfl, pl', ls', rfl, hl10, hz7, hlen9, fun H11 g11 => ⟨_, rfl, ?_⟩⟩
    rw [hgood, hsh]
    refine iteF ?_
    obtain ⟨pf, rf, rfl, hf⟩ := hfound hsh
    have hf11 := (hf.same g10).same g11
    have S := sheet_of hsh
    refine ⟨_, rfl, pf, rf, rowsOf ls', rfl, hf11, _, rfl, iteF ?_⟩
    have hn9 : ((rowsOf ls').headD []).length ≤ 900 := few_parts hL1 S.cell
    refine ⟨_, rfl, pf, rf, rowsOf ls', ((rowsOf ls').headD []).length, rfl, hf11, fun r hr => ⟨S.len r hr, h200 r hr⟩, by unfold rowsOf; rw [List.length_map]; exact hz7, hn9, capN_two S.cell, fun qa H12 g12 hqa => ?_⟩
    have hla := g12 _ _ (g11 _ _ hl10)
    rw [again_lines hsh h200] at hqa
    refine ⟨_, rfl, _, _, _, _, rfl, TyOf.lst hqa, kit_same _ _, _, rfl, iteT ?_⟩
    refine ⟨_, rfl, _, rfl, linesD ls', _, _, rfl, rep_lines hqa, rep_lines hla, big, fun H13 g13 => ?_⟩
    exact q H13
end
theorem all_mk {l : PySem.W.OpenLaw} {w : World} {K : PySem.W.Frag} {h : Heap} {mg : Str → Option Value} {fa : Addr} (X : K.In h) (G : h.Ns mainGlobals mg) (hfa : mg "law" = some (.ref fa))
    {fis_field_sign : Addr} {odis_field_sign anis_field_sign : Option Addr} {slis_field_sign : Array (Option Value)} {ocis_field_sign kVis_field_sign dcis_field_sign pmis_field_sign cdis_field_sign ctis_field_sign : Value}
    {fis_column_sign : Addr} {odis_column_sign anis_column_sign : Option Addr} {slis_column_sign : Array (Option Value)} {ocis_column_sign kVis_column_sign dcis_column_sign pmis_column_sign cdis_column_sign ctis_column_sign : Value}
    {fcolumns_of : Addr} {odcolumns_of ancolumns_of : Option Addr} {slcolumns_of : Array (Option Value)} {occolumns_of kVcolumns_of dccolumns_of pmcolumns_of cdcolumns_of ctcolumns_of : Value}
    {fis_cut : Addr} {odis_cut anis_cut : Option Addr} {slis_cut : Array (Option Value)} {ocis_cut kVis_cut dcis_cut pmis_cut cdis_cut ctis_cut : Value}
    {ftold_by : Addr} {odtold_by antold_by : Option Addr} {sltold_by : Array (Option Value)} {octold_by kVtold_by dctold_by pmtold_by cdtold_by cttold_by : Value}
    {ftold_by_row : Addr} {odtold_by_row antold_by_row : Option Addr} {sltold_by_row : Array (Option Value)} {octold_by_row kVtold_by_row dctold_by_row pmtold_by_row cdtold_by_row cttold_by_row : Value}
    {fis_cell : Addr} {odis_cell anis_cell : Option Addr} {slis_cell : Array (Option Value)} {ocis_cell kVis_cell dcis_cell pmis_cell cdis_cell ctis_cell : Value}
    {fhas_cells_alone : Addr} {odhas_cells_alone anhas_cells_alone : Option Addr} {slhas_cells_alone : Array (Option Value)} {ochas_cells_alone kVhas_cells_alone dchas_cells_alone pmhas_cells_alone cdhas_cells_alone cthas_cells_alone : Value}
    {fhas_cut : Addr} {odhas_cut anhas_cut : Option Addr} {slhas_cut : Array (Option Value)} {ochas_cut kVhas_cut dchas_cut pmhas_cut cdhas_cut cthas_cut : Value}
    {fwidth_of_cells : Addr} {odwidth_of_cells anwidth_of_cells : Option Addr} {slwidth_of_cells : Array (Option Value)} {ocwidth_of_cells kVwidth_of_cells dcwidth_of_cells pmwidth_of_cells cdwidth_of_cells ctwidth_of_cells : Value}
    {fis_column : Addr} {odis_column anis_column : Option Addr} {slis_column : Array (Option Value)} {ocis_column kVis_column dcis_column pmis_column cdis_column ctis_column : Value}
    {fshare_a_cap : Addr} {odshare_a_cap anshare_a_cap : Option Addr} {slshare_a_cap : Array (Option Value)} {ocshare_a_cap kVshare_a_cap dcshare_a_cap pmshare_a_cap cdshare_a_cap ctshare_a_cap : Value}
    {fis_sheet : Addr} {odis_sheet anis_sheet : Option Addr} {slis_sheet : Array (Option Value)} {ocis_sheet kVis_sheet dcis_sheet pmis_sheet cdis_sheet ctis_sheet : Value}
    {fread : Addr} {odread anread : Option Addr} {slread : Array (Option Value)} {ocread kVread dcread pmread cdread ctread : Value}
    {f_law_whole : Addr} {od_law_whole an_law_whole : Option Addr} {sl_law_whole : Array (Option Value)} {oc_law_whole kV_law_whole dc_law_whole pm_law_whole cd_law_whole ct_law_whole : Value}
    {f_law_at : Addr} {od_law_at an_law_at : Option Addr} {sl_law_at : Array (Option Value)} {oc_law_at kV_law_at dc_law_at pm_law_at cd_law_at ct_law_at : Value}
    {f_law_alike : Addr} {od_law_alike an_law_alike : Option Addr} {sl_law_alike : Array (Option Value)} {oc_law_alike kV_law_alike dc_law_alike pm_law_alike cd_law_alike ct_law_alike : Value}
    {f_law_field_of : Addr} {od_law_field_of an_law_field_of : Option Addr} {sl_law_field_of : Array (Option Value)} {oc_law_field_of kV_law_field_of dc_law_field_of pm_law_field_of cd_law_field_of ct_law_field_of : Value}
    {f_law_table_of : Addr} {od_law_table_of an_law_table_of : Option Addr} {sl_law_table_of : Array (Option Value)} {oc_law_table_of kV_law_table_of dc_law_table_of pm_law_table_of cd_law_table_of ct_law_table_of : Value}
    {f_law_width_of : Addr} {od_law_width_of an_law_width_of : Option Addr} {sl_law_width_of : Array (Option Value)} {oc_law_width_of kV_law_width_of dc_law_width_of pm_law_width_of cd_law_width_of ct_law_width_of : Value}
    {f_law_written : Addr} {od_law_written an_law_written : Option Addr} {sl_law_written : Array (Option Value)} {oc_law_written kV_law_written dc_law_written pm_law_written cd_law_written ct_law_written : Value}
    {f_law_spoilt : Addr} {od_law_spoilt an_law_spoilt : Option Addr} {sl_law_spoilt : Array (Option Value)} {oc_law_spoilt kV_law_spoilt dc_law_spoilt pm_law_spoilt cd_law_spoilt ct_law_spoilt : Value}
    {f_law_part_good : Addr} {od_law_part_good an_law_part_good : Option Addr} {sl_law_part_good : Array (Option Value)} {oc_law_part_good kV_law_part_good dc_law_part_good pm_law_part_good cd_law_part_good ct_law_part_good : Value}
    {f_law_column_good : Addr} {od_law_column_good an_law_column_good : Option Addr} {sl_law_column_good : Array (Option Value)} {oc_law_column_good kV_law_column_good dc_law_column_good pm_law_column_good cd_law_column_good ct_law_column_good : Value}
    {f_law_good : Addr} {od_law_good an_law_good : Option Addr} {sl_law_good : Array (Option Value)} {oc_law_good kV_law_good dc_law_good pm_law_good cd_law_good ct_law_good : Value}
    {f_law_are_fields : Addr} {od_law_are_fields an_law_are_fields : Option Addr} {sl_law_are_fields : Array (Option Value)} {oc_law_are_fields kV_law_are_fields dc_law_are_fields pm_law_are_fields cd_law_are_fields ct_law_are_fields : Value}
    {f_law_written_again : Addr} {od_law_written_again an_law_written_again : Option Addr} {sl_law_written_again : Array (Option Value)} {oc_law_written_again kV_law_written_again dc_law_written_again pm_law_written_again cd_law_written_again ct_law_written_again : Value}
    {f_law_refused_by_any : Addr} {od_law_refused_by_any an_law_refused_by_any : Option Addr} {sl_law_refused_by_any : Array (Option Value)} {oc_law_refused_by_any kV_law_refused_by_any dc_law_refused_by_any pm_law_refused_by_any cd_law_refused_by_any ct_law_refused_by_any : Value}
    {flaw : Addr} {odlaw anlaw : Option Addr} {sllaw : Array (Option Value)} {oclaw kVlaw dclaw pmlaw cdlaw ctlaw : Value}
    {tBLANK : Tok}
    {tBAR : Tok}
    {tCUT_MARK : Tok}
    {tLAST_SIGN : Tok}
    {tPERCENT_NUMBER : Tok}
    {tLEAST_WIDTH : Tok}
    {tWHOLE : Tok}
    {tCUT : Tok}
    {cSheetError : Addr}
    {cNoCap : Addr}
    {cNoField : Addr}
    {cNoSheet : Addr}
    (ais_field_sign : PySem.W.nsIn K mainGlobals "is_field_sign" = some (some (.ref fis_field_sign))) (lis_field_sign : K.lookup fis_field_sign = some ⟨ocis_field_sign, odis_field_sign, .func (PySem.W.fnOf "is_field_sign" "is_field_sign" (defArgs sis_field_sign) (defBody sis_field_sign) (defScope sis_field_sign) .none kVis_field_sign dcis_field_sign pmis_field_sign anis_field_sign cdis_field_sign ctis_field_sign), slis_field_sign⟩) (cis_field_sign : PySem.W.codeIn K cdis_field_sign "is_field_sign" = true) (kis_field_sign : PySem.W.keepIn K (.ref fis_field_sign) = true)
    (ais_column_sign : PySem.W.nsIn K mainGlobals "is_column_sign" = some (some (.ref fis_column_sign))) (lis_column_sign : K.lookup fis_column_sign = some ⟨ocis_column_sign, odis_column_sign, .func (PySem.W.fnOf "is_column_sign" "is_column_sign" (defArgs sis_column_sign) (defBody sis_column_sign) (defScope sis_column_sign) .none kVis_column_sign dcis_column_sign pmis_column_sign anis_column_sign cdis_column_sign ctis_column_sign), slis_column_sign⟩) (cis_column_sign : PySem.W.codeIn K cdis_column_sign "is_column_sign" = true) (kis_column_sign : PySem.W.keepIn K (.ref fis_column_sign) = true)
    (acolumns_of : PySem.W.nsIn K mainGlobals "columns_of" = some (some (.ref fcolumns_of))) (lcolumns_of : K.lookup fcolumns_of = some ⟨occolumns_of, odcolumns_of, .func (PySem.W.fnOf "columns_of" "columns_of" (defArgs scolumns_of) (defBody scolumns_of) (defScope scolumns_of) .none kVcolumns_of dccolumns_of pmcolumns_of ancolumns_of cdcolumns_of ctcolumns_of), slcolumns_of⟩) (ccolumns_of : PySem.W.codeIn K cdcolumns_of "columns_of" = true) (kcolumns_of : PySem.W.keepIn K (.ref fcolumns_of) = true)
    (ais_cut : PySem.W.nsIn K mainGlobals "is_cut" = some (some (.ref fis_cut))) (lis_cut : K.lookup fis_cut = some ⟨ocis_cut, odis_cut, .func (PySem.W.fnOf "is_cut" "is_cut" (defArgs sis_cut) (defBody sis_cut) (defScope sis_cut) .none kVis_cut dcis_cut pmis_cut anis_cut cdis_cut ctis_cut), slis_cut⟩) (cis_cut : PySem.W.codeIn K cdis_cut "is_cut" = true) (kis_cut : PySem.W.keepIn K (.ref fis_cut) = true)
    (atold_by : PySem.W.nsIn K mainGlobals "told_by" = some (some (.ref ftold_by))) (ltold_by : K.lookup ftold_by = some ⟨octold_by, odtold_by, .func (PySem.W.fnOf "told_by" "told_by" (defArgs stold_by) (defBody stold_by) (defScope stold_by) .none kVtold_by dctold_by pmtold_by antold_by cdtold_by cttold_by), sltold_by⟩) (ctold_by : PySem.W.codeIn K cdtold_by "told_by" = true) (ktold_by : PySem.W.keepIn K (.ref ftold_by) = true)
    (atold_by_row : PySem.W.nsIn K mainGlobals "told_by_row" = some (some (.ref ftold_by_row))) (ltold_by_row : K.lookup ftold_by_row = some ⟨octold_by_row, odtold_by_row, .func (PySem.W.fnOf "told_by_row" "told_by_row" (defArgs stold_by_row) (defBody stold_by_row) (defScope stold_by_row) .none kVtold_by_row dctold_by_row pmtold_by_row antold_by_row cdtold_by_row cttold_by_row), sltold_by_row⟩) (ctold_by_row : PySem.W.codeIn K cdtold_by_row "told_by_row" = true) (ktold_by_row : PySem.W.keepIn K (.ref ftold_by_row) = true)
    (ais_cell : PySem.W.nsIn K mainGlobals "is_cell" = some (some (.ref fis_cell))) (lis_cell : K.lookup fis_cell = some ⟨ocis_cell, odis_cell, .func (PySem.W.fnOf "is_cell" "is_cell" (defArgs sis_cell) (defBody sis_cell) (defScope sis_cell) .none kVis_cell dcis_cell pmis_cell anis_cell cdis_cell ctis_cell), slis_cell⟩) (cis_cell : PySem.W.codeIn K cdis_cell "is_cell" = true) (kis_cell : PySem.W.keepIn K (.ref fis_cell) = true)
    (ahas_cells_alone : PySem.W.nsIn K mainGlobals "has_cells_alone" = some (some (.ref fhas_cells_alone))) (lhas_cells_alone : K.lookup fhas_cells_alone = some ⟨ochas_cells_alone, odhas_cells_alone, .func (PySem.W.fnOf "has_cells_alone" "has_cells_alone" (defArgs shas_cells_alone) (defBody shas_cells_alone) (defScope shas_cells_alone) .none kVhas_cells_alone dchas_cells_alone pmhas_cells_alone anhas_cells_alone cdhas_cells_alone cthas_cells_alone), slhas_cells_alone⟩) (chas_cells_alone : PySem.W.codeIn K cdhas_cells_alone "has_cells_alone" = true) (khas_cells_alone : PySem.W.keepIn K (.ref fhas_cells_alone) = true)
    (ahas_cut : PySem.W.nsIn K mainGlobals "has_cut" = some (some (.ref fhas_cut))) (lhas_cut : K.lookup fhas_cut = some ⟨ochas_cut, odhas_cut, .func (PySem.W.fnOf "has_cut" "has_cut" (defArgs shas_cut) (defBody shas_cut) (defScope shas_cut) .none kVhas_cut dchas_cut pmhas_cut anhas_cut cdhas_cut cthas_cut), slhas_cut⟩) (chas_cut : PySem.W.codeIn K cdhas_cut "has_cut" = true) (khas_cut : PySem.W.keepIn K (.ref fhas_cut) = true)
    (awidth_of_cells : PySem.W.nsIn K mainGlobals "width_of_cells" = some (some (.ref fwidth_of_cells))) (lwidth_of_cells : K.lookup fwidth_of_cells = some ⟨ocwidth_of_cells, odwidth_of_cells, .func (PySem.W.fnOf "width_of_cells" "width_of_cells" (defArgs swidth_of_cells) (defBody swidth_of_cells) (defScope swidth_of_cells) .none kVwidth_of_cells dcwidth_of_cells pmwidth_of_cells anwidth_of_cells cdwidth_of_cells ctwidth_of_cells), slwidth_of_cells⟩) (cwidth_of_cells : PySem.W.codeIn K cdwidth_of_cells "width_of_cells" = true) (kwidth_of_cells : PySem.W.keepIn K (.ref fwidth_of_cells) = true)
    (ais_column : PySem.W.nsIn K mainGlobals "is_column" = some (some (.ref fis_column))) (lis_column : K.lookup fis_column = some ⟨ocis_column, odis_column, .func (PySem.W.fnOf "is_column" "is_column" (defArgs sis_column) (defBody sis_column) (defScope sis_column) .none kVis_column dcis_column pmis_column anis_column cdis_column ctis_column), slis_column⟩) (cis_column : PySem.W.codeIn K cdis_column "is_column" = true) (kis_column : PySem.W.keepIn K (.ref fis_column) = true)
    (ashare_a_cap : PySem.W.nsIn K mainGlobals "share_a_cap" = some (some (.ref fshare_a_cap))) (lshare_a_cap : K.lookup fshare_a_cap = some ⟨ocshare_a_cap, odshare_a_cap, .func (PySem.W.fnOf "share_a_cap" "share_a_cap" (defArgs sshare_a_cap) (defBody sshare_a_cap) (defScope sshare_a_cap) .none kVshare_a_cap dcshare_a_cap pmshare_a_cap anshare_a_cap cdshare_a_cap ctshare_a_cap), slshare_a_cap⟩) (cshare_a_cap : PySem.W.codeIn K cdshare_a_cap "share_a_cap" = true) (kshare_a_cap : PySem.W.keepIn K (.ref fshare_a_cap) = true)
    (ais_sheet : PySem.W.nsIn K mainGlobals "is_sheet" = some (some (.ref fis_sheet))) (lis_sheet : K.lookup fis_sheet = some ⟨ocis_sheet, odis_sheet, .func (PySem.W.fnOf "is_sheet" "is_sheet" (defArgs sis_sheet) (defBody sis_sheet) (defScope sis_sheet) .none kVis_sheet dcis_sheet pmis_sheet anis_sheet cdis_sheet ctis_sheet), slis_sheet⟩) (cis_sheet : PySem.W.codeIn K cdis_sheet "is_sheet" = true) (kis_sheet : PySem.W.keepIn K (.ref fis_sheet) = true)
    (aread : PySem.W.nsIn K mainGlobals "read" = some (some (.ref fread))) (lread : K.lookup fread = some ⟨ocread, odread, .func (PySem.W.fnOf "read" "read" (defArgs sread) (defBody sread) (defScope sread) .none kVread dcread pmread anread cdread ctread), slread⟩) (cread : PySem.W.codeIn K cdread "read" = true) (kread : PySem.W.keepIn K (.ref fread) = true)
    (a_law_whole : PySem.W.nsIn K mainGlobals "_law_whole" = some (some (.ref f_law_whole))) (l_law_whole : K.lookup f_law_whole = some ⟨oc_law_whole, od_law_whole, .func (PySem.W.fnOf "_law_whole" "_law_whole" (defArgs s_law_whole) (defBody s_law_whole) (defScope s_law_whole) .none kV_law_whole dc_law_whole pm_law_whole an_law_whole cd_law_whole ct_law_whole), sl_law_whole⟩) (c_law_whole : PySem.W.codeIn K cd_law_whole "_law_whole" = true) (k_law_whole : PySem.W.keepIn K (.ref f_law_whole) = true)
    (a_law_at : PySem.W.nsIn K mainGlobals "_law_at" = some (some (.ref f_law_at))) (l_law_at : K.lookup f_law_at = some ⟨oc_law_at, od_law_at, .func (PySem.W.fnOf "_law_at" "_law_at" (defArgs s_law_at) (defBody s_law_at) (defScope s_law_at) .none kV_law_at dc_law_at pm_law_at an_law_at cd_law_at ct_law_at), sl_law_at⟩) (c_law_at : PySem.W.codeIn K cd_law_at "_law_at" = true) (k_law_at : PySem.W.keepIn K (.ref f_law_at) = true)
    (a_law_alike : PySem.W.nsIn K mainGlobals "_law_alike" = some (some (.ref f_law_alike))) (l_law_alike : K.lookup f_law_alike = some ⟨oc_law_alike, od_law_alike, .func (PySem.W.fnOf "_law_alike" "_law_alike" (defArgs s_law_alike) (defBody s_law_alike) (defScope s_law_alike) .none kV_law_alike dc_law_alike pm_law_alike an_law_alike cd_law_alike ct_law_alike), sl_law_alike⟩) (c_law_alike : PySem.W.codeIn K cd_law_alike "_law_alike" = true) (k_law_alike : PySem.W.keepIn K (.ref f_law_alike) = true)
    (a_law_field_of : PySem.W.nsIn K mainGlobals "_law_field_of" = some (some (.ref f_law_field_of))) (l_law_field_of : K.lookup f_law_field_of = some ⟨oc_law_field_of, od_law_field_of, .func (PySem.W.fnOf "_law_field_of" "_law_field_of" (defArgs s_law_field_of) (defBody s_law_field_of) (defScope s_law_field_of) .none kV_law_field_of dc_law_field_of pm_law_field_of an_law_field_of cd_law_field_of ct_law_field_of), sl_law_field_of⟩) (c_law_field_of : PySem.W.codeIn K cd_law_field_of "_law_field_of" = true) (k_law_field_of : PySem.W.keepIn K (.ref f_law_field_of) = true)
    (a_law_table_of : PySem.W.nsIn K mainGlobals "_law_table_of" = some (some (.ref f_law_table_of))) (l_law_table_of : K.lookup f_law_table_of = some ⟨oc_law_table_of, od_law_table_of, .func (PySem.W.fnOf "_law_table_of" "_law_table_of" (defArgs s_law_table_of) (defBody s_law_table_of) (defScope s_law_table_of) .none kV_law_table_of dc_law_table_of pm_law_table_of an_law_table_of cd_law_table_of ct_law_table_of), sl_law_table_of⟩) (c_law_table_of : PySem.W.codeIn K cd_law_table_of "_law_table_of" = true) (k_law_table_of : PySem.W.keepIn K (.ref f_law_table_of) = true)
    (a_law_width_of : PySem.W.nsIn K mainGlobals "_law_width_of" = some (some (.ref f_law_width_of))) (l_law_width_of : K.lookup f_law_width_of = some ⟨oc_law_width_of, od_law_width_of, .func (PySem.W.fnOf "_law_width_of" "_law_width_of" (defArgs s_law_width_of) (defBody s_law_width_of) (defScope s_law_width_of) .none kV_law_width_of dc_law_width_of pm_law_width_of an_law_width_of cd_law_width_of ct_law_width_of), sl_law_width_of⟩) (c_law_width_of : PySem.W.codeIn K cd_law_width_of "_law_width_of" = true) (k_law_width_of : PySem.W.keepIn K (.ref f_law_width_of) = true)
    (a_law_written : PySem.W.nsIn K mainGlobals "_law_written" = some (some (.ref f_law_written))) (l_law_written : K.lookup f_law_written = some ⟨oc_law_written, od_law_written, .func (PySem.W.fnOf "_law_written" "_law_written" (defArgs s_law_written) (defBody s_law_written) (defScope s_law_written) .none kV_law_written dc_law_written pm_law_written an_law_written cd_law_written ct_law_written), sl_law_written⟩) (c_law_written : PySem.W.codeIn K cd_law_written "_law_written" = true) (k_law_written : PySem.W.keepIn K (.ref f_law_written) = true)
    (a_law_spoilt : PySem.W.nsIn K mainGlobals "_law_spoilt" = some (some (.ref f_law_spoilt))) (l_law_spoilt : K.lookup f_law_spoilt = some ⟨oc_law_spoilt, od_law_spoilt, .func (PySem.W.fnOf "_law_spoilt" "_law_spoilt" (defArgs s_law_spoilt) (defBody s_law_spoilt) (defScope s_law_spoilt) .none kV_law_spoilt dc_law_spoilt pm_law_spoilt an_law_spoilt cd_law_spoilt ct_law_spoilt), sl_law_spoilt⟩) (c_law_spoilt : PySem.W.codeIn K cd_law_spoilt "_law_spoilt" = true) (k_law_spoilt : PySem.W.keepIn K (.ref f_law_spoilt) = true)
    (a_law_part_good : PySem.W.nsIn K mainGlobals "_law_part_good" = some (some (.ref f_law_part_good))) (l_law_part_good : K.lookup f_law_part_good = some ⟨oc_law_part_good, od_law_part_good, .func (PySem.W.fnOf "_law_part_good" "_law_part_good" (defArgs s_law_part_good) (defBody s_law_part_good) (defScope s_law_part_good) .none kV_law_part_good dc_law_part_good pm_law_part_good an_law_part_good cd_law_part_good ct_law_part_good), sl_law_part_good⟩) (c_law_part_good : PySem.W.codeIn K cd_law_part_good "_law_part_good" = true) (k_law_part_good : PySem.W.keepIn K (.ref f_law_part_good) = true)
    (a_law_column_good : PySem.W.nsIn K mainGlobals "_law_column_good" = some (some (.ref f_law_column_good))) (l_law_column_good : K.lookup f_law_column_good = some ⟨oc_law_column_good, od_law_column_good, .func (PySem.W.fnOf "_law_column_good" "_law_column_good" (defArgs s_law_column_good) (defBody s_law_column_good) (defScope s_law_column_good) .none kV_law_column_good dc_law_column_good pm_law_column_good an_law_column_good cd_law_column_good ct_law_column_good), sl_law_column_good⟩) (c_law_column_good : PySem.W.codeIn K cd_law_column_good "_law_column_good" = true) (k_law_column_good : PySem.W.keepIn K (.ref f_law_column_good) = true)
    (a_law_good : PySem.W.nsIn K mainGlobals "_law_good" = some (some (.ref f_law_good))) (l_law_good : K.lookup f_law_good = some ⟨oc_law_good, od_law_good, .func (PySem.W.fnOf "_law_good" "_law_good" (defArgs s_law_good) (defBody s_law_good) (defScope s_law_good) .none kV_law_good dc_law_good pm_law_good an_law_good cd_law_good ct_law_good), sl_law_good⟩) (c_law_good : PySem.W.codeIn K cd_law_good "_law_good" = true) (k_law_good : PySem.W.keepIn K (.ref f_law_good) = true)
    (a_law_are_fields : PySem.W.nsIn K mainGlobals "_law_are_fields" = some (some (.ref f_law_are_fields))) (l_law_are_fields : K.lookup f_law_are_fields = some ⟨oc_law_are_fields, od_law_are_fields, .func (PySem.W.fnOf "_law_are_fields" "_law_are_fields" (defArgs s_law_are_fields) (defBody s_law_are_fields) (defScope s_law_are_fields) .none kV_law_are_fields dc_law_are_fields pm_law_are_fields an_law_are_fields cd_law_are_fields ct_law_are_fields), sl_law_are_fields⟩) (c_law_are_fields : PySem.W.codeIn K cd_law_are_fields "_law_are_fields" = true) (k_law_are_fields : PySem.W.keepIn K (.ref f_law_are_fields) = true)
    (a_law_written_again : PySem.W.nsIn K mainGlobals "_law_written_again" = some (some (.ref f_law_written_again))) (l_law_written_again : K.lookup f_law_written_again = some ⟨oc_law_written_again, od_law_written_again, .func (PySem.W.fnOf "_law_written_again" "_law_written_again" (defArgs s_law_written_again) (defBody s_law_written_again) (defScope s_law_written_again) .none kV_law_written_again dc_law_written_again pm_law_written_again an_law_written_again cd_law_written_again ct_law_written_again), sl_law_written_again⟩) (c_law_written_again : PySem.W.codeIn K cd_law_written_again "_law_written_again" = true) (k_law_written_again : PySem.W.keepIn K (.ref f_law_written_again) = true)
    (a_law_refused_by_any : PySem.W.nsIn K mainGlobals "_law_refused_by_any" = some (some (.ref f_law_refused_by_any))) (l_law_refused_by_any : K.lookup f_law_refused_by_any = some ⟨oc_law_refused_by_any, od_law_refused_by_any, .func (PySem.W.fnOf "_law_refused_by_any" "_law_refused_by_any" (defArgs s_law_refused_by_any) (defBody s_law_refused_by_any) (defScope s_law_refused_by_any) .none kV_law_refused_by_any dc_law_refused_by_any pm_law_refused_by_any an_law_refused_by_any cd_law_refused_by_any ct_law_refused_by_any), sl_law_refused_by_any⟩) (c_law_refused_by_any : PySem.W.codeIn K cd_law_refused_by_any "_law_refused_by_any" = true) (k_law_refused_by_any : PySem.W.keepIn K (.ref f_law_refused_by_any) = true)
    (alaw : PySem.W.nsIn K mainGlobals "law" = some (some (.ref flaw))) (llaw : K.lookup flaw = some ⟨oclaw, odlaw, .func (PySem.W.fnOf "law" "law" (defArgs slaw) (defBody slaw) (defScope slaw) .none kVlaw dclaw pmlaw anlaw cdlaw ctlaw), sllaw⟩) (claw : PySem.W.codeIn K cdlaw "law" = true) (klaw : PySem.W.keepIn K (.ref flaw) = true)
    (zBLANK : PySem.W.nsIn K mainGlobals "BLANK" = some (some (.str " " tBLANK)))
    (zBAR : PySem.W.nsIn K mainGlobals "BAR" = some (some (.str "|" tBAR)))
    (zCUT_MARK : PySem.W.nsIn K mainGlobals "CUT_MARK" = some (some (.str "~" tCUT_MARK)))
    (zLAST_SIGN : PySem.W.nsIn K mainGlobals "LAST_SIGN" = some (some (.str "~" tLAST_SIGN)))
    (zPERCENT_NUMBER : PySem.W.nsIn K mainGlobals "PERCENT_NUMBER" = some (some (.int 37 tPERCENT_NUMBER)))
    (zLEAST_WIDTH : PySem.W.nsIn K mainGlobals "LEAST_WIDTH" = some (some (.int 1 tLEAST_WIDTH)))
    (zWHOLE : PySem.W.nsIn K mainGlobals "WHOLE" = some (some (.str "whole" tWHOLE)))
    (zCUT : PySem.W.nsIn K mainGlobals "CUT" = some (some (.str "cut" tCUT)))
    (ylen : PySem.W.nsIn K mainGlobals "len" = some none)
    (yord : PySem.W.nsIn K mainGlobals "ord" = some none)
    (yrange : PySem.W.nsIn K mainGlobals "range" = some none)
    (ymax : PySem.W.nsIn K mainGlobals "max" = some none)
    (ymin : PySem.W.nsIn K mainGlobals "min" = some none)
    (yint : PySem.W.nsIn K mainGlobals "int" = some none)
    (yisinstance : PySem.W.nsIn K mainGlobals "isinstance" = some none)
    (ystr : PySem.W.nsIn K mainGlobals "str" = some none)
    (ybool : PySem.W.nsIn K mainGlobals "bool" = some none)
    (ylist : PySem.W.nsIn K mainGlobals "list" = some none)
    (ytuple : PySem.W.nsIn K mainGlobals "tuple" = some none)
    (yall : PySem.W.nsIn K mainGlobals "all" = some none)
    (yany : PySem.W.nsIn K mainGlobals "any" = some none)
    (yzip : PySem.W.nsIn K mainGlobals "zip" = some none)
    (yenumerate : PySem.W.nsIn K mainGlobals "enumerate" = some none)
    (nSheetError : PySem.W.nsIn K mainGlobals "SheetError" = some (some (.ref cSheetError)))
    (nNoCap : PySem.W.nsIn K mainGlobals "NoCap" = some (some (.ref cNoCap)))
    (nNoField : PySem.W.nsIn K mainGlobals "NoField" = some (some (.ref cNoField)))
    (nNoSheet : PySem.W.nsIn K mainGlobals "NoSheet" = some (some (.ref cNoSheet)))
    (qNoSheet : PySem.W.excIn K cNoSheet [.type "ValueError", .type "Exception", .type "BaseException", .type "object"] "ValueError.__new__" = true)
    (xnn : PySem.W.exmOne K (.ref cNoSheet) (.ref cNoSheet) = some true)
    (xns : PySem.W.exmOne K (.ref cNoSheet) (.ref cSheetError) = some true)
    (spC : PySem.W.specialIn K (.builtin "object.__class__") "__get__" = some (some (.builtin "getset_descriptor.__get__")))
    (tkC : PySem.W.takesIn K (.builtin "object.__class__") = some true)
    (gaNoSheet : PySem.W.findIn K (.ref cNoSheet) "__getattribute__" = some (some (.builtin "BaseException.__getattribute__")))
    (gnNoSheet : PySem.W.findIn K (.ref cNoSheet) "__getattr__" = some none)
    (mbNoSheet : PySem.W.mroIn K cNoSheet (.type "BaseException") = some true)
    (fiNoSheet : PySem.W.findIn K (.ref cNoSheet) "__class__" = some (some (.builtin "object.__class__")))
    (moNoSheet : PySem.W.mroIn K cNoSheet (.type "object") = some true)
    (inc : PySem.W.kitOne K (.ref cNoSheet) (.ref cNoCap) = some false)
    (inf : PySem.W.kitOne K (.ref cNoSheet) (.ref cNoField) = some false)
    (inv : PySem.W.kitOne K (.ref cNoSheet) (.type "ValueError") = some true)
    (yVE : PySem.W.nsIn K mainGlobals "ValueError" = some none) :
    ∃ fd : FuncData, (∀ (s : Shared) (v : Value), BindsTo s fd ⟨[v], []⟩ [("_law_script", v)]) ∧ ∀ base : Heap, K.In base → base.Ns mainGlobals mg → FnOk l.prog w K mg base CX0 9 fa fd ["_law_script"] (spLaw K) := by
  have e := hfa.symm.trans (PySem.W.mg_of X G alaw)
  cases e
  have Fis_field_sign := fun_mk (st := sis_field_sign) lis_field_sign cis_field_sign kis_field_sign
  have bis_field_sign := Fis_field_sign.binds (ps := ["sign"]) fun _ _ _ _ _ _ us hl => match us, hl with | [_], _ => rfl
  have mis_field_sign := PySem.W.mg_of X G ais_field_sign
  have Fis_column_sign := fun_mk (st := sis_column_sign) lis_column_sign cis_column_sign kis_column_sign
  have bis_column_sign := Fis_column_sign.binds (ps := ["sign"]) fun _ _ _ _ _ _ us hl => match us, hl with | [_], _ => rfl
  have mis_column_sign := PySem.W.mg_of X G ais_column_sign
  have Fcolumns_of := fun_mk (st := scolumns_of) lcolumns_of ccolumns_of kcolumns_of
  have bcolumns_of := Fcolumns_of.binds (ps := ["rows"]) fun _ _ _ _ _ _ us hl => match us, hl with | [_], _ => rfl
  have mcolumns_of := PySem.W.mg_of X G acolumns_of
  have Fis_cut := fun_mk (st := sis_cut) lis_cut cis_cut kis_cut
  have bis_cut := Fis_cut.binds (ps := ["cell"]) fun _ _ _ _ _ _ us hl => match us, hl with | [_], _ => rfl
  have mis_cut := PySem.W.mg_of X G ais_cut
  have Ftold_by := fun_mk (st := stold_by) ltold_by ctold_by ktold_by
  have btold_by := Ftold_by.binds (ps := ["cell"]) fun _ _ _ _ _ _ us hl => match us, hl with | [_], _ => rfl
  have mtold_by := PySem.W.mg_of X G atold_by
  have Ftold_by_row := fun_mk (st := stold_by_row) ltold_by_row ctold_by_row ktold_by_row
  have btold_by_row := Ftold_by_row.binds (ps := ["row"]) fun _ _ _ _ _ _ us hl => match us, hl with | [_], _ => rfl
  have mtold_by_row := PySem.W.mg_of X G atold_by_row
  have Fis_cell := fun_mk (st := sis_cell) lis_cell cis_cell kis_cell
  have bis_cell := Fis_cell.binds (ps := ["cell"]) fun _ _ _ _ _ _ us hl => match us, hl with | [_], _ => rfl
  have mis_cell := PySem.W.mg_of X G ais_cell
  have Fhas_cells_alone := fun_mk (st := shas_cells_alone) lhas_cells_alone chas_cells_alone khas_cells_alone
  have bhas_cells_alone := Fhas_cells_alone.binds (ps := ["row"]) fun _ _ _ _ _ _ us hl => match us, hl with | [_], _ => rfl
  have mhas_cells_alone := PySem.W.mg_of X G ahas_cells_alone
  have Fhas_cut := fun_mk (st := shas_cut) lhas_cut chas_cut khas_cut
  have bhas_cut := Fhas_cut.binds (ps := ["column"]) fun _ _ _ _ _ _ us hl => match us, hl with | [_], _ => rfl
  have mhas_cut := PySem.W.mg_of X G ahas_cut
  have Fwidth_of_cells := fun_mk (st := swidth_of_cells) lwidth_of_cells cwidth_of_cells kwidth_of_cells
  have bwidth_of_cells := Fwidth_of_cells.binds (ps := ["column"]) fun _ _ _ _ _ _ us hl => match us, hl with | [_], _ => rfl
  have mwidth_of_cells := PySem.W.mg_of X G awidth_of_cells
  have Fis_column := fun_mk (st := sis_column) lis_column cis_column kis_column
  have bis_column := Fis_column.binds (ps := ["column"]) fun _ _ _ _ _ _ us hl => match us, hl with | [_], _ => rfl
  have mis_column := PySem.W.mg_of X G ais_column
  have Fshare_a_cap := fun_mk (st := sshare_a_cap) lshare_a_cap cshare_a_cap kshare_a_cap
  have bshare_a_cap := Fshare_a_cap.binds (ps := ["columns"]) fun _ _ _ _ _ _ us hl => match us, hl with | [_], _ => rfl
  have mshare_a_cap := PySem.W.mg_of X G ashare_a_cap
  have Fis_sheet := fun_mk (st := sis_sheet) lis_sheet cis_sheet kis_sheet
  have bis_sheet := Fis_sheet.binds (ps := ["rows"]) fun _ _ _ _ _ _ us hl => match us, hl with | [_], _ => rfl
  have mis_sheet := PySem.W.mg_of X G ais_sheet
  have Fread := fun_mk (st := sread) lread cread kread
  have bread := Fread.binds (ps := ["lines"]) fun _ _ _ _ _ _ us hl => match us, hl with | [_], _ => rfl
  have mread := PySem.W.mg_of X G aread
  have F_law_whole := fun_mk (st := s_law_whole) l_law_whole c_law_whole k_law_whole
  have b_law_whole := F_law_whole.binds (ps := ["_law_found"]) fun _ _ _ _ _ _ us hl => match us, hl with | [_], _ => rfl
  have m_law_whole := PySem.W.mg_of X G a_law_whole
  have F_law_at := fun_mk (st := s_law_at) l_law_at c_law_at k_law_at
  have b_law_at := F_law_at.binds (ps := ["_law_script", "_law_k"]) fun _ _ _ _ _ _ us hl => match us, hl with | [_, _], _ => rfl
  have m_law_at := PySem.W.mg_of X G a_law_at
  have F_law_alike := fun_mk (st := s_law_alike) l_law_alike c_law_alike k_law_alike
  have b_law_alike := F_law_alike.binds (ps := ["_law_found", "_law_due"]) fun _ _ _ _ _ _ us hl => match us, hl with | [_, _], _ => rfl
  have m_law_alike := PySem.W.mg_of X G a_law_alike
  have F_law_field_of := fun_mk (st := s_law_field_of) l_law_field_of c_law_field_of k_law_field_of
  have b_law_field_of := F_law_field_of.binds (ps := ["_law_cell", "_law_most"]) fun _ _ _ _ _ _ us hl => match us, hl with | [_, _], _ => rfl
  have m_law_field_of := PySem.W.mg_of X G a_law_field_of
  have F_law_table_of := fun_mk (st := s_law_table_of) l_law_table_of c_law_table_of k_law_table_of
  have b_law_table_of := F_law_table_of.binds (ps := ["_law_cells", "_law_columns", "_law_most"]) fun _ _ _ _ _ _ us hl => match us, hl with | [_, _, _], _ => rfl
  have m_law_table_of := PySem.W.mg_of X G a_law_table_of
  have F_law_width_of := fun_mk (st := s_law_width_of) l_law_width_of c_law_width_of k_law_width_of
  have b_law_width_of := F_law_width_of.binds (ps := ["_law_table", "_law_k", "_law_cap"]) fun _ _ _ _ _ _ us hl => match us, hl with | [_, _, _], _ => rfl
  have m_law_width_of := PySem.W.mg_of X G a_law_width_of
  have F_law_written := fun_mk (st := s_law_written) l_law_written c_law_written k_law_written
  have b_law_written := F_law_written.binds (ps := ["_law_table", "_law_cap"]) fun _ _ _ _ _ _ us hl => match us, hl with | [_, _], _ => rfl
  have m_law_written := PySem.W.mg_of X G a_law_written
  have F_law_spoilt := fun_mk (st := s_law_spoilt) l_law_spoilt c_law_spoilt k_law_spoilt
  have b_law_spoilt := F_law_spoilt.binds (ps := ["_law_lines", "_law_way", "_law_row", "_law_spot", "_law_sign"]) fun _ _ _ _ _ _ us hl => match us, hl with | [_, _, _, _, _], _ => rfl
  have m_law_spoilt := PySem.W.mg_of X G a_law_spoilt
  have F_law_part_good := fun_mk (st := s_law_part_good) l_law_part_good c_law_part_good k_law_part_good
  have b_law_part_good := F_law_part_good.binds (ps := ["_law_part"]) fun _ _ _ _ _ _ us hl => match us, hl with | [_], _ => rfl
  have m_law_part_good := PySem.W.mg_of X G a_law_part_good
  have F_law_column_good := fun_mk (st := s_law_column_good) l_law_column_good c_law_column_good k_law_column_good
  have b_law_column_good := F_law_column_good.binds (ps := ["_law_parts", "_law_cap"]) fun _ _ _ _ _ _ us hl => match us, hl with | [_, _], _ => rfl
  have m_law_column_good := PySem.W.mg_of X G a_law_column_good
  have F_law_good := fun_mk (st := s_law_good) l_law_good c_law_good k_law_good
  have b_law_good := F_law_good.binds (ps := ["_law_lines"]) fun _ _ _ _ _ _ us hl => match us, hl with | [_], _ => rfl
  have m_law_good := PySem.W.mg_of X G a_law_good
  have F_law_are_fields := fun_mk (st := s_law_are_fields) l_law_are_fields c_law_are_fields k_law_are_fields
  have b_law_are_fields := F_law_are_fields.binds (ps := ["_law_found"]) fun _ _ _ _ _ _ us hl => match us, hl with | [_], _ => rfl
  have m_law_are_fields := PySem.W.mg_of X G a_law_are_fields
  have F_law_written_again := fun_mk (st := s_law_written_again) l_law_written_again c_law_written_again k_law_written_again
  have b_law_written_again := F_law_written_again.binds (ps := ["_law_found"]) fun _ _ _ _ _ _ us hl => match us, hl with | [_], _ => rfl
  have m_law_written_again := PySem.W.mg_of X G a_law_written_again
  have F_law_refused_by_any := fun_mk (st := s_law_refused_by_any) l_law_refused_by_any c_law_refused_by_any k_law_refused_by_any
  have b_law_refused_by_any := F_law_refused_by_any.binds (ps := ["_law_lines"]) fun _ _ _ _ _ _ us hl => match us, hl with | [_], _ => rfl
  have m_law_refused_by_any := PySem.W.mg_of X G a_law_refused_by_any
  have Flaw := fun_mk (st := slaw) llaw claw klaw
  have gBLANK : GS mg "BLANK" [32] := ⟨_, PySem.W.mg_of X G zBLANK, tBLANK, congrArg (fun z => Value.str z tBLANK) (by decide +kernel)⟩
  have gBAR : GS mg "BAR" [124] := ⟨_, PySem.W.mg_of X G zBAR, tBAR, congrArg (fun z => Value.str z tBAR) (by decide +kernel)⟩
  have gCUT_MARK : GS mg "CUT_MARK" [126] := ⟨_, PySem.W.mg_of X G zCUT_MARK, tCUT_MARK, congrArg (fun z => Value.str z tCUT_MARK) (by decide +kernel)⟩
  have gLAST_SIGN : GS mg "LAST_SIGN" [126] := ⟨_, PySem.W.mg_of X G zLAST_SIGN, tLAST_SIGN, congrArg (fun z => Value.str z tLAST_SIGN) (by decide +kernel)⟩
  have gPERCENT_NUMBER : GI mg "PERCENT_NUMBER" 37 := ⟨_, PySem.W.mg_of X G zPERCENT_NUMBER, tPERCENT_NUMBER, rfl⟩
  have gLEAST_WIDTH : GI mg "LEAST_WIDTH" 1 := ⟨_, PySem.W.mg_of X G zLEAST_WIDTH, tLEAST_WIDTH, rfl⟩
  have gWHOLE : GS mg "WHOLE" [119, 104, 111, 108, 101] := ⟨_, PySem.W.mg_of X G zWHOLE, tWHOLE, congrArg (fun z => Value.str z tWHOLE) (by decide +kernel)⟩
  have gCUT : GS mg "CUT" [99, 117, 116] := ⟨_, PySem.W.mg_of X G zCUT, tCUT, congrArg (fun z => Value.str z tCUT) (by decide +kernel)⟩
  have mSheetError := PySem.W.mg_of X G nSheetError
  have mNoCap := PySem.W.mg_of X G nNoCap
  have mNoField := PySem.W.mg_of X G nNoField
  have mNoSheet := PySem.W.mg_of X G nNoSheet
  have mVE := PySem.W.mg_none_of X G yVE
  have Z : Cl5 K cSheetError cNoCap cNoField cNoSheet := ⟨xnn, xns, ⟨gaNoSheet, gnNoSheet, mbNoSheet, fiNoSheet, spC, tkC, moNoSheet⟩, inc, inf, kit_same _ _, inv⟩
  have Gg : Gb mg := ⟨PySem.W.mg_none_of X G ylen, PySem.W.mg_none_of X G yord, PySem.W.mg_none_of X G yrange, PySem.W.mg_none_of X G ymax, PySem.W.mg_none_of X G ymin, PySem.W.mg_none_of X G yint, PySem.W.mg_none_of X G yisinstance, PySem.W.mg_none_of X G ystr, PySem.W.mg_none_of X G ybool, PySem.W.mg_none_of X G ylist, PySem.W.mg_none_of X G ytuple, PySem.W.mg_none_of X G yall, PySem.W.mg_none_of X G yany, PySem.W.mg_none_of X G yzip, PySem.W.mg_none_of X G yenumerate⟩
  refine ⟨PySem.W.fnOf "law" "law" (defArgs slaw) (defBody slaw) (defScope slaw) .none kVlaw dclaw pmlaw anlaw cdlaw ctlaw, fun s v => .of_eq rfl, fun base hKb hGb => ?_⟩
  have oNoSheet := own_cls hKb hGb nNoSheet qNoSheet
  have Ois_field_sign : FnOk l.prog w K mg base CX0 1 fis_field_sign _ ["sign"] spFS := ok_is_field_sign (F := Fis_field_sign) (G := Gg) (gBLANK := gBLANK) (gLAST_SIGN := gLAST_SIGN) (gPERCENT_NUMBER := gPERCENT_NUMBER)
  have Ois_column_sign : FnOk l.prog w K mg base CX0 2 fis_column_sign _ ["sign"] spCS := ok_is_column_sign (F := Fis_column_sign) (G := Gg) (gBAR := gBAR) (gCUT_MARK := gCUT_MARK) (Gis_field_sign := Ois_field_sign.mono (by decide)) (bis_field_sign := bis_field_sign) (kis_field_sign := kis_field_sign) (mis_field_sign := mis_field_sign)
  have Ocolumns_of : FnOk l.prog w K mg base CX0 1 fcolumns_of _ ["rows"] spCols := ok_columns_of (F := Fcolumns_of) (G := Gg)
  have Ois_cut : FnOk l.prog w K mg base CX0 1 fis_cut _ ["cell"] spIsCut := ok_is_cut (F := Fis_cut) (G := Gg) (gCUT_MARK := gCUT_MARK)
  have Otold_by : FnOk l.prog w K mg base CX0 2 ftold_by _ ["cell"] spTold := ok_told_by (F := Ftold_by) (G := Gg) (gBLANK := gBLANK) (gCUT := gCUT) (gWHOLE := gWHOLE) (Gis_cut := Ois_cut.mono (by decide)) (bis_cut := bis_cut) (kis_cut := kis_cut) (mis_cut := mis_cut)
  have Otold_by_row : FnOk l.prog w K mg base CX0 3 ftold_by_row _ ["row"] spToldRow := ok_told_by_row (F := Ftold_by_row) (G := Gg) (Gtold_by := Otold_by.mono (by decide)) (btold_by := btold_by) (ktold_by := ktold_by) (mtold_by := mtold_by)
  have Ois_cell : FnOk l.prog w K mg base CX0 3 fis_cell _ ["cell"] spIsCell := ok_is_cell (F := Fis_cell) (G := Gg) (Gis_cut := Ois_cut.mono (by decide)) (bis_cut := bis_cut) (kis_cut := kis_cut) (mis_cut := mis_cut) (Gis_column_sign := Ois_column_sign.mono (by decide)) (bis_column_sign := bis_column_sign) (kis_column_sign := kis_column_sign) (mis_column_sign := mis_column_sign)
  have Ohas_cells_alone : FnOk l.prog w K mg base CX0 4 fhas_cells_alone _ ["row"] spCellsAlone := ok_has_cells_alone (F := Fhas_cells_alone) (G := Gg) (Gis_cell := Ois_cell.mono (by decide)) (bis_cell := bis_cell) (kis_cell := kis_cell) (mis_cell := mis_cell)
  have Ohas_cut : FnOk l.prog w K mg base CX0 2 fhas_cut _ ["column"] spHasCut := ok_has_cut (F := Fhas_cut) (G := Gg) (Gis_cut := Ois_cut.mono (by decide)) (bis_cut := bis_cut) (kis_cut := kis_cut) (mis_cut := mis_cut)
  have Owidth_of_cells : FnOk l.prog w K mg base CX0 1 fwidth_of_cells _ ["column"] spWidthC := ok_width_of_cells (F := Fwidth_of_cells) (G := Gg)
  have Ois_column : FnOk l.prog w K mg base CX0 2 fis_column _ ["column"] spIsCol := ok_is_column (F := Fis_column) (G := Gg) (gBLANK := gBLANK) (gLEAST_WIDTH := gLEAST_WIDTH) (Gwidth_of_cells := Owidth_of_cells.mono (by decide)) (bwidth_of_cells := bwidth_of_cells) (kwidth_of_cells := kwidth_of_cells) (mwidth_of_cells := mwidth_of_cells)
  have Oshare_a_cap : FnOk l.prog w K mg base CX0 3 fshare_a_cap _ ["columns"] spShare := ok_share_a_cap (F := Fshare_a_cap) (G := Gg) (Gwidth_of_cells := Owidth_of_cells.mono (by decide)) (bwidth_of_cells := bwidth_of_cells) (kwidth_of_cells := kwidth_of_cells) (mwidth_of_cells := mwidth_of_cells) (Ghas_cut := Ohas_cut.mono (by decide)) (bhas_cut := bhas_cut) (khas_cut := khas_cut) (mhas_cut := mhas_cut)
  have Ois_sheet : FnOk l.prog w K mg base CX0 5 fis_sheet _ ["rows"] spIsSheet := ok_is_sheet (F := Fis_sheet) (G := Gg) (Ghas_cells_alone := Ohas_cells_alone.mono (by decide)) (bhas_cells_alone := bhas_cells_alone) (khas_cells_alone := khas_cells_alone) (mhas_cells_alone := mhas_cells_alone) (Gcolumns_of := Ocolumns_of.mono (by decide)) (bcolumns_of := bcolumns_of) (kcolumns_of := kcolumns_of) (mcolumns_of := mcolumns_of) (Gis_column := Ois_column.mono (by decide)) (bis_column := bis_column) (kis_column := kis_column) (mis_column := mis_column) (Gshare_a_cap := Oshare_a_cap.mono (by decide)) (bshare_a_cap := bshare_a_cap) (kshare_a_cap := kshare_a_cap) (mshare_a_cap := mshare_a_cap)
  have Oread : FnOk l.prog w K mg base (CXf l.prog w) 6 fread _ ["lines"] (spReadX cNoSheet) := ok_read (F := Fread) (G := Gg) (gBAR := gBAR) (Gis_sheet := Ois_sheet.mono (by decide)) (bis_sheet := bis_sheet) (kis_sheet := kis_sheet) (mis_sheet := mis_sheet) (Gtold_by_row := Otold_by_row.mono (by decide)) (btold_by_row := btold_by_row) (ktold_by_row := ktold_by_row) (mtold_by_row := mtold_by_row) (oNoSheet := oNoSheet)
  have O_law_whole : FnOk l.prog w K mg base CX0 1 f_law_whole _ ["_law_found"] spWhole := ok_whole (F := F_law_whole) (G := Gg)
  have O_law_at : FnOk l.prog w K mg base CX0 1 f_law_at _ ["_law_script", "_law_k"] (spAt K) := ok_at (F := F_law_at) (G := Gg)
  have O_law_alike : FnOk l.prog w K mg base CX0 2 f_law_alike _ ["_law_found", "_law_due"] spAlike := ok_alike (F := F_law_alike) (G := Gg) (G_law_whole := O_law_whole.mono (by decide)) (b_law_whole := b_law_whole) (k_law_whole := k_law_whole) (m_law_whole := m_law_whole)
  have O_law_field_of : FnOk l.prog w K mg base CX0 1 f_law_field_of _ ["_law_cell", "_law_most"] spFO := ok_field_of (F := F_law_field_of) (G := Gg)
  have O_law_table_of : FnOk l.prog w K mg base CX0 2 f_law_table_of _ ["_law_cells", "_law_columns", "_law_most"] (spTab K) := ok_table_of (F := F_law_table_of) (G := Gg) (G_law_field_of := O_law_field_of.mono (by decide)) (b_law_field_of := b_law_field_of) (k_law_field_of := k_law_field_of) (m_law_field_of := m_law_field_of)
  have O_law_width_of : FnOk l.prog w K mg base CX0 1 f_law_width_of _ ["_law_table", "_law_k", "_law_cap"] spWidthOf := ok_width_of (F := F_law_width_of) (G := Gg)
  have O_law_written : FnOk l.prog w K mg base CX0 2 f_law_written _ ["_law_table", "_law_cap"] spWritten := ok_written (F := F_law_written) (G := Gg) (G_law_width_of := O_law_width_of.mono (by decide)) (b_law_width_of := b_law_width_of) (k_law_width_of := k_law_width_of) (m_law_width_of := m_law_width_of)
  have O_law_spoilt : FnOk l.prog w K mg base CX0 1 f_law_spoilt _ ["_law_lines", "_law_way", "_law_row", "_law_spot", "_law_sign"] spSpoilt := ok_spoilt (F := F_law_spoilt) (G := Gg)
  have O_law_part_good : FnOk l.prog w K mg base CX0 1 f_law_part_good _ ["_law_part"] spPartGood := ok_part_good (F := F_law_part_good) (G := Gg)
  have O_law_column_good : FnOk l.prog w K mg base CX0 2 f_law_column_good _ ["_law_parts", "_law_cap"] spColGood := ok_column_good (F := F_law_column_good) (G := Gg) (G_law_part_good := O_law_part_good.mono (by decide)) (b_law_part_good := b_law_part_good) (k_law_part_good := k_law_part_good) (m_law_part_good := m_law_part_good)
  have O_law_good : FnOk l.prog w K mg base CX0 3 f_law_good _ ["_law_lines"] spGood := ok_good (F := F_law_good) (G := Gg) (G_law_column_good := O_law_column_good.mono (by decide)) (b_law_column_good := b_law_column_good) (k_law_column_good := k_law_column_good) (m_law_column_good := m_law_column_good)
  have O_law_are_fields : FnOk l.prog w K mg base CX0 1 f_law_are_fields _ ["_law_found"] spAreFields := ok_are_fields (F := F_law_are_fields) (G := Gg)
  have O_law_written_again : FnOk l.prog w K mg base CX0 3 f_law_written_again _ ["_law_found"] spAgain := ok_again (F := F_law_written_again) (G := Gg) (G_law_written := O_law_written.mono (by decide)) (b_law_written := b_law_written) (k_law_written := k_law_written) (m_law_written := m_law_written)
  have O_law_refused_by_any : FnOk l.prog w K mg base CX0 8 f_law_refused_by_any _ ["_law_lines"] spRefused := ok_refused (F := F_law_refused_by_any) (G := Gg) (Gread := Oread.mono (by decide)) (bread := bread) (kread := kread) (mread := mread) (Z := Z) (mVE := mVE) (mSheetError := mSheetError) (mNoCap := mNoCap) (mNoField := mNoField) (mNoSheet := mNoSheet)
  exact ok_law (F := Flaw) (G := Gg) (Z := Z) (mNoSheet := mNoSheet) (G_law_at := O_law_at.mono (by decide)) (b_law_at := b_law_at) (k_law_at := k_law_at) (m_law_at := m_law_at) (G_law_table_of := O_law_table_of.mono (by decide)) (b_law_table_of := b_law_table_of) (k_law_table_of := k_law_table_of) (m_law_table_of := m_law_table_of) (G_law_alike := O_law_alike.mono (by decide)) (b_law_alike := b_law_alike) (k_law_alike := k_law_alike) (m_law_alike := m_law_alike) (G_law_written := O_law_written.mono (by decide)) (b_law_written := b_law_written) (k_law_written := k_law_written) (m_law_written := m_law_written) (G_law_spoilt := O_law_spoilt.mono (by decide)) (b_law_spoilt := b_law_spoilt) (k_law_spoilt := k_law_spoilt) (m_law_spoilt := m_law_spoilt) (G_law_good := O_law_good.mono (by decide)) (b_law_good := b_law_good) (k_law_good := k_law_good) (m_law_good := m_law_good) (G_law_are_fields := O_law_are_fields.mono (by decide)) (b_law_are_fields := b_law_are_fields) (k_law_are_fields := k_law_are_fields) (m_law_are_fields := m_law_are_fields) (G_law_written_again := O_law_written_again.mono (by decide)) (b_law_written_again := b_law_written_again) (k_law_written_again := k_law_written_again) (m_law_written_again := m_law_written_again) (G_law_refused_by_any := O_law_refused_by_any.mono (by decide)) (b_law_refused_by_any := b_law_refused_by_any) (k_law_refused_by_any := k_law_refused_by_any) (m_law_refused_by_any := m_law_refused_by_any) (Gread := Oread.mono (by decide)) (bread := bread) (kread := kread) (mread := mread)
theorem walk {l : PySem.W.OpenLaw} {q : Program} {loose : List Str} {XP : (Str → Option Value) → Heap → Prop} {YP : World → Heap → Prop} {d : DefRec} {K : Params → PySem.W.Frag} (hn : l.most = some 63) (hdf : d.params.defaults = [])
    (hY : ∀ (w : World) (h : Heap), YP w h → (K w.params).In h)
    (F : ∀ (w : World) (mg : Str → Option Value) (fa : Addr) (h : Heap), (K w.params).In h → h.Ns mainGlobals mg → mg d.name = some (.ref fa) →
      ∃ fd : FuncData, (∀ (s : Shared) (u : Value), BindsTo s fd ⟨[u], []⟩ [("_law_script", u)]) ∧ ∀ base : Heap, (K w.params).In base → base.Ns mainGlobals mg → FnOk l.prog w (K w.params) mg base CX0 9 fa fd ["_law_script"] (spLaw (K w.params))) :
    PySem.W.WalkO q loose XP YP l.row.toRowW d [] (fun f vs => PySem.call f vs) :=
  L2.walk_of (n := 63) (k := 9) (x := "_law_script") (CX := fun _ => CX0) (sp := fun w => spLaw (K w.params)) hn (by decide) hdf ⟨rfl, by decide, by decide⟩ hY F (fun _ _ a ns hl _ hS => ⟨a, ns, rfl, hS, hl, fun _ => rfl⟩) fun _ _ _ _ _ z => z
end K05
open PySem PySem.W PyProof.Rows
set_option maxRecDepth 100000 in
set_option maxHeartbeats 0 in
theorem PySem.Challenge.cw_columnbook_k05_whole_read_or_refused_holds : PySem.Challenge.rw_columnbook_k05_whole_read_or_refused.Holds := by
  w_on; o_law; k_head; (case hw => w_witness2)
  k_fill
  refine K05.walk (l := PySem.Challenge.rw_columnbook_k05_whole_read_or_refused) rfl rfl (fun w h Y => PySem.W.kIn_of Y) ?F
  case F =>
    intro w mg fa h KX G hmg
    refine' K05.all_mk KX G hmg ?ais_field_sign ?lis_field_sign ?cis_field_sign ?kis_field_sign ?ais_column_sign ?lis_column_sign ?cis_column_sign ?kis_column_sign ?acolumns_of ?lcolumns_of ?ccolumns_of ?kcolumns_of ?ais_cut ?lis_cut ?cis_cut ?kis_cut ?atold_by ?ltold_by ?ctold_by ?ktold_by ?atold_by_row ?ltold_by_row ?ctold_by_row ?ktold_by_row ?ais_cell ?lis_cell ?cis_cell ?kis_cell ?ahas_cells_alone ?lhas_cells_alone ?chas_cells_alone ?khas_cells_alone ?ahas_cut ?lhas_cut ?chas_cut ?khas_cut ?awidth_of_cells ?lwidth_of_cells ?cwidth_of_cells ?kwidth_of_cells ?ais_column ?lis_column ?cis_column ?kis_column ?ashare_a_cap ?lshare_a_cap ?cshare_a_cap ?kshare_a_cap ?ais_sheet ?lis_sheet ?cis_sheet ?kis_sheet ?aread ?lread ?cread ?kread ?a_law_whole ?l_law_whole ?c_law_whole ?k_law_whole ?a_law_at ?l_law_at ?c_law_at ?k_law_at ?a_law_alike ?l_law_alike ?c_law_alike ?k_law_alike ?a_law_field_of ?l_law_field_of ?c_law_field_of ?k_law_field_of ?a_law_table_of ?l_law_table_of ?c_law_table_of ?k_law_table_of ?a_law_width_of ?l_law_width_of ?c_law_width_of ?k_law_width_of ?a_law_written ?l_law_written ?c_law_written ?k_law_written ?a_law_spoilt ?l_law_spoilt ?c_law_spoilt ?k_law_spoilt ?a_law_part_good ?l_law_part_good ?c_law_part_good ?k_law_part_good ?a_law_column_good ?l_law_column_good ?c_law_column_good ?k_law_column_good ?a_law_good ?l_law_good ?c_law_good ?k_law_good ?a_law_are_fields ?l_law_are_fields ?c_law_are_fields ?k_law_are_fields ?a_law_written_again ?l_law_written_again ?c_law_written_again ?k_law_written_again ?a_law_refused_by_any ?l_law_refused_by_any ?c_law_refused_by_any ?k_law_refused_by_any ?alaw ?llaw ?claw ?klaw ?zBLANK ?zBAR ?zCUT_MARK ?zLAST_SIGN ?zPERCENT_NUMBER ?zLEAST_WIDTH ?zWHOLE ?zCUT ?ylen ?yord ?yrange ?ymax ?ymin ?yint ?yisinstance ?ystr ?ybool ?ylist ?ytuple ?yall ?yany ?yzip ?yenumerate ?nSheetError ?nNoCap ?nNoField ?nNoSheet ?qNoSheet ?xnn ?xns ?spC ?tkC ?gaNoSheet ?gnNoSheet ?mbNoSheet ?fiNoSheet ?moNoSheet ?inc ?inf ?inv ?yVE
    (case ais_field_sign => k_is)
    (case lis_field_sign => k_is)
    (case cis_field_sign => k_is)
    (case kis_field_sign => k_is)
    (case ais_column_sign => k_is)
    (case lis_column_sign => k_is)
    (case cis_column_sign => k_is)
    (case kis_column_sign => k_is)
    (case acolumns_of => k_is)
    (case lcolumns_of => k_is)
    (case ccolumns_of => k_is)
    (case kcolumns_of => k_is)
    (case ais_cut => k_is)
    (case lis_cut => k_is)
    (case cis_cut => k_is)
    (case kis_cut => k_is)
    (case atold_by => k_is)
    (case ltold_by => k_is)
    (case ctold_by => k_is)
    (case ktold_by => k_is)
    (case atold_by_row => k_is)
    (case ltold_by_row => k_is)
    (case ctold_by_row => k_is)
    (case ktold_by_row => k_is)
    (case ais_cell => k_is)
    (case lis_cell => k_is)
    (case cis_cell => k_is)
    (case kis_cell => k_is)
    (case ahas_cells_alone => k_is)
    (case lhas_cells_alone => k_is)
    (case chas_cells_alone => k_is)
    (case khas_cells_alone => k_is)
    (case ahas_cut => k_is)
    (case lhas_cut => k_is)
    (case chas_cut => k_is)
    (case khas_cut => k_is)
    (case awidth_of_cells => k_is)
    (case lwidth_of_cells => k_is)
    (case cwidth_of_cells => k_is)
    (case kwidth_of_cells => k_is)
    (case ais_column => k_is)
    (case lis_column => k_is)
    (case cis_column => k_is)
    (case kis_column => k_is)
    (case ashare_a_cap => k_is)
    (case lshare_a_cap => k_is)
    (case cshare_a_cap => k_is)
    (case kshare_a_cap => k_is)
    (case ais_sheet => k_is)
    (case lis_sheet => k_is)
    (case cis_sheet => k_is)
    (case kis_sheet => k_is)
    (case aread => k_is)
    (case lread => k_is)
    (case cread => k_is)
    (case kread => k_is)
    (case a_law_whole => k_is)
    (case l_law_whole => k_is)
    (case c_law_whole => k_is)
    (case k_law_whole => k_is)
    (case a_law_at => k_is)
    (case l_law_at => k_is)
    (case c_law_at => k_is)
    (case k_law_at => k_is)
    (case a_law_alike => k_is)
    (case l_law_alike => k_is)
    (case c_law_alike => k_is)
    (case k_law_alike => k_is)
    (case a_law_field_of => k_is)
    (case l_law_field_of => k_is)
    (case c_law_field_of => k_is)
    (case k_law_field_of => k_is)
    (case a_law_table_of => k_is)
    (case l_law_table_of => k_is)
    (case c_law_table_of => k_is)
    (case k_law_table_of => k_is)
    (case a_law_width_of => k_is)
    (case l_law_width_of => k_is)
    (case c_law_width_of => k_is)
    (case k_law_width_of => k_is)
    (case a_law_written => k_is)
    (case l_law_written => k_is)
    (case c_law_written => k_is)
    (case k_law_written => k_is)
    (case a_law_spoilt => k_is)
    (case l_law_spoilt => k_is)
    (case c_law_spoilt => k_is)
    (case k_law_spoilt => k_is)
    (case a_law_part_good => k_is)
    (case l_law_part_good => k_is)
    (case c_law_part_good => k_is)
    (case k_law_part_good => k_is)
    (case a_law_column_good => k_is)
    (case l_law_column_good => k_is)
    (case c_law_column_good => k_is)
    (case k_law_column_good => k_is)
    (case a_law_good => k_is)
    (case l_law_good => k_is)
    (case c_law_good => k_is)
    (case k_law_good => k_is)
    (case a_law_are_fields => k_is)
    (case l_law_are_fields => k_is)
    (case c_law_are_fields => k_is)
    (case k_law_are_fields => k_is)
    (case a_law_written_again => k_is)
    (case l_law_written_again => k_is)
    (case c_law_written_again => k_is)
    (case k_law_written_again => k_is)
    (case a_law_refused_by_any => k_is)
    (case l_law_refused_by_any => k_is)
    (case c_law_refused_by_any => k_is)
    (case k_law_refused_by_any => k_is)
    (case alaw => k_is)
    (case llaw => k_is)
    (case claw => k_is)
    (case klaw => k_is)
    (case zBLANK => k_is)
    (case zBAR => k_is)
    (case zCUT_MARK => k_is)
    (case zLAST_SIGN => k_is)
    (case zPERCENT_NUMBER => k_is)
    (case zLEAST_WIDTH => k_is)
    (case zWHOLE => k_is)
    (case zCUT => k_is)
    (case ylen => k_is)
    (case yord => k_is)
    (case yrange => k_is)
    (case ymax => k_is)
    (case ymin => k_is)
    (case yint => k_is)
    (case yisinstance => k_is)
    (case ystr => k_is)
    (case ybool => k_is)
    (case ylist => k_is)
    (case ytuple => k_is)
    (case yall => k_is)
    (case yany => k_is)
    (case yzip => k_is)
    (case yenumerate => k_is)
    (case nSheetError => k_is)
    (case nNoCap => k_is)
    (case nNoField => k_is)
    (case nNoSheet => k_is)
    (case qNoSheet => k_exc)
    (case xnn => kts_exm)
    (case xns => kts_exm)
    (case spC => k_is)
    (case tkC => k_is)
    (case gaNoSheet => k_is)
    (case gnNoSheet => k_is)
    (case mbNoSheet => k_is)
    (case fiNoSheet => k_is)
    (case moNoSheet => k_is)
    (case inc => kit_is)
    (case inf => kit_is)
    (case inv => kit_is)
    (case yVE => k_is)
#print axioms PySem.Challenge.cw_columnbook_k05_whole_read_or_refused_holds
