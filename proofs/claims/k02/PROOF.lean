import PyProof.Rows.All
import Wide.All
import OpenK.AllK
import Wide.FinOn
import PyProof.EqAt
import PyProof.EqKinds
import PyProof.TupleCall
import KE.KSortAsk
import PyProof.ExcAttrAll.ValueError
import Lean
import PySem.Challenge.RW_keyswap_k02_refused
set_option Elab.async false
set_option linter.all false
set_option maxRecDepth 100000
namespace L2
open PySem PySem.Spec PyProof.Rows

/-- a key: an int or a str -/
abbrev Key := Sum Int Str
def keyIs : Key → Value → Bool
  | .inl k, v => Value.isInt k v
  | .inr x, v => Value.isStrOf x v
def keyH (w : World) : Key → Int
  | .inl k => hashInt k
  | .inr x => hashStr w x
theorem keyIs_shape : ∀ {k : Key} {v : Value}, keyIs k v = true → (∃ i t, k = Sum.inl i ∧ v = Value.int i t) ∨ (∃ x t, k = Sum.inr x ∧ v = Value.str x t)
  | .inl i, v, h => by
    obtain ⟨t, e⟩ := Value.isInt_shape (k := i) (v := v) h
    exact .inl ⟨i, t, rfl, e⟩
  | .inr x, v, h => by
    obtain ⟨t, e⟩ := Value.isStrOf_shape (x := x) (v := v) h
    exact .inr ⟨x, t, rfl, e⟩
theorem keyIs_int (i : Int) (t : Tok) : keyIs (.inl i) (.int i t) = true := by simp [keyIs, Value.isInt]
theorem keyIs_str (x : Str) (t : Tok) : keyIs (.inr x) (.str x t) = true := by simp [keyIs, Value.isStrOf]
theorem key_ll (a b : Int) : decide ((Sum.inl a : Key) = Sum.inl b) = (a == b) := by
  by_cases e : a = b
  · subst e; simp
  · have h : ¬ (Sum.inl a : Key) = Sum.inl b := fun q => e (Sum.inl.inj q)
    rw [decide_eq_false h]
    exact (beq_eq_false_iff_ne.mpr e).symm
theorem key_rr (a b : Str) : decide ((Sum.inr a : Key) = Sum.inr b) = decide (a = b) := by
  by_cases e : a = b
  · subst e; simp
  · have h : ¬ (Sum.inr a : Key) = Sum.inr b := fun q => e (Sum.inr.inj q)
    rw [decide_eq_false h, decide_eq_false e]
theorem key_lr (a : Int) (b : Str) : decide ((Sum.inl a : Key) = Sum.inr b) = false := decide_eq_false (fun q => nomatch q)
theorem key_rl (a : Str) (b : Int) : decide ((Sum.inr a : Key) = Sum.inl b) = false := decide_eq_false (fun q => nomatch q)

def mixKind (prog : Program) (w : World) : PySem.KeyKind prog w Key where
  is := keyIs
  hash := keyH w
  inj := fun v a b ha hb => by
    rcases keyIs_shape ha with ⟨i, t, rfl, rfl⟩ | ⟨x, t, rfl, rfl⟩
    · rcases keyIs_shape hb with ⟨j, u, rfl, e⟩ | ⟨y, u, rfl, e⟩
      · injection e with e1 _; rw [e1]
      · exact nomatch e
    · rcases keyIs_shape hb with ⟨j, u, rfl, e⟩ | ⟨y, u, rfl, e⟩
      · exact nomatch e
      · injection e with e1 _; rw [e1]
  byValue := fun k v h => by
    rcases keyIs_shape h with ⟨i, t, rfl, rfl⟩ | ⟨x, t, rfl, rfl⟩ <;> rfl
  pyHash := fun hv h => by
    rcases keyIs_shape hv with ⟨i, t, rfl, rfl⟩ | ⟨x, t, rfl, rfl⟩
    · exact wpAny_pyHash_int h
    · exact wpAny_pyHash_str h
  eqBool := fun hu hv h => by
    rcases keyIs_shape hu with ⟨i, t, rfl, rfl⟩ | ⟨x, t, rfl, rfl⟩
    · rcases keyIs_shape hv with ⟨j, u, rfl, rfl⟩ | ⟨y, u, rfl, rfl⟩
      · rw [key_ll] at h; exact wpAny_eqBool_int h
      · rw [key_lr] at h; exact SeqAt.EqAt.int_str i t y u _ _ _ _ h
    · rcases keyIs_shape hv with ⟨j, u, rfl, rfl⟩ | ⟨y, u, rfl, rfl⟩
      · rw [key_rl] at h; exact SeqAt.EqAt.str_int x t j u _ _ _ _ h
      · rw [key_rr] at h; exact wpAny_eqBool_str h
  «strs» := fun k x t v h => by
    rcases keyIs_shape h with ⟨i, u, rfl, e⟩ | ⟨y, u, rfl, e⟩
    · exact nomatch e
    · injection e with e1 _
      subst e1
      cases v <;> rfl

theorem mixKind_is (prog : Program) (w : World) (k : Key) (v : Value) : (mixKind prog w).is k v = keyIs k v := rfl
theorem mixKind_int (prog : Program) (w : World) (i : Int) (t : Tok) : (mixKind prog w).is (.inl i) (.int i t) = true := keyIs_int i t
theorem mixKind_str (prog : Program) (w : World) (x : Str) (t : Tok) : (mixKind prog w).is (.inr x) (.str x t) = true := keyIs_str x t
end L2

namespace L2
open PySem PySem.Spec PyProof.Rows

/-- a value, without the heap -/
inductive V where
  | non | bl (b : Bool) | int (i : Int) | str (x : Str) | byt (b : Array UInt8) | flt (b : UInt64) | ref (a : Addr) | ty (n : String)
  deriving DecidableEq

def RelV : V → Value → Prop
  | .non, u => u = Value.none
  | .bl b, u => u = Value.bool b
  | .int i, u => ∃ t, u = Value.int i t
  | .str x, u => ∃ t, u = Value.str x t
  | .byt b, u => ∃ t, u = Value.bytes b t
  | .flt b, u => ∃ t, u = Value.float b t
  | .ref a, u => u = Value.ref a
  | .ty n, u => u = Value.type n

abbrev Vals : List V → List Value → Prop := Paired RelV
theorem Vals.length {xs : List V} {us : List Value} (r : Vals xs us) : xs.length = us.length := Paired.length r
theorem Vals.get : ∀ {xs : List V} {us : List Value} {i : Nat} {x : V}, Vals xs us → xs[i]? = some x → ∃ u, us[i]? = some u ∧ RelV x u
  | _, _, _, _, .nil, e => by simp at e
  | _, _, 0, _, .cons r _, e => by simp at e; subst e; exact ⟨_, rfl, r⟩
  | _, _, i + 1, x, .cons _ t, e => by
    obtain ⟨u, h1, h2⟩ := Vals.get (i := i) (x := x) t (by simpa using e)
    exact ⟨u, by simpa using h1, h2⟩
theorem Vals.set {x : V} {u : Value} (r : RelV x u) : ∀ {xs : List V} {us : List Value} (i : Nat), Vals xs us → Vals (xs.set i x) (us.set i u)
  | _, _, _, .nil => .nil
  | _, _, 0, .cons _ t => .cons r t
  | _, _, i + 1, .cons q t => .cons q (Vals.set r i t)
theorem Vals.append : ∀ {xs ys : List V} {us ws : List Value}, Vals xs us → Vals ys ws → Vals (xs ++ ys) (us ++ ws)
  | _, _, _, _, .nil, s => s
  | _, _, _, _, .cons r t, s => .cons r (Vals.append t s)
theorem Vals.take : ∀ {xs : List V} {us : List Value} (n : Nat), Vals xs us → Vals (xs.take n) (us.take n)
  | _, _, 0, _ => .nil
  | _, _, _ + 1, .nil => .nil
  | _, _, n + 1, .cons r t => .cons r (Vals.take n t)
theorem Vals.drop : ∀ {xs : List V} {us : List Value} (n : Nat), Vals xs us → Vals (xs.drop n) (us.drop n)
  | _, _, 0, r => r
  | _, _, _ + 1, .nil => .nil
  | _, _, n + 1, .cons _ t => Vals.drop n t
theorem Vals.none_of : ∀ {xs : List V} {us : List Value} {i : Nat}, Vals xs us → xs[i]? = none → us[i]? = none := fun {xs us i} r e => by
  have h1 := r.length
  have h2 : xs.length ≤ i := List.getElem?_eq_none_iff.mp e
  exact List.getElem?_eq_none_iff.mpr (by omega)

def RelO : Option V → Option Value → Prop
  | some v, some u => RelV v u
  | none, none => True
  | _, _ => False
def KV {κ : Type} : List (κ × V) → List (κ × Value) → Prop := Paired fun (p : κ × V) (q : κ × Value) => p.1 = q.1 ∧ RelV p.2 q.2

/-- a key of a dict (00_mix): an int or a text -/
def kV : Key → V
  | .inl i => .int i
  | .inr x => .str x

/-- what stands at a tracked address -/
inductive HO where
  /-- a list -/
  | lst (xs : List V)
  /-- a tuple (never changes) -/
  | tup (xs : List V)
  /-- a dict whose keys are ints and texts; one whose keys are tuples of ints and texts (the empty one is both) -/
  | dK (kvs : List (Key × V)) | dT (kvs : List (List Key × V))
  /-- a set of ints: its members, its size -/
  | set (S : Int → Bool) (n : Nat)
  /-- an instance of the class at C, its dict at dx, its attributes -/
  | ins (C dx : Addr) (fs : List (Str × V))
  /-- the dict of the instance at x -/
  | own (x : Addr)
  /-- the dict of an exception -/
  | xd (fs : List (Str × V))
  /-- a bound method, f of x -/
  | met (f x : Addr)
  /-- a range object lo, lo + 1, .. below hi -/
  | rng (lo hi : Int)
  /-- a thing that is known to the object (the script; a dict while a loop walks it): read, never written while it is so -/
  | frz (o : Obj) (u : HO)
  /-- a code object's table -/
  | tbl (ps : Array Value)
  /-- any other thing, by what is true of its one object (a def of one's own: SetO a S n := HO.ext fun h => ..) -/
  | ext (φ : Heap → Prop)

abbrev Hp := Addr → Option HO
def upd (H : Hp) (a : Addr) (o : HO) : Hp := fun b => if b = a then some o else H b
theorem upd_same {H : Hp} {a : Addr} {o : HO} : upd H a o a = some o := by unfold upd; rw [if_pos rfl]
theorem upd_ne {H : Hp} {a b : Addr} {o : HO} (h : b ≠ a) : upd H a o b = H b := by unfold upd; rw [if_neg h]
theorem upd_upd {H : Hp} {a : Addr} {o u : HO} : upd (upd H a o) a u = upd H a u := by
  funext b; unfold upd; split <;> rfl
/-- two objects of different content stand apart -/
theorem ne_of {H : Hp} {a b : Addr} {o u : HO} (h : H a = some o) (h' : H b = some u) (d : o ≠ u) : a ≠ b := by
  intro e; subst e; rw [h] at h'; exact d (Option.some.inj h')
theorem ne_of_none {H : Hp} {a b : Addr} {o : HO} (h : H a = some o) (h' : H b = none) : a ≠ b := by
  intro e; subst e; rw [h] at h'; cases h'

section
variable (P : Program) (w : World)
def ObjOk (H : Hp) (h : Heap) (a : Addr) : HO → Prop
  | .lst xs => xs.length ≤ sizeLine ∧ ∃ (its : List Value) (n : Nat), Vals xs its ∧ h.get? a = some { cls := .type "list", data := .seq its.toArray n }
  | .tup xs => xs.length ≤ sizeLine ∧ ∃ its : List Value, Vals xs its ∧ IsTup h a its.toArray
  | .dK kvs => kvs.length ≤ sizeLine ∧ (a == sysModules) = false ∧ ∃ vs, KV kvs vs ∧ h.DictOf (mixKind P w) a vs
  | .dT kvs => kvs.length ≤ sizeLine ∧ (a == sysModules) = false ∧ ∃ xs : List (List Key × Addr × Value),
      Paired (fun (p : List Key × V) (q : List Key × Addr × Value) => p.1 = q.1 ∧ H q.2.1 = some (.tup (p.1.map kV)) ∧ RelV p.2 q.2.2) kvs xs ∧
      ∃ o es ep, h.get? a = some o ∧ o.ExactDict ∧ o.data = .dict es ep ∧ es.toList = xs.map (entryOfKey (tupleKind (mixKind P w))) ∧ (xs.map (·.1)).Nodup
  | .set S n => h.SetOf (intKind P w) a S n
  | .ins C dx fs => H dx = some (.own a) ∧ fs.length ≤ 1000 ∧ dx ≠ a ∧ h.get? a = some (PySem.W.instObj C dx) ∧
      ∃ mA, h.Ns1 dx mA ∧ (∀ f, RelO (fs.lookup f) (mA f)) ∧ PySem.Within mA (fs.map (·.1))
  | .own _ => ∃ o, h.get? a = some o
  | .xd fs => ∃ mA, h.Ns1 a mA ∧ ∀ f, RelO (fs.lookup f) (mA f)
  | .rng lo hi => ∃ t u v, h.get? a = some { cls := .type "range", data := .fields #[.int lo t, .int hi u, .int 1 v] }
  | .frz o u => h.get? a = some o ∧ ObjOk H h a u
  | .tbl ps => h.get? a = some { cls := .none, data := .fields ps }
  | .met f x => h.get? a = some (PySem.W.methodObj (.ref f) (.ref x))
  | .ext φ => φ h ∧ (∃ o, h.get? a = some o) ∧ ∀ h1 h2 : Heap, φ h1 → (∀ o, h1.get? a = some o → h2.get? a = some o) → φ h2
/-- the abstract heap is held -/
def HOk (H : Hp) (h : Heap) : Prop := ∀ a o, H a = some o → ObjOk P w H h a o
end

section
variable {P : Program} {w : World} {H H' : Hp} {h h' : Heap} {a : Addr} {o : HO}
theorem ObjOk.lt (x : ObjOk P w H h a o) : a < h.objs.size := by
  cases o with
  | lst xs => obtain ⟨_, _, _, _, e⟩ := x; exact Heap.lt_size e
  | tup xs => obtain ⟨_, _, _, p⟩ := x; exact p.lt
  | dK kvs => obtain ⟨_, _, _, _, o, _, _, e, _⟩ := x; exact Heap.lt_size e
  | dT kvs => obtain ⟨_, _, _, _, o, _, _, e, _⟩ := x; exact Heap.lt_size e
  | set S n => obtain ⟨o, _, _, _, e, _⟩ := x; exact Heap.lt_size e
  | ins C dx fs => obtain ⟨_, _, _, e, _⟩ := x; exact Heap.lt_size e
  | own y => obtain ⟨_, e⟩ := x; exact Heap.lt_size e
  | xd fs => obtain ⟨_, ⟨_, _, _, e, _⟩, _⟩ := x; exact Heap.lt_size e
  | rng lo hi => obtain ⟨_, _, _, e⟩ := x; exact Heap.lt_size e
  | frz ob u => obtain ⟨e, _⟩ := x; exact Heap.lt_size e
  | tbl ps => exact Heap.lt_size (show h.get? a = some _ from x)
  | met f y => exact Heap.lt_size (show h.get? a = some _ from x)
  | ext φ => obtain ⟨_, ⟨_, e⟩, _⟩ := x; exact Heap.lt_size e
theorem Paired.mapP {α β : Type} {F G : α → β → Prop} : ∀ {l₁ : List α} {l₂ : List β}, Paired F l₁ l₂ → (∀ a b, F a b → G a b) → Paired G l₁ l₂
  | _, _, .nil, _ => .nil
  | _, _, .cons r t, f => .cons (f _ _ r) (Paired.mapP t f)
theorem Paired.imp' {α β : Type} {F G : α → β → Prop} (f : ∀ a b, F a b → G a b) {l₁ : List α} {l₂ : List β} (r : Paired F l₁ l₂) : Paired G l₁ l₂ := Paired.mapP r f
/-- what an object's description leans on: its own object, its own dict, the tuples -/
theorem ObjOk.stay (x : ObjOk P w H h a o) (k : ∀ b u, (b = a ∨ H b = some (.own a)) → h.get? b = some u → h'.get? b = some u)
    (ho : ∀ b, H b = some (.own a) → H' b = some (.own a)) (ht : ∀ b xs, H b = some (.tup xs) → H' b = some (.tup xs)) : ObjOk P w H' h' a o := by
  induction o with
  | lst xs => obtain ⟨z, its, n, r, e⟩ := x; exact ⟨z, its, n, r, k _ _ (.inl rfl) e⟩
  | tup xs => obtain ⟨z, its, r, ob, e, c⟩ := x; exact ⟨z, its, r, ob, k _ _ (.inl rfl) e, c⟩
  | dK kvs => obtain ⟨z, y, vs, r, ob, es, ep, e, c⟩ := x; exact ⟨z, y, vs, r, ob, es, ep, k _ _ (.inl rfl) e, c⟩
  | dT kvs =>
    obtain ⟨z, y, xs, r, ob, es, ep, e, c⟩ := x
    exact ⟨z, y, xs, Paired.mapP r fun p q z => ⟨z.1, ht _ _ z.2.1, z.2.2⟩, ob, es, ep, k _ _ (.inl rfl) e, c⟩
  | set S n => obtain ⟨ob, es, ep, t, e, c⟩ := x; exact ⟨ob, es, ep, t, k _ _ (.inl rfl) e, c⟩
  | ins C dx fs =>
    obtain ⟨d, z, ne, e, mA, ⟨od, es, ep, e2, c⟩, r⟩ := x
    exact ⟨ho _ d, z, ne, k _ _ (.inl rfl) e, mA, ⟨od, es, ep, k _ _ (.inr d) e2, c⟩, r⟩
  | own y => obtain ⟨ob, e⟩ := x; exact ⟨ob, k _ _ (.inl rfl) e⟩
  | xd fs => obtain ⟨mA, ⟨od, es, ep, e, c⟩, r⟩ := x; exact ⟨mA, ⟨od, es, ep, k _ _ (.inl rfl) e, c⟩, r⟩
  | rng lo hi => obtain ⟨t, u, v, e⟩ := x; exact ⟨t, u, v, k _ _ (.inl rfl) e⟩
  | frz ob u ih => obtain ⟨e, q⟩ := x; exact ⟨k _ _ (.inl rfl) e, ih q⟩
  | tbl ps =>
    have e : h.get? a = some { cls := .none, data := .fields ps } := x
    show h'.get? a = some { cls := .none, data := .fields ps }
    exact k a _ (.inl rfl) e
  | met f y =>
    have e : h.get? a = some (PySem.W.methodObj (.ref f) (.ref y)) := x
    show h'.get? a = some (PySem.W.methodObj (.ref f) (.ref y))
    exact k a _ (.inl rfl) e
  | ext φ => obtain ⟨p, ⟨o, e⟩, st⟩ := x; exact ⟨st _ _ p fun o q => k _ _ (.inl rfl) q, ⟨o, k _ _ (.inl rfl) e⟩, st⟩
theorem HOk.lt (x : HOk P w H h) (e : H a = some o) : a < h.objs.size := (x a o e).lt
theorem HOk.fresh (x : HOk P w H h) (e : h.objs.size ≤ a) : H a = none := by
  cases q : H a with
  | none => rfl
  | some u => exact absurd (Nat.lt_of_lt_of_le (x.lt q) e) (Nat.lt_irrefl _)
/-- every object of the heap is kept -/
theorem HOk.kept (x : HOk P w H h) (k : ∀ b u, h.get? b = some u → h'.get? b = some u) : HOk P w H h' := fun a o e =>
  (x a o e).stay (fun b u _ q => k b u q) (fun _ q => q) fun _ _ q => q
/-- a new object is laid and tracked -/
theorem HOk.laid (x : HOk P w H h) (k : ∀ b u, h.get? b = some u → h'.get? b = some u) (hp : h.objs.size ≤ a) (new : ObjOk P w (upd H a o) h' a o) : HOk P w (upd H a o) h' := fun b u e => by
  have hn := x.fresh hp
  by_cases hb : b = a
  · subst hb; rw [upd_same] at e; cases e; exact new
  · rw [upd_ne hb] at e
    exact (x b u e).stay (fun c v _ q => k c v q) (fun c q => by rw [upd_ne (ne_of_none q hn)]; exact q) fun c xs q => by rw [upd_ne (ne_of_none q hn)]; exact q
end

/-- what may be read as u: it is u, or a known u -/
def Rd (H : Hp) (a : Addr) (u : HO) : Prop := H a = some u ∨ ∃ o, H a = some (.frz o u)
theorem Rd.of {H : Hp} {a : Addr} {u : HO} (h : H a = some u) : Rd H a u := .inl h
theorem Rd.ok {P : Program} {w : World} {H : Hp} {h : Heap} {a : Addr} {u : HO} (r : Rd H a u) (x : HOk P w H h) : ObjOk P w H h a u := by
  rcases r with r | ⟨o, r⟩
  · exact x a u r
  · obtain ⟨_, q⟩ := x a _ r
    exact q
/-- what may be written -/
def Mut : Option HO → Prop
  | some (.lst _) => True
  | some (.dK _) => True
  | some (.dT _) => True
  | some (.set _ _) => True
  | some (.ins _ _ _) => True
  | some (.ext _) => True
  | _ => False
section
variable {P : Program} {w : World} {H : Hp} {h h' : Heap} {x e : Addr} {o' : HO}
/-- the object at e is changed: x itself, or the dict of the instance x -/
theorem HOk.write (ok : HOk P w H h) (mu : Mut (H x)) (he : e = x ∨ H e = some (.own x)) (k : ∀ b u, b ≠ e → h.get? b = some u → h'.get? b = some u) (heo : ∃ u, h'.get? e = some u)
    (new : ObjOk P w (upd H x o') h' x o') : HOk P w (upd H x o') h' := fun b u q => by
  have nown : ∀ c y, H c = some (.own y) → c ≠ x := fun c y r z => by subst z; rw [r] at mu; exact mu
  have ntup : ∀ c xs, H c = some (.tup xs) → c ≠ x := fun c xs r z => by subst z; rw [r] at mu; exact mu
  by_cases hb : b = x
  · subst hb; rw [upd_same] at q; cases q; exact new
  · rw [upd_ne hb] at q
    by_cases hbe : b = e
    · have q' : H b = some (.own x) := by
        rcases he with z | z
        · exact absurd (hbe.trans z) hb
        · rw [hbe]; exact z
      rw [q] at q'; cases q'
      obtain ⟨v, hv⟩ := heo
      exact ⟨v, by rw [hbe]; exact hv⟩
    · refine (ok b u q).stay (fun c v hc r => k c v ?_ r) (fun c r => by rw [upd_ne (nown c b r)]; exact r) fun c xs r => by rw [upd_ne (ntup c xs r)]; exact r
      rcases hc with rfl | hc
      · exact hbe
      · rintro rfl
        rcases he with z | z
        · exact nown c b hc z
        · rw [hc] at z; cases z; exact hb rfl
end

/-! ### kept unless tracked; of the frames at fs (the callers') the slots may change (an exception that passes writes there); of the records at ex (iterators) nothing is said -/
structure Un (fs ex : List Addr) (H H' : Hp) (h h' : Heap) : Prop where
  keep : ∀ b o, h.get? b = some o → H b = none → b ∉ fs → b ∉ ex → h'.get? b = some o
  slot : ∀ b o, h.get? b = some o → H b = none → b ∈ fs → b ∉ ex → ∃ sl, h'.get? b = some { o with slots := sl }
  free : ∀ b o, h.get? b = some o → H b = none → b ∉ ex → H' b = none
  there : ∀ b o, h.get? b = some o → b ∉ ex → ∃ o', h'.get? b = some o'
  tups : ∀ b xs, H b = some (.tup xs) → H' b = some (.tup xs)
  frzs : ∀ b o u, H b = some (.frz o u) → H' b = some (.frz o u)
  tbls : ∀ b ps, H b = some (.tbl ps) → ∃ more, H' b = some (.tbl (ps ++ more))
section
variable {fs fs' ex ex' : List Addr} {H H1 H2 : Hp} {h h1 h2 h' : Heap} {a x e : Addr} {o : HO}
theorem Un.any (u : Un fs ex H H1 h h1) {b : Addr} {ob : Obj} (q : h.get? b = some ob) (n : H b = none) (hx : b ∉ ex) : ∃ sl, h1.get? b = some { ob with slots := sl } := by
  by_cases hb : b ∈ fs
  · exact u.slot b ob q n hb hx
  · exact ⟨ob.slots, u.keep b ob q n hb hx⟩
theorem Un.trans (a : Un fs ex H H1 h h1) (b : Un fs ex H1 H2 h1 h2) : Un fs ex H H2 h h2 where
  keep := fun c ob q n hc hx => b.keep c ob (a.keep c ob q n hc hx) (a.free c ob q n hx) hc hx
  slot := fun c ob q n hc hx => by
    obtain ⟨sl, e1⟩ := a.slot c ob q n hc hx
    obtain ⟨sl', e2⟩ := b.slot c _ e1 (a.free c ob q n hx) hc hx
    exact ⟨sl', e2⟩
  free := fun c ob q n hx => by
    obtain ⟨o', e1⟩ := a.there c ob q hx
    exact b.free c o' e1 (a.free c ob q n hx) hx
  there := fun c ob q hx => by
    obtain ⟨o', e1⟩ := a.there c ob q hx
    exact b.there c o' e1 hx
  tups := fun c xs q => b.tups c xs (a.tups c xs q)
  frzs := fun c ob xs q => b.frzs c ob xs (a.frzs c ob xs q)
  tbls := fun c ps q => by
    obtain ⟨m1, e1⟩ := a.tbls c ps q
    obtain ⟨m2, e2⟩ := b.tbls c _ e1
    exact ⟨m1 ++ m2, by rw [e2, Array.append_assoc]⟩
theorem Un.kept (k : ∀ b u, h.get? b = some u → h'.get? b = some u) : Un fs ex H H h h' :=
  ⟨fun b ob q _ _ _ => k b ob q, fun b ob q _ _ _ => ⟨ob.slots, k b ob q⟩, fun _ _ _ n _ => n, fun b ob q _ => ⟨ob, k b ob q⟩, fun _ _ q => q, fun _ _ _ q => q, fun _ ps q => ⟨#[], by rw [q]; simp⟩⟩
theorem Un.refl : Un fs ex H H h h := Un.kept fun _ _ q => q
theorem Un.laid (k : ∀ b u, h.get? b = some u → h'.get? b = some u) (hp : h.objs.size ≤ a) (hn : H a = none) : Un fs ex H (upd H a o) h h' where
  keep := fun b u q _ _ _ => k b u q
  slot := fun b u q _ _ _ => ⟨u.slots, k b u q⟩
  free := fun b u q n _ => by rw [upd_ne (Nat.ne_of_lt (Nat.lt_of_lt_of_le (Heap.lt_size q) hp))]; exact n
  there := fun b u q _ => ⟨u, k b u q⟩
  tups := fun b xs q => by rw [upd_ne (ne_of_none q hn)]; exact q
  frzs := fun b u xs q => by rw [upd_ne (ne_of_none q hn)]; exact q
  tbls := fun b ps q => ⟨#[], by rw [upd_ne (ne_of_none q hn), q]; simp⟩
theorem Un.write (mu : Mut (H x)) (he : e = x ∨ H e = some (.own x)) (k : ∀ b u, b ≠ e → h.get? b = some u → h'.get? b = some u) (heo : ∃ u, h'.get? e = some u) : Un fs ex H (upd H x o) h h' := by
  have hx : ∀ b, H b = none → b ≠ x := fun b n z => by subst z; rw [n] at mu; exact mu
  have hb : ∀ b, H b = none → b ≠ e := fun b n z => by
    subst z
    rcases he with r | r
    · exact hx b n r
    · rw [n] at r; cases r
  have hm : ∀ b u, H b = some u → ¬ Mut (some u) → b ≠ x := fun b u q nm z => by subst z; rw [q] at mu; exact nm mu
  refine ⟨fun b u q n _ _ => k b u (hb b n) q, fun b u q n _ _ => ⟨u.slots, k b u (hb b n) q⟩, fun b u q n _ => by rw [upd_ne (hx b n)]; exact n, fun b u q _ => ?_,
    fun b xs q => by rw [upd_ne (hm b _ q fun z => z)]; exact q, fun b u xs q => by rw [upd_ne (hm b _ q fun z => z)]; exact q, fun b ps q => ⟨#[], by rw [upd_ne (hm b _ q fun z => z), q]; simp⟩⟩
  by_cases hbe : b = e
  · subst hbe; exact heo
  · exact ⟨u, k b u hbe q⟩
theorem Un.mono (u : Un fs ex H H1 h h1) (hs : ∀ b ∈ fs, b ∈ fs') (hx : ∀ b ∈ ex, b ∈ ex') : Un fs' ex' H H1 h h1 :=
  ⟨fun b ob q n hb he => u.keep b ob q n (fun z => hb (hs b z)) fun z => he (hx b z), fun _ _ q n _ he => u.any q n fun z => he (hx _ z), fun b ob q n he => u.free b ob q n fun z => he (hx b z), fun b ob q he => u.there b ob q fun z => he (hx b z), u.tups, u.frzs, u.tbls⟩
end

/-! ### the heap without what is tracked -/
def trk (h : Heap) (H : Hp) : List Addr := (List.range h.objs.size).filter fun a => (H a).isSome
def hidT (h : Heap) (H : Hp) : Heap := PySem.W.hideAll h (trk h H)
theorem hidT_size (h : Heap) (H : Hp) : (hidT h H).objs.size = h.objs.size := PySem.W.hideAll_size _ _
theorem hidT_get {h : Heap} {H : Hp} {b : Addr} {o : Obj} (e : h.get? b = some o) (n : H b = none) : (hidT h H).get? b = some o :=
  PySem.W.hideAll_get _ e fun hm => by
    have q : (H b).isSome = true := (List.mem_filter.mp hm).2
    rw [n] at q; simp at q
theorem of_hidT {h : Heap} {H : Hp} {b : Addr} {o : Obj} (e : (hidT h H).get? b = some o) : h.get? b = some o ∧ H b = none := by
  have e' : h.get? b = some o := PySem.W.of_hideAll (trk h H) e
  refine ⟨e', ?_⟩
  cases q : H b with
  | none => rfl
  | some x =>
    have hm : b ∈ trk h H := List.mem_filter.mpr ⟨List.mem_range.mpr (Heap.lt_size e'), by simp [q]⟩
    have z : (hidT h H).get? b = none := PySem.W.hideAll_none (trk h H) hm
    rw [z] at e; cases e

/-! ### OpenK's ledger, filled with every new object but one -/
def allNews (g h : Heap) (L : Addr) : List (Addr × Obj) := (List.range h.objs.size).filterMap fun a => if a = L ∨ (g.get? a).isSome = true then none else (h.get? a).map fun o => (a, o)
theorem mem_allNews {g h : Heap} {L a : Addr} {o : Obj} (h1 : a ≠ L) (h2 : g.get? a = none) (h3 : h.get? a = some o) : (a, o) ∈ allNews g h L :=
  List.mem_filterMap.mpr ⟨a, List.mem_range.mpr (Heap.lt_size h3), by simp [h1, h2, h3]⟩
theorem of_mem_allNews {g h : Heap} {L : Addr} {p : Addr × Obj} (hp : p ∈ allNews g h L) : p.1 ≠ L ∧ g.get? p.1 = none ∧ h.get? p.1 = some p.2 := by
  obtain ⟨b, _, e⟩ := List.mem_filterMap.mp hp
  split at e
  · cases e
  · rename_i hn
    cases q : h.get? b with
    | none => rw [q] at e; simp at e
    | some u =>
      rw [q] at e
      simp only [Option.map_some, Option.some.injEq] at e
      subst e
      refine ⟨fun z => hn (.inl z), ?_, q⟩
      show g.get? b = none
      cases r : g.get? b with
      | none => rfl
      | some v => exact (hn (.inr (by simp [r]))).elim
def rest (g h : Heap) (L d : Addr) : List (Addr × Obj) := (allNews g h L).filter fun p => decide (p.1 ≠ d)
theorem rest_ne {g h : Heap} {L d : Addr} : ∀ p ∈ rest g h L d, p.1 ≠ d := fun p hp => of_decide_eq_true (List.mem_filter.mp hp).2
theorem mem_rest {g h : Heap} {L d a : Addr} {o : Obj} (h1 : a ≠ L) (h2 : g.get? a = none) (h3 : h.get? a = some o) (h4 : a ≠ d) : (a, o) ∈ rest g h L d :=
  List.mem_filter.mpr ⟨mem_allNews h1 h2 h3, decide_eq_true h4⟩
theorem news_all {g h : Heap} {L : Addr} : News g L h (allNews g h L) := fun p hp => let ⟨a, b, c⟩ := of_mem_allNews hp; ⟨c, a, b⟩
theorem news_at {g h : Heap} {L d : Addr} {o : Obj} (h1 : d ≠ L) (h2 : g.get? d = none) (h3 : h.get? d = some o) : News g L h ((d, o) :: rest g h L d) := fun p hp => by
  rcases List.mem_cons.mp hp with rfl | hp
  · exact ⟨h3, h1, h2⟩
  · exact news_all p (List.mem_filter.mp hp).1
/-- behind a rule that changed d alone: all else but the frame is kept -/
theorem kept_of_news {g h h' : Heap} {L d : Addr} {m : Str → Option Value} (k : ∀ b o, g.get? b = some o → h.get? b = some o) (F : Fr g L h' m) (N : News g L h' (rest g h L d)) :
    ∀ b o, b ≠ L → b ≠ d → h.get? b = some o → h'.get? b = some o := fun b o h1 h2 e => by
  cases q : g.get? b with
  | some u =>
    have := k b u q
    rw [e] at this; cases this
    exact F.keep b _ q
  | none => exact (N (b, o) (mem_rest h1 q e h2)).1
end L2

namespace L2
open PySem PySem.Spec PyProof.Rows

/-- the module's facts, over the base: the heap at the law's entry without what is tracked there -/
structure Mod (K : PySem.W.Frag) (mg : Str → Option Value) (base : Heap) : Prop where
  kin : K.In base
  glob : base.Ns mainGlobals mg
  blt : ∃ mb, base.Ns builtinsNs mb ∧ ∀ x : Str, x ≠ "__name__" → mb x = bootBuiltins x
  nolimit : base.NoLimit

/-- the context: a def's body (or a comprehension's block) running. base: fixed through the whole law; s₀, H₀: the entry; outer: the frames whose slots others may change (a def's callers); stack: all frames that run;
   ex: iterators that were made ahead of the entry and are walked here (a comprehension's); fn: the names whose cells were made at the entry (a def: all; a comprehension's block: its own); calm: not within an except suite; pn: pins that every state bears; xe: what is wanted of an exception that leaves the code -/
structure Cx where
  prog : Program
  w : World
  K : PySem.W.Frag
  mg : Str → Option Value
  base : Heap
  A : Around
  N : List Str
  s₀ : Shared
  H₀ : Hp
  env : Env
  outer : List Env
  stack : List Env
  ex : List Addr
  fn : Str → Bool
  calm : Bool
  pn : List (Addr × Obj)
  xe : Value → Shared → Prop
/-- the callers' frames -/
def frs (l : List Env) : List Addr := l.filterMap (·.frame)
abbrev Cx.fs (X : Cx) : List Addr := frs X.outer

def Vis (sc : Scope) (x : Str) : Prop := sc.names.lookup x = some .local ∨ sc.names.lookup x = some .cell ∨ sc.names.lookup x = some .free
def Loc (sc : Scope) (x : Str) : Prop := sc.names.lookup x = some .local ∨ sc.names.lookup x = some .cell
def Look (env : Env) (h : Heap) (m : Str → Option Value) (x : Str) (u : Value) : Prop :=
  (env.kindOf x = some .local ∧ m x = some u) ∨ ((env.kindOf x = some .cell ∨ env.kindOf x = some .free) ∧ ∃ c, env.cells.lookup x = some c ∧ h.IsCell c (some u))

structure Cx.Ok (X : Cx) : Prop where
  mod : Mod X.K X.mg X.base
  kind : X.env.scope.kind = .function
  glob : X.env.globals = mainGlobals
  blt : X.env.builtins = builtinsNs
  above : X.s₀.heap.objs.size ≤ X.env.locals
  inj : ∀ x y c, X.env.cells.lookup x = some c → X.env.cells.lookup y = some c → x = y
  has : ∀ x, (X.env.kindOf x = some .cell ∨ X.env.kindOf x = some .free) → ∃ c, X.env.cells.lookup x = some c
  cab : ∀ x c, X.fn x = true → X.env.cells.lookup x = some c → X.s₀.heap.objs.size ≤ c
  hd : X.calm = true → X.A.handled = none
  frames : X.A.frames = some X.stack
  stk : X.stack = X.outer ∨ (X.stack = X.env :: X.outer ∧ X.env.frame = some X.env.locals)
  exf : ∀ b ∈ X.ex, b ≠ X.env.locals ∧ ∀ x c, X.env.cells.lookup x = some c → c ≠ b
  bs : ∀ b o, X.base.get? b = some o → X.s₀.heap.get? b = some o ∧ X.H₀ b = none
  bsz : X.base.objs.size ≤ X.s₀.heap.objs.size
  noex : ∀ b o, X.base.get? b = some o → b ∉ X.ex
  exfs : ∀ b ∈ X.ex, b ∉ X.fs
  funs : X.s₀.heap.FunFrames X.base X.outer
  frf : ∀ b ∈ X.fs, X.H₀ b = none

structure Inv (X : Cx) (pins : List (Addr × Obj)) (σ : List (Option V)) (H : Hp) (s : Shared) : Prop where
  ok : X.Ok
  os : s.os = X.s₀.os
  bare : AllBare s.gens
  base : Un X.fs X.ex X.H₀ H X.s₀.heap s.heap
  loc : ∃ m, s.heap.Ns X.env.locals m ∧ ∀ (i : Nat) (x : Str) (v : V), X.N[i]? = some x → σ[i]? = some (some v) → Vis X.env.scope x → ∃ u, RelV v u ∧ Look X.env s.heap m x u
  cell : ∀ x c, X.env.cells.lookup x = some c → ∃ v, s.heap.IsCell c v
  free : H X.env.locals = none
  freeC : ∀ x c, X.env.cells.lookup x = some c → H c = none
  pin : ∀ p ∈ X.pn ++ pins, s.heap.get? p.1 = some p.2 ∧ H p.1 = none ∧ p.1 ≠ X.env.locals ∧ p.1 ∉ X.fs ∧ ∀ v, p.2.data ≠ .cell v
  hok : HOk X.prog X.w H s.heap
  len : σ.length = X.N.length

section
variable {X : Cx} {pins : List (Addr × Obj)} {σ : List (Option V)} {H H' : Hp} {s : Shared} {h' : Heap}

theorem Cx.Ok.nofr (ok : X.Ok) {b : Addr} {o : Obj} (e : X.base.get? b = some o) : b ∉ X.fs := fun hb => by
  have := (ok.funs.mem hb).1
  rw [e] at this; cases this
theorem Inv.bs (I : Inv X pins σ H s) : ∀ b o, X.base.get? b = some o → s.heap.get? b = some o ∧ H b = none := fun b o e =>
  ⟨I.base.keep b o (I.ok.bs b o e).1 (I.ok.bs b o e).2 (I.ok.nofr e) (I.ok.noex b o e), I.base.free b o (I.ok.bs b o e).1 (I.ok.bs b o e).2 (I.ok.noex b o e)⟩
theorem Inv.bk (I : Inv X pins σ H s) : ∀ b o, X.base.get? b = some o → s.heap.get? b = some o := fun b o e => (I.bs b o e).1
theorem Inv.mod (I : Inv X pins σ H s) : Mod X.K X.mg X.base := I.ok.mod
theorem Inv.kIn (I : Inv X pins σ H s) : X.K.In s.heap := I.ok.mod.kin.keeps I.bk
theorem Inv.nolimit (I : Inv X pins σ H s) : s.heap.NoLimit := I.ok.mod.nolimit.keeps I.bk
/-- the frame over the base: for OpenK's rules (K.In X.base is I.mod.kin) -/
theorem Inv.fr (I : Inv X pins σ H s) : ∃ m, Fr X.base X.env.locals s.heap m :=
  let ⟨m, hn, _⟩ := I.loc
  ⟨m, hn, I.bk, Nat.le_trans I.ok.bsz I.ok.above⟩
theorem Inv.lt (I : Inv X pins σ H s) : X.env.locals < s.heap.objs.size := let ⟨_, hn, _⟩ := I.loc; hn.lt
theorem Inv.sz (I : Inv X pins σ H s) : X.s₀.heap.objs.size ≤ s.heap.objs.size := Nat.le_trans I.ok.above (Nat.le_of_lt I.lt)
theorem Inv.nofs (I : Inv X pins σ H s) {a : Addr} (h : s.heap.objs.size ≤ a) : a ∉ X.fs := fun hb => by
  obtain ⟨_, o, ho, _⟩ := I.ok.funs.mem hb
  exact absurd (Nat.lt_of_lt_of_le (Heap.lt_size ho) (Nat.le_trans I.sz h)) (Nat.lt_irrefl _)
theorem Inv.cne (I : Inv X pins σ H s) : ∀ x c, X.env.cells.lookup x = some c → c ≠ X.env.locals := fun x c e z => by
  obtain ⟨v, o, ho, hd⟩ := I.cell x c e
  obtain ⟨m, ⟨o', es, ep, ho', hd', _⟩, _⟩ := I.loc
  rw [z, ho'] at ho; cases ho; rw [hd'] at hd; cases hd
theorem Inv.funs (I : Inv X pins σ H s) : s.heap.FunFrames X.base X.outer := by
  have all : ∀ (l : List Env), (∀ b ∈ frs l, b ∈ X.fs) → X.s₀.heap.FunFrames X.base l → s.heap.FunFrames X.base l := by
    intro l
    induction l with
    | nil => intro _ _; trivial
    | cons env r ih =>
      intro hs hl
      obtain ⟨hk, ⟨L, o, hf, hn, ho, hd⟩, hr⟩ := hl
      have hL : L ∈ X.fs := hs L (by unfold frs; rw [List.filterMap_cons, hf]; exact List.mem_cons_self)
      obtain ⟨sl, e⟩ := I.base.slot L o ho (I.ok.frf L hL) hL fun z => I.ok.exfs L z hL
      exact ⟨hk, ⟨L, _, hf, hn, e, hd⟩, ih (fun b hb => hs b (by unfold frs; rw [List.filterMap_cons, hf]; exact List.mem_cons_of_mem _ hb)) hr⟩
  exact all X.outer (fun _ hb => hb) I.ok.funs

/-- the frames that run, for a call -/
theorem Inv.stack (I : Inv X pins σ H s) : s.heap.FunFrames X.base X.stack := by
  rcases I.ok.stk with e | ⟨e, hf⟩
  · rw [e]; exact I.funs
  · rw [e]
    obtain ⟨m, hn, _⟩ := I.loc
    refine .cons (by rw [I.ok.kind]; decide) hf hn ?_ I.funs
    exact Heap.get?_none_of_le (Nat.le_trans I.ok.bsz I.ok.above)
theorem Inv.stkSub (I : Inv X pins σ H s) : ∀ b ∈ frs X.stack, b ∈ X.env.locals :: X.fs := fun b hb => by
  rcases I.ok.stk with e | ⟨e, hf⟩
  · rw [e] at hb; exact List.mem_cons_of_mem _ hb
  · rw [e] at hb
    unfold frs at hb
    rw [List.filterMap_cons, hf] at hb
    exact hb
theorem Inv.stkFree (I : Inv X pins σ H s) : ∀ b ∈ frs X.stack, H b = none := fun b hb => by
  rcases List.mem_cons.mp (I.stkSub b hb) with e | hb
  · rw [e]; exact I.free
  · obtain ⟨_, o, ho, _⟩ := I.ok.funs.mem hb
    exact I.base.free b o ho (I.ok.frf b hb) fun z => I.ok.exfs b z hb

/-- THE STEP: the untracked objects but the frame and the records at ch are kept (the callers' frames up to slots), the frame's map is kept, the new abstract heap is held -/
theorem Inv.step {g' : Array GenState} {t' : Nat} {d' : Drawn} {ch : List Addr} (I : Inv X pins σ H s)
    (hch : ∀ b ∈ ch, (b ∈ X.ex ∨ X.s₀.heap.objs.size ≤ b) ∧ b ≠ X.env.locals ∧ (∀ x c, X.env.cells.lookup x = some c → c ≠ b) ∧ ∀ p ∈ X.pn ++ pins, p.1 ≠ b)
    (keep : ∀ b o, b ≠ X.env.locals → b ∉ X.fs → b ∉ ch → s.heap.get? b = some o → H b = none → h'.get? b = some o)
    (slot : ∀ b o, b ≠ X.env.locals → b ∈ X.fs → b ∉ ch → s.heap.get? b = some o → H b = none → ∃ sl, h'.get? b = some { o with slots := sl }) (free : ∀ b o, b ∉ ch → s.heap.get? b = some o → H b = none → H' b = none)
    (there : ∀ b o, b ∉ ch → s.heap.get? b = some o → ∃ o', h'.get? b = some o')
    (tups : ∀ b xs, H b = some (.tup xs) → H' b = some (.tup xs)) (frzs : ∀ b o u, H b = some (.frz o u) → H' b = some (.frz o u)) (tbls : ∀ b ps, H b = some (.tbl ps) → ∃ more, H' b = some (.tbl (ps ++ more)))
    (ns : ∀ m, s.heap.Ns X.env.locals m → h'.Ns X.env.locals m) (hok : HOk X.prog X.w H' h') (hg : AllBare g') :
    Inv X pins σ H' { s with heap := h', gens := g', drawn := d', toks := t' } := by
  have neL : ∀ b o, X.s₀.heap.get? b = some o → b ≠ X.env.locals := fun b o e => Nat.ne_of_lt (Nat.lt_of_lt_of_le (Heap.lt_size e) I.ok.above)
  have neC : ∀ b o, X.s₀.heap.get? b = some o → b ∉ X.ex → b ∉ ch := fun b o e hx hb => by
    rcases (hch b hb).1 with z | z
    · exact hx z
    · exact absurd (Nat.lt_of_lt_of_le (Heap.lt_size e) z) (Nat.lt_irrefl _)
  have cellK : ∀ x c, X.env.cells.lookup x = some c → ∀ v, s.heap.IsCell c v → h'.IsCell c v := fun x c e v ⟨o, ho, hd⟩ => by
    have nch : c ∉ ch := fun z => (hch c z).2.2.1 x c e rfl
    by_cases hc : c ∈ X.fs
    · obtain ⟨sl, q⟩ := slot c o (I.cne x c e) hc nch ho (I.freeC x c e)
      exact ⟨_, q, hd⟩
    · exact ⟨o, keep c o (I.cne x c e) hc nch ho (I.freeC x c e), hd⟩
  refine ⟨I.ok, I.os, hg, ⟨fun b o e n hb hx => ?_, fun b o e n hb hx => ?_, fun b o e n hx => ?_, fun b o e hx => ?_, fun b xs e => tups b xs (I.base.tups b xs e), fun b o xs e => frzs b o xs (I.base.frzs b o xs e), fun b ps e => ?_⟩, ?_, fun x c e => ?_, ?_, fun x c e => ?_, fun p hp => ?_, hok, I.len⟩
  · exact keep b o (neL b o e) hb (neC b o e hx) (I.base.keep b o e n hb hx) (I.base.free b o e n hx)
  · obtain ⟨sl, e1⟩ := I.base.slot b o e n hb hx
    obtain ⟨sl', e2⟩ := slot b _ (neL b o e) hb (neC b o e hx) e1 (I.base.free b o e n hx)
    exact ⟨sl', e2⟩
  · obtain ⟨o', e1⟩ := I.base.there b o e hx
    exact free b o' (neC b o e hx) e1 (I.base.free b o e n hx)
  · obtain ⟨o', e1⟩ := I.base.there b o e hx
    exact there b o' (neC b o e hx) e1
  · obtain ⟨m1, e1⟩ := I.base.tbls b ps e
    obtain ⟨m2, e2⟩ := tbls b _ e1
    exact ⟨m1 ++ m2, by rw [e2, Array.append_assoc]⟩
  · obtain ⟨m, hn, hl⟩ := I.loc
    refine ⟨m, ns m hn, fun i x v e1 e2 e3 => ?_⟩
    obtain ⟨u, r, l⟩ := hl i x v e1 e2 e3
    refine ⟨u, r, ?_⟩
    rcases l with l | ⟨k, c, e, z⟩
    · exact .inl l
    · exact .inr ⟨k, c, e, cellK x c e _ z⟩
  · obtain ⟨v, z⟩ := I.cell x c e
    exact ⟨v, cellK x c e v z⟩
  · obtain ⟨m, ⟨o, _, _, ho, _⟩, _⟩ := I.loc
    exact free _ o (fun z => (hch _ z).2.1 rfl) ho I.free
  · obtain ⟨v, o, ho, hd⟩ := I.cell x c e
    exact free c o (fun z => (hch c z).2.2.1 x c e rfl) ho (I.freeC x c e)
  · obtain ⟨e, n, ne, nf, d⟩ := I.pin p hp
    have nch : p.1 ∉ ch := fun z => (hch p.1 z).2.2.2 p hp rfl
    exact ⟨keep p.1 p.2 ne nf nch e n, free p.1 p.2 nch e n, ne, nf, d⟩
/-- .. where the frame's own object is kept too -/
theorem Inv.un {t' : Nat} (I : Inv X pins σ H s) (u : Un X.fs [] H H' s.heap h') (hok : HOk X.prog X.w H' h') : Inv X pins σ H' { s with heap := h', toks := t' } := by
  obtain ⟨m, ⟨o, es, ep, ho, r⟩, _⟩ := id I.loc
  obtain ⟨sl, hL⟩ := u.any ho I.free (by simp)
  exact I.step (g' := s.gens) (d' := s.drawn) (ch := []) (fun _ z => nomatch z) (fun b o _ hb _ e n => u.keep b o e n hb (by simp)) (fun b o _ hb _ e n => u.slot b o e n hb (by simp)) (fun b o _ e n => u.free b o e n (by simp)) (fun b o _ e => u.there b o e (by simp)) u.tups u.frzs u.tbls (fun m' hm => by
    obtain ⟨o', es', ep', ho', r'⟩ := hm
    rw [ho] at ho'; cases ho'
    exact ⟨_, es', ep', hL, r'⟩) hok I.bare
/-- behind a call (or a comprehension's block): the slots of this frame may have changed too, the records at ch may have turned -/
theorem Inv.call {g' : Array GenState} {t' : Nat} {d' : Drawn} {ch : List Addr} (I : Inv X pins σ H s) (u : Un (frs X.stack) ch H H' s.heap h') (hok : HOk X.prog X.w H' h') (hg : AllBare g')
    (hch : ∀ b ∈ ch, (b ∈ X.ex ∨ X.s₀.heap.objs.size ≤ b) ∧ b ≠ X.env.locals ∧ (∀ x c, X.env.cells.lookup x = some c → c ≠ b) ∧ ∀ p ∈ X.pn ++ pins, p.1 ≠ b) :
    Inv X pins σ H' { s with heap := h', gens := g', drawn := d', toks := t' } := by
  obtain ⟨m, ⟨o, es, ep, ho, r⟩, _⟩ := id I.loc
  obtain ⟨sl, hL⟩ := u.any ho I.free fun z => (hch _ z).2.1 rfl
  exact I.step (ch := ch) hch (fun b o hL hb hc e n => u.keep b o e n (fun z => (List.mem_cons.mp (I.stkSub b z)).elim hL hb) hc) (fun b o _ _ hc e n => u.any e n hc) (fun b o hc e n => u.free b o e n hc) (fun b o hc e => u.there b o e hc) u.tups u.frzs u.tbls (fun m' hm => by
    obtain ⟨o', es', ep', ho', r'⟩ := hm
    rw [ho] at ho'; cases ho'
    exact ⟨_, es', ep', hL, r'⟩) hok hg
/-- an untracked record of ours (an iterator) has turned -/
theorem Inv.turned {t' : Nat} {it : Addr} (I : Inv X pins σ H s) (k : ∀ b o, b ≠ it → s.heap.get? b = some o → h'.get? b = some o) (hn : H it = none) (hL : it ≠ X.env.locals)
    (h1 : it ∈ X.ex ∨ X.s₀.heap.objs.size ≤ it) (h2 : ∀ x c, X.env.cells.lookup x = some c → c ≠ it) (h3 : ∀ p ∈ X.pn ++ pins, p.1 ≠ it) : Inv X pins σ H { s with heap := h', toks := t' } := by
  have nit : ∀ b u, H b = some u → b ≠ it := fun b u e z => by rw [z, hn] at e; cases e
  refine I.step (g' := s.gens) (d' := s.drawn) (ch := [it]) (fun b hb => ?_) (fun b o _ _ hc e _ => k b o (fun z => hc (by simp [z])) e) (fun b o _ _ hc e _ => ⟨o.slots, k b o (fun z => hc (by simp [z])) e⟩) (fun _ _ _ _ n => n)
    (fun b o hc e => ⟨o, k b o (fun z => hc (by simp [z])) e⟩) (fun _ _ e => e) (fun _ _ _ e => e) (fun b ps e => ⟨#[], by rw [e]; simp⟩) (fun m hm => ?_) (fun b u e => ?_) I.bare
  · have e : b = it := by simpa using hb
    subst e
    exact ⟨h1, hL, h2, h3⟩
  · obtain ⟨o, es, ep, ho, r⟩ := hm
    exact ⟨o, es, ep, k _ o (Ne.symm hL) ho, r⟩
  · refine (I.hok b u e).stay (fun c v hc q => k c v ?_ q) (fun _ q => q) fun _ _ q => q
    rcases hc with z | z
    · rw [z]; exact nit b u e
    · exact nit c _ z
theorem Inv.tok (I : Inv X pins σ H s) (t : Nat) : Inv X pins σ H { s with toks := t } := I.un (h' := s.heap) (t' := t) Un.refl I.hok
/-- all objects kept -/
theorem Inv.kept {t' : Nat} (I : Inv X pins σ H s) (k : ∀ b u, s.heap.get? b = some u → h'.get? b = some u) : Inv X pins σ H { s with heap := h', toks := t' } := I.un (Un.kept k) (I.hok.kept k)
/-- a new object laid and tracked -/
theorem Inv.laid {a : Addr} {o : HO} {t' : Nat} (I : Inv X pins σ H s) (k : ∀ b u, s.heap.get? b = some u → h'.get? b = some u) (hp : s.heap.objs.size ≤ a) (new : ObjOk X.prog X.w (upd H a o) h' a o) :
    Inv X pins σ (upd H a o) { s with heap := h', toks := t' } := I.un (Un.laid k hp (I.hok.fresh hp)) (I.hok.laid k hp new)
/-- an object written -/
theorem Inv.write {x e : Addr} {o : HO} {t' : Nat} (I : Inv X pins σ H s) (mu : Mut (H x)) (he : e = x ∨ H e = some (.own x)) (k : ∀ b u, b ≠ e → s.heap.get? b = some u → h'.get? b = some u) (heo : ∃ u, h'.get? e = some u)
    (new : ObjOk X.prog X.w (upd H x o) h' x o) : Inv X pins σ (upd H x o) { s with heap := h', toks := t' } := I.un (Un.write mu he k heo) (I.hok.write mu he k heo new)
/-- forgetting slots, pins -/
theorem Inv.weak {σ' : List (Option V)} (I : Inv X pins σ H s) (hl : σ'.length = σ.length) (w : ∀ (i : Nat) v, σ'[i]? = some (some v) → σ[i]? = some (some v)) : Inv X pins σ' H s :=
  ⟨I.ok, I.os, I.bare, I.base, let ⟨m, hn, hl'⟩ := I.loc; ⟨m, hn, fun i x v e1 e2 e3 => hl' i x v e1 (w i v e2) e3⟩, I.cell, I.free, I.freeC, I.pin, I.hok, hl.trans I.len⟩
theorem Inv.pins_of {pins' : List (Addr × Obj)} (I : Inv X pins σ H s) (h : ∀ p ∈ pins', s.heap.get? p.1 = some p.2 ∧ H p.1 = none ∧ p.1 ≠ X.env.locals ∧ p.1 ∉ X.fs ∧ ∀ v, p.2.data ≠ .cell v) : Inv X pins' σ H s :=
  ⟨I.ok, I.os, I.bare, I.base, I.loc, I.cell, I.free, I.freeC, fun p hp => (List.mem_append.mp hp).elim (fun z => I.pin p (List.mem_append_left _ z)) (h p), I.hok, I.len⟩

theorem nodup_ix {N : List Str} (hN : N.Nodup) {i j : Nat} {x : Str} (a : N[i]? = some x) (b : N[j]? = some x) : i = j := by
  obtain ⟨h1, e1⟩ := List.getElem?_eq_some_iff.mp a
  obtain ⟨h2, e2⟩ := List.getElem?_eq_some_iff.mp b
  exact (List.getElem_inj hN).mp (e1.trans e2.symm)

/-- a name is stored; what changed -/
theorem store_ok2 {M : Model} {A : Around} {E : Value → Shared → Prop} {i : Nat} {x : Str} {v : V} {u : Value} {Q : Unit → Shared → Prop} (I : Inv X pins σ H s) (hN : X.N.Nodup) (hi : X.N[i]? = some x) (hx : Loc X.env.scope x) (r : RelV v u)
    (h : ∀ s', Inv X pins (σ.set i (some v)) H s' → (∃ a, Heap.SameBut a s.heap s'.heap ∧ (a = X.env.locals ∨ X.env.cells.lookup x = some a)) → Q () s') (hf : X.fn x = true ∨ X.env.scope.names.lookup x = some .local := by first | exact .inl rfl | exact .inr rfl | assumption) : wpAny M A (storeName X.env x u) Q E s := by
  obtain ⟨m, hn, hl⟩ := id I.loc
  have hcls : (X.env.scope.kind == .class || (X.env.scope.kind == .module && X.env.locals != X.env.globals)) = false := by rw [I.ok.kind]; rfl
  have hiσ : i < σ.length := by rw [I.len]; exact (List.getElem?_eq_some_iff.mp hi).1
  have cne := I.cne
  have tracked : ∀ {a : Addr} {h' : Heap}, (∃ o, s.heap.get? a = some o ∧ H a = none) → Heap.SameBut a s.heap h' → HOk X.prog X.w H h' := fun {a h'} ha hs b ob e => by
    obtain ⟨_, _, hfree⟩ := ha
    refine (I.hok b ob e).stay (fun c w' hc q => (hs.2 c ?_).trans q) (fun _ q => q) fun _ _ q => q
    rintro rfl
    rcases hc with rfl | hc
    · rw [hfree] at e; cases e
    · rw [hfree] at hc; cases hc
  rcases hx with hk | hk
  · refine wpAny_storeName_local hk hn (fun h' hn' hs => ?_) hcls
    obtain ⟨oL, _, _, hoL, _⟩ := id hn
    refine h _ ⟨I.ok, I.os, I.bare, ⟨fun b o e n hb hx => ?_, fun b o e n hb hx => ?_, I.base.free, fun b o e hx => ?_, I.base.tups, I.base.frzs, I.base.tbls⟩, ⟨_, hn', fun j y v' e1 e2 e3 => ?_⟩, fun y c e => ?_, I.free, I.freeC, fun p hp => ?_, tracked ⟨oL, hoL, I.free⟩ hs, by simpa using I.len⟩ ⟨_, hs, .inl rfl⟩
    · exact (hs.2 b (Nat.ne_of_lt (Nat.lt_of_lt_of_le (Heap.lt_size e) I.ok.above))).trans (I.base.keep b o e n hb hx)
    · obtain ⟨sl, e1⟩ := I.base.slot b o e n hb hx
      exact ⟨sl, (hs.2 b (Nat.ne_of_lt (Nat.lt_of_lt_of_le (Heap.lt_size e) I.ok.above))).trans e1⟩
    · obtain ⟨o', e1⟩ := I.base.there b o e hx
      exact ⟨o', (hs.2 b (Nat.ne_of_lt (Nat.lt_of_lt_of_le (Heap.lt_size e) I.ok.above))).trans e1⟩
    · by_cases hj : j = i
      · subst hj
        rw [hi] at e1; cases e1
        rw [List.getElem?_set_self hiσ] at e2
        cases e2
        exact ⟨u, r, .inl ⟨hk, by simp⟩⟩
      · rw [List.getElem?_set_ne (Ne.symm hj)] at e2
        obtain ⟨u', r', q⟩ := hl j y v' e1 e2 e3
        refine ⟨u', r', ?_⟩
        rcases q with ⟨k, e⟩ | ⟨k, c, e, z⟩
        · refine .inl ⟨k, ?_⟩
          have : y ≠ x := fun e => hj (nodup_ix hN e1 (e ▸ hi))
          simp [this, e]
        · exact .inr ⟨k, c, e, z.sameBut hs (cne y c e)⟩
    · obtain ⟨w', z⟩ := I.cell y c e
      exact ⟨w', z.sameBut hs (cne y c e)⟩
    · obtain ⟨e, n, ne, nf, d⟩ := I.pin p hp
      exact ⟨(hs.2 p.1 ne).trans e, n, ne, nf, d⟩
  · have hfn : X.fn x = true := by
      rcases hf with z | z
      · exact z
      · rw [z] at hk; cases hk
    obtain ⟨c, hc⟩ := I.ok.has x (.inl hk)
    obtain ⟨w', z⟩ := I.cell x c hc
    refine wpAny_storeName_cell I.ok.kind hk hc z (fun h' hc' hs => ?_)
    obtain ⟨oc, hoc, hocd⟩ := id z
    refine h { s with heap := h' } ⟨I.ok, I.os, I.bare, ⟨fun b o e n hb hx => ?_, fun b o e n hb hx => ?_, I.base.free, fun b o e hx => ?_, I.base.tups, I.base.frzs, I.base.tbls⟩, ⟨m, hn.sameBut hs (Ne.symm (cne x c hc)), fun j y v' e1 e2 e3 => ?_⟩, fun y c' e => ?_, I.free, I.freeC, fun p hp => ?_, tracked ⟨oc, hoc, I.freeC x c hc⟩ hs, by simpa using I.len⟩ ⟨c, hs, .inr hc⟩
    · exact (hs.2 b (Nat.ne_of_lt (Nat.lt_of_lt_of_le (Heap.lt_size e) (I.ok.cab x c hfn hc)))).trans (I.base.keep b o e n hb hx)
    · obtain ⟨sl, e1⟩ := I.base.slot b o e n hb hx
      exact ⟨sl, (hs.2 b (Nat.ne_of_lt (Nat.lt_of_lt_of_le (Heap.lt_size e) (I.ok.cab x c hfn hc)))).trans e1⟩
    · obtain ⟨o', e1⟩ := I.base.there b o e hx
      exact ⟨o', (hs.2 b (Nat.ne_of_lt (Nat.lt_of_lt_of_le (Heap.lt_size e) (I.ok.cab x c hfn hc)))).trans e1⟩
    · by_cases hj : j = i
      · subst hj
        rw [hi] at e1; cases e1
        rw [List.getElem?_set_self hiσ] at e2
        cases e2
        exact ⟨u, r, .inr ⟨.inl hk, c, hc, hc'⟩⟩
      · rw [List.getElem?_set_ne (Ne.symm hj)] at e2
        obtain ⟨u', r', q⟩ := hl j y v' e1 e2 e3
        refine ⟨u', r', ?_⟩
        rcases q with q | ⟨k, c', e, z'⟩
        · exact .inl q
        · refine .inr ⟨k, c', e, z'.sameBut hs ?_⟩
          rintro rfl
          exact hj (nodup_ix hN e1 (I.ok.inj _ _ _ e hc ▸ hi))
    · by_cases hcc : c' = c
      · subst hcc; exact ⟨_, hc'⟩
      · obtain ⟨w2, z2⟩ := I.cell y c' e
        exact ⟨w2, z2.sameBut hs hcc⟩
    · obtain ⟨e, n, ne, nf, d⟩ := I.pin p hp
      refine ⟨(hs.2 p.1 ?_).trans e, n, ne, nf, d⟩
      intro q
      rw [q, hoc] at e
      have q' : oc = p.2 := Option.some.inj e
      exact d w' (by rw [← q']; exact hocd)
theorem store_ok {M : Model} {A : Around} {E : Value → Shared → Prop} {i : Nat} {x : Str} {v : V} {u : Value} {Q : Unit → Shared → Prop} (I : Inv X pins σ H s) (hN : X.N.Nodup) (hi : X.N[i]? = some x) (hx : Loc X.env.scope x) (r : RelV v u)
    (h : ∀ s', Inv X pins (σ.set i (some v)) H s' → Q () s') (hf : X.fn x = true ∨ X.env.scope.names.lookup x = some .local := by first | exact .inl rfl | exact .inr rfl | assumption) : wpAny M A (storeName X.env x u) Q E s :=
  store_ok2 I hN hi hx r (fun s' I' _ => h s' I') hf
/-- behind a call or a block, the state as it is -/
theorem Inv.call' {s' : Shared} {ch : List Addr} (I : Inv X pins σ H s) (ho : s'.os = s.os) (u : Un (frs X.stack) ch H H' s.heap s'.heap) (hok : HOk X.prog X.w H' s'.heap) (hg : AllBare s'.gens)
    (hch : ∀ b ∈ ch, (b ∈ X.ex ∨ X.s₀.heap.objs.size ≤ b) ∧ b ≠ X.env.locals ∧ (∀ x c, X.env.cells.lookup x = some c → c ≠ b) ∧ ∀ p ∈ X.pn ++ pins, p.1 ≠ b) : Inv X pins σ H' s' := by
  obtain ⟨h', g', d', t', o'⟩ := s'
  have e : o' = s.os := ho
  subst e
  exact I.call (g' := g') (t' := t') (d' := d') u hok hg hch
end

/-! ### the judgements -/
/-- an exception: its class, its own dict's address (where it has one), the abstract heap behind it -/
abbrev XK := Value → Option Addr → Hp → Prop
abbrev St := List (Option V)
abbrev VK := V → Hp → Prop
/-- an expression's reading; a test's; an argument list's -/
abbrev TE := St → Hp → VK → Prop
abbrev TT := St → Hp → (Bool → Hp → Prop) → Prop
abbrev TA := St → Hp → (List V → Hp → Prop) → Prop
/-- what is wanted behind a statement -/
structure Ends where
  nx : St → Hp → Prop
  rt : VK
  bk : St → Hp → Prop := fun _ _ => False
  ct : St → Hp → Prop := fun _ _ => False
abbrev TS := Ends → St → Hp → Prop

def EP (X : Cx) (pins : List (Addr × Obj)) (σ : St) (Q : VK) (u : Value) (s' : Shared) : Prop := ∃ v H', Inv X pins σ H' s' ∧ RelV v u ∧ Q v H'
def TP (X : Cx) (pins : List (Addr × Obj)) (σ : St) (Q : Bool → Hp → Prop) (b : Bool) (s' : Shared) : Prop := ∃ H', Inv X pins σ H' s' ∧ Q b H'
def AP (X : Cx) (pins : List (Addr × Obj)) (σ : St) (Q : List V → Hp → Prop) (us : List Value) (s' : Shared) : Prop := ∃ vs H', Inv X pins σ H' s' ∧ Vals vs us ∧ Q vs H'
def SP (X : Cx) (pins : List (Addr × Obj)) (D : Ends) (f : Flow) (s' : Shared) : Prop :=
  match f with
  | .next => ∃ σ' H', Inv X pins σ' H' s' ∧ D.nx σ' H'
  | .brk => ∃ σ' H', Inv X pins σ' H' s' ∧ D.bk σ' H'
  | .cont => ∃ σ' H', Inv X pins σ' H' s' ∧ D.ct σ' H'
  | .ret u => ∃ v σ' H', Inv X pins σ' H' s' ∧ RelV v u ∧ D.rt v H'

def PE (X : Cx) (e : Expr) (t : TE) : Prop :=
  ∀ (pins : List (Addr × Obj)) (s : Shared) (σ : St) (H : Hp) (Q : VK), Inv X pins σ H s → t σ H Q → wpAny (model X.prog X.w) X.A (eval e X.env) (EP X pins σ Q) X.xe s
def PT (X : Cx) (e : Expr) (t : TT) : Prop :=
  ∀ (pins : List (Addr × Obj)) (s : Shared) (σ : St) (H : Hp) (Q : Bool → Hp → Prop), Inv X pins σ H s → t σ H Q → wpAny (model X.prog X.w) X.A (isTrue e X.env (eval e X.env)) (TP X pins σ Q) X.xe s
/-- a test whatever its 'whole' is (and, or) -/
def PW (X : Cx) (e : Expr) (t : TT) : Prop :=
  ∀ (whole : Sem Value) (pins : List (Addr × Obj)) (s : Shared) (σ : St) (H : Hp) (Q : Bool → Hp → Prop), Inv X pins σ H s → t σ H Q → wpAny (model X.prog X.w) X.A (isTrue e X.env whole) (TP X pins σ Q) X.xe s
theorem PW.pt {X : Cx} {e : Expr} {t : TT} (h : PW X e t) : PT X e t := h _
/-- an argument list (no star), from the left -/
def PA (X : Cx) (es : List Expr) (t : TA) : Prop :=
  ∀ (pos : Pos) (pins : List (Addr × Obj)) (s : Shared) (σ : St) (H : Hp) (Q : List V → Hp → Prop), Inv X pins σ H s → t σ H Q → wpAny (model X.prog X.w) X.A (spliced (backTo pos (starEach es X.env))) (AP X pins σ Q) X.xe s
def PS (X : Cx) (st : Stmt) (t : TS) : Prop :=
  ∀ (pins : List (Addr × Obj)) (s : Shared) (σ : St) (H : Hp) (D : Ends), Inv X pins σ H s → t D σ H → wpAny (model X.prog X.w) X.A (exec st X.env) (SP X pins D) X.xe s
def PSs (X : Cx) (st : List Stmt) (t : TS) : Prop :=
  ∀ (pins : List (Addr × Obj)) (s : Shared) (σ : St) (H : Hp) (D : Ends), Inv X pins σ H s → t D σ H → wpAny (model X.prog X.w) X.A (execs st X.env) (SP X pins D) X.xe s
/-- weaken the end -/
theorem thn {α : Type} {t : Sem α} {Q Q' : α → Shared → Prop} {M : Model} {A : Around} {E : Value → Shared → Prop} {s : Shared} (h : wpAny M A t Q E s) (hQ : ∀ a s, Q a s → Q' a s) : wpAny M A t Q' E s := wpAny_mono h hQ fun _ _ x => x
end L2

namespace L2
open PySem PySem.Spec PyProof.Rows
section
variable {X : Cx}

/-- two expressions in a row -/
theorem bin {a b : Expr} {ta tb : TE} (ha : PE X a ta) (hb : PE X b tb) {pins : List (Addr × Obj)} {s : Shared} {σ : St} {H : Hp} {R : V → V → Hp → Prop} (I : Inv X pins σ H s) (h : ta σ H fun x H1 => tb σ H1 fun y H2 => R x y H2)
    {α : Type} {Q : α → Shared → Prop} {f : Value → Value → Sem α}
    (hf : ∀ v u s2 x y H2, Inv X pins σ H2 s2 → RelV x v → RelV y u → R x y H2 → wpAny (model X.prog X.w) X.A (f v u) Q X.xe s2) :
    wpAny (model X.prog X.w) X.A (eval a X.env) (fun v s₁ => wpAny (model X.prog X.w) X.A (eval b X.env) (fun u s₂ => wpAny (model X.prog X.w) X.A (f v u) Q X.xe s₂) X.xe s₁) X.xe s := by
  refine thn (ha pins s σ H _ I h) fun v s1 ⟨x, H1, I1, r1, q1⟩ => ?_
  refine thn (hb pins s1 σ H1 _ I1 q1) fun u s2 ⟨y, H2, I2, r2, q2⟩ => ?_
  exact hf v u s2 x y H2 I2 r1 r2 q2

/-! ### names and constants -/
def tVar (i : Nat) : TE := fun σ H Q => ∃ v, σ[i]? = some (some v) ∧ Q v H
def tC (v : V) : TE := fun _ H Q => Q v H
theorem pe_var {i : Nat} {x : Str} {pos : Pos} (hN : X.N[i]? = some x) (hv : Vis X.env.scope x) (hd : (x == ("__debug__" : Str)) = false := by decide) (hcd : (x == ("__classdict__" : Str)) = false := by decide) : PE X (.Name x pos) (tVar i) := by
  intro pins s σ H Q I h
  obtain ⟨v, e, h⟩ := h
  obtain ⟨m, hn, hl⟩ := I.loc
  obtain ⟨u, r, l⟩ := hl i x v hN e hv
  have fin : EP X pins σ Q u s := ⟨v, H, I, r, h⟩
  rcases l with ⟨hk, hm⟩ | ⟨hk, c, hc, hcell⟩
  · exact wpAny_Name (wpAny_loadName_local I.ok.kind hk hn hm fin) hd
  · rcases hk with hk | hk
    · exact wpAny_Name (wpAny_loadName_cell I.ok.kind hk hc hcell fin) hd
    · exact wpAny_Name (wpAny_loadName_free I.ok.kind hk hc hcell fin hcd) hd
theorem pe_int {i j pos} : PE X (.Constant (.int i) j pos) (tC (.int i)) := fun _ _ _ H _ I h => wpAny_Constant_int ⟨.int i, H, I.tok _, ⟨_, rfl⟩, h⟩
theorem pe_bl {b j pos} : PE X (.Constant (.bool b) j pos) (tC (.bl b)) := fun _ _ _ H _ I h => Constant_bool ⟨.bl b, H, I, rfl, h⟩
theorem pe_non {j pos} : PE X (.Constant .none j pos) (tC .non) := fun _ _ _ H _ I h => Constant_none ⟨.non, H, I, rfl, h⟩
theorem pe_str {x j pos} : PE X (.Constant (.str x) j pos) (tC (.str x)) := fun _ _ _ H _ I h => Calls.Constant_str ⟨.str x, H, I.tok _, ⟨_, rfl⟩, h⟩

/-- a global name of the def -/
def Gl (X : Cx) (x : Str) : Prop := X.env.kindOf x = some .globalImplicit
theorem ld_glob {E : Value → Shared → Prop} {pins : List (Addr × Obj)} {s : Shared} {σ : St} {H : Hp} {x : Str} {u : Value} {pos : Pos} {Q : Value → Shared → Prop} (I : Inv X pins σ H s) (hg : Gl X x) (hm : X.mg x = some u) (h : Q u s)
    (hd : (x == ("__debug__" : Str)) = false := by decide) : wpAny (model X.prog X.w) X.A (eval (.Name x pos) X.env) Q E s :=
  Calls.Name_function_global I.ok.kind hg (Calls.loadGlobal_global (by rw [I.ok.glob]; exact I.mod.glob.keeps I.bk) hm h) hd
theorem ld_blt {E : Value → Shared → Prop} {pins : List (Addr × Obj)} {s : Shared} {σ : St} {H : Hp} {x : Str} {u : Value} {pos : Pos} {Q : Value → Shared → Prop} (I : Inv X pins σ H s) (hg : Gl X x) (hm : X.mg x = none) (hv : bootBuiltins x = some u) (h : Q u s)
    (hn : x ≠ "__name__" := by decide) (hd : (x == ("__debug__" : Str)) = false := by decide) : wpAny (model X.prog X.w) X.A (eval (.Name x pos) X.env) Q E s := by
  obtain ⟨mb, h1, h2⟩ := I.mod.blt
  exact Calls.Name_function_global I.ok.kind hg (Calls.loadGlobal_builtin (by rw [I.ok.glob]; exact I.mod.glob.keeps I.bk) hm (by rw [I.ok.blt]; exact h1.keeps I.bk) ((h2 x hn).trans hv) h) hd
/-- a module's constant, a class, a function, as a value -/
theorem pe_glob {x : Str} {v : V} {u : Value} {pos : Pos} (hg : Gl X x) (hm : X.mg x = some u) (r : RelV v u) (hd : (x == ("__debug__" : Str)) = false := by decide) : PE X (.Name x pos) (tC v) :=
  fun _ _ _ H _ I h => ld_glob I hg hm ⟨v, H, I, r, h⟩ hd
theorem pe_bltn {x : Str} {v : V} {u : Value} {pos : Pos} (hg : Gl X x) (hm : X.mg x = none) (hv : bootBuiltins x = some u) (r : RelV v u) (hn : x ≠ "__name__" := by decide) (hd : (x == ("__debug__" : Str)) = false := by decide) : PE X (.Name x pos) (tC v) :=
  fun _ _ _ H _ I h => ld_blt I hg hm hv ⟨v, H, I, r, h⟩ hn hd

/-! ### arithmetic -/
/-- two ints -/
def t2I (ta tb : TE) (k : Int → Int → Hp → Prop) : St → Hp → Prop := fun σ H => ta σ H fun x H1 => tb σ H1 fun y H2 => ∃ i j, x = .int i ∧ y = .int j ∧ k i j H2
def tAdd (ta tb : TE) : TE := fun σ H Q => t2I ta tb (fun i j H2 => Q (.int (i + j)) H2) σ H
def tSub (ta tb : TE) : TE := fun σ H Q => t2I ta tb (fun i j H2 => Q (.int (i - j)) H2) σ H
/-- the left factor below 2^64 -/
def tMul (ta tb : TE) : TE := fun σ H Q => t2I ta tb (fun i j H2 => (-(2 ^ 64) < i ∧ i < 2 ^ 64) ∧ Q (.int (i * j)) H2) σ H
variable {a b : Expr} {ta tb : TE} {pos : Pos}
theorem pe_add (ha : PE X a ta) (hb : PE X b tb) : PE X (.BinOp a .Add b pos) (tAdd ta tb) := by
  intro pins s σ H Q I h
  refine wpAny_BinOp (bin ha hb I h fun v u s2 x y H2 I2 rx ry q => ?_)
  obtain ⟨i, j, rfl, rfl, q⟩ := q
  obtain ⟨t, rfl⟩ := rx
  obtain ⟨t', rfl⟩ := ry
  exact add_int ⟨.int _, H2, I2.tok _, ⟨_, rfl⟩, q⟩
theorem pe_sub (ha : PE X a ta) (hb : PE X b tb) : PE X (.BinOp a .Sub b pos) (tSub ta tb) := by
  intro pins s σ H Q I h
  refine wpAny_BinOp (bin ha hb I h fun v u s2 x y H2 I2 rx ry q => ?_)
  obtain ⟨i, j, rfl, rfl, q⟩ := q
  obtain ⟨t, rfl⟩ := rx
  obtain ⟨t', rfl⟩ := ry
  exact sub_int ⟨.int _, H2, I2.tok _, ⟨_, rfl⟩, q⟩
theorem pe_mul (ha : PE X a ta) (hb : PE X b tb) : PE X (.BinOp a .Mult b pos) (tMul ta tb) := by
  intro pins s σ H Q I h
  refine wpAny_BinOp (bin ha hb I h fun v u s2 x y H2 I2 rx ry q => ?_)
  obtain ⟨i, j, rfl, rfl, ⟨q1, q2⟩, q⟩ := q
  obtain ⟨t, rfl⟩ := rx
  obtain ⟨t', rfl⟩ := ry
  exact mul_int ⟨.int _, H2, I2.tok _, ⟨_, rfl⟩, q⟩ (.of_left (intBits_le_64 q1 q2))

/-! ### comparisons -/
def PC (X : Cx) (op : CmpOp) (a b : Expr) (t : TE) : Prop :=
  ∀ (pins : List (Addr × Obj)) (s : Shared) (σ : St) (H : Hp) (Q : VK), Inv X pins σ H s → t σ H Q →
    wpAny (model X.prog X.w) X.A (eval a X.env) (fun v s₁ => wpAny (model X.prog X.w) X.A (eval b X.env) (fun u s₂ => wpAny (model X.prog X.w) X.A (compareOp op v u) (EP X pins σ Q) X.xe s₂) X.xe s₁) X.xe s
theorem nobehind (b : Expr) {op : CmpOp} (h : op ≠ .In) (h2 : op ≠ .NotIn) : behindInMarks op b = false := by
  have e1 : (op == CmpOp.In) = false := by cases op <;> first | rfl | exact absurd rfl h
  have e2 : (op == CmpOp.NotIn) = false := by cases op <;> first | rfl | exact absurd rfl h2
  cases b <;> simp [behindInMarks, e1, e2]
def tCmp (p : Int → Int → Bool) (ta tb : TE) : TE := fun σ H Q => t2I ta tb (fun i j H2 => Q (.bl (p i j)) H2) σ H
abbrev tLt : TE → TE → TE := tCmp fun i j => decide (i < j)
abbrev tLe : TE → TE → TE := tCmp fun i j => decide (i ≤ j)
abbrev tGt : TE → TE → TE := tCmp fun i j => decide (j < i)
abbrev tGe : TE → TE → TE := tCmp fun i j => decide (j ≤ i)
abbrev tEqI : TE → TE → TE := tCmp fun i j => decide (i = j)
abbrev tNeI : TE → TE → TE := tCmp fun i j => !decide (i = j)
/-- a comparison of two ints, by its rule -/
theorem pc_int {op : CmpOp} {p : Int → Int → Bool} (ha : PE X a ta) (hb : PE X b tb)
    (rule : ∀ (i j : Int) (t u : Tok) (Q : Value → Shared → Prop) (s : Shared), Q (.bool (p i j)) s → wpAny (model X.prog X.w) X.A (compareOp op (.int i t) (.int j u)) Q X.xe s) : PC X op a b (tCmp p ta tb) := by
  intro pins s σ H Q I h
  refine bin ha hb I h fun v u s2 x y H2 I2 rx ry q => ?_
  obtain ⟨i, j, rfl, rfl, q⟩ := q
  obtain ⟨t, rfl⟩ := rx
  obtain ⟨t', rfl⟩ := ry
  exact rule i j t t' _ s2 ⟨.bl _, H2, I2, rfl, q⟩
theorem pc_lt (ha : PE X a ta) (hb : PE X b tb) : PC X .Lt a b (tLt ta tb) := pc_int ha hb fun _ _ _ _ _ _ h => lt_int h
theorem pc_le (ha : PE X a ta) (hb : PE X b tb) : PC X .LtE a b (tLe ta tb) := pc_int ha hb fun _ _ _ _ _ _ h => le_int h
theorem pc_gt (ha : PE X a ta) (hb : PE X b tb) : PC X .Gt a b (tGt ta tb) := pc_int ha hb fun _ _ _ _ _ _ h => gt_int h
theorem pc_ge (ha : PE X a ta) (hb : PE X b tb) : PC X .GtE a b (tGe ta tb) := pc_int ha hb fun _ _ _ _ _ _ h => ge_int h
theorem pc_eqI (ha : PE X a ta) (hb : PE X b tb) : PC X .Eq a b (tEqI ta tb) := pc_int ha hb fun _ _ _ _ _ _ h => eq_int (by rw [Bool.beq_eq_decide_eq]; exact h)
theorem pc_neI (ha : PE X a ta) (hb : PE X b tb) : PC X .NotEq a b (tNeI ta tb) := pc_int ha hb fun _ _ _ _ _ _ h => ne_int (by rw [bne, Bool.beq_eq_decide_eq]; exact h)
/-- is None -/
def tIsN (ta : TE) : TE := fun σ H Q => ta σ H fun x H1 => Q (.bl (decide (x = .non))) H1
def tNotN (ta : TE) : TE := fun σ H Q => ta σ H fun x H1 => Q (.bl (!decide (x = .non))) H1
theorem RelV.none_iff {x : V} {v : Value} (r : RelV x v) : (v == Value.none) = decide (x = .non) := by
  cases x with
  | non => cases r; rfl
  | bl _ => cases r; rfl
  | int _ => obtain ⟨t, rfl⟩ := r; rfl
  | str _ => obtain ⟨t, rfl⟩ := r; rfl
  | byt _ => obtain ⟨t, rfl⟩ := r; rfl
  | flt _ => obtain ⟨t, rfl⟩ := r; rfl
  | ref _ => cases r; rfl
  | ty _ => cases r; rfl
theorem pc_isN {j pos'} (ha : PE X a ta) : PC X .Is a (.Constant .none j pos') (tIsN ta) := by
  intro pins s σ H Q I h
  refine thn (ha pins s σ H _ I h) fun v s1 ⟨x, H1, I1, r1, q1⟩ => ?_
  exact Constant_none (is_none_gen ⟨.bl _, H1, I1, by rw [r1.none_iff]; rfl, q1⟩)
theorem pc_notN {j pos'} (ha : PE X a ta) : PC X .IsNot a (.Constant .none j pos') (tNotN ta) := by
  intro pins s σ H Q I h
  refine thn (ha pins s σ H _ I h) fun v s1 ⟨x, H1, I1, r1, q1⟩ => ?_
  exact Constant_none (isnot_none_gen ⟨.bl _, H1, I1, by rw [r1.none_iff]; rfl, q1⟩)
/-- a comparison as a value, as a test -/
def tB (t : TE) : TT := fun σ H Q => t σ H fun x H1 => ∃ c, x = .bl c ∧ Q c H1
theorem pe_cmp {op : CmpOp} {t : TE} (h : PC X op a b t) (h1 : behindInMarks op b = false := by first | exact nobehind _ (by decide) (by decide) | rfl) : PE X (.Compare a [op] [b] pos) t := fun pins s σ H Q I hw => wpAny_Compare1 (h pins s σ H Q I hw) h1
theorem pt_cmp {op : CmpOp} {t : TE} (h : PC X op a b t) (h1 : behindInMarks op b = false := by first | exact nobehind _ (by decide) (by decide) | rfl) : PT X (.Compare a [op] [b] pos) (tB t) := by
  intro pins s σ H Q I hw
  refine wpAny_isTrue_Compare1 (thn (h pins s σ H _ I hw) fun v s1 h1 => thn h1 fun u s2 h2 => thn h2 fun c s3 ⟨x, H1, I1, r1, q1⟩ => ?_) h1
  obtain ⟨d, rfl, q⟩ := q1
  cases r1
  exact wpAny_truthy_bool ⟨H1, I1, q⟩
/-- an expression whose value is a bool, as a test -/
theorem pt_val {e : Expr} {t : TE} (h : PE X e t) (he : ∀ whole, isTrue e X.env whole = (do let v ← whole; standAt e.pos; holding [v] (truthy v)) := by intro _; rfl) : PT X e (tB t) := by
  intro pins s σ H Q I hw
  refine isTrue_plain (thn (h pins s σ H _ I hw) fun v s1 ⟨x, H1, I1, r1, q1⟩ => ?_) (he _)
  obtain ⟨d, rfl, q⟩ := q1
  cases r1
  exact wpAny_truthy_bool ⟨H1, I1, q⟩

/-! ### and, or, not -/
variable {tA tB' : TT} {rest : List Expr}
def tAnd (t u : TT) : TT := fun σ H Q => t σ H fun c H1 => if c = true then u σ H1 Q else Q false H1
def tOr (t u : TT) : TT := fun σ H Q => t σ H fun c H1 => if c = true then Q true H1 else u σ H1 Q
def tNot (t : TT) : TT := fun σ H Q => t σ H fun c H1 => Q (!c) H1
theorem pw_and1 (ha : PT X a tA) : PW X (.BoolOp .And [a] pos) tA := by
  intro wh pins s σ H Q I h
  refine isTrue_and (thn (ha pins s σ H Q I h) fun c s1 e => ?_)
  cases c with
  | true => exact isTrue_and_nil e
  | false => exact e
theorem pw_or1 (ha : PT X a tA) : PW X (.BoolOp .Or [a] pos) tA := by
  intro wh pins s σ H Q I h
  refine isTrue_or (thn (ha pins s σ H Q I h) fun c s1 e => ?_)
  cases c with
  | false => exact isTrue_or_nil e
  | true => exact e
theorem pw_and (ha : PT X a tA) (hb : PW X (.BoolOp .And (b :: rest) pos) tB') : PW X (.BoolOp .And (a :: b :: rest) pos) (tAnd tA tB') := by
  intro wh pins s σ H Q I h
  refine isTrue_and (thn (ha pins s σ H _ I h) fun c s1 ⟨H1, I1, q1⟩ => ?_)
  cases c with
  | true => exact hb wh pins s1 σ H1 Q I1 q1
  | false => exact ⟨H1, I1, q1⟩
theorem pw_or (ha : PT X a tA) (hb : PW X (.BoolOp .Or (b :: rest) pos) tB') : PW X (.BoolOp .Or (a :: b :: rest) pos) (tOr tA tB') := by
  intro wh pins s σ H Q I h
  refine isTrue_or (thn (ha pins s σ H _ I h) fun c s1 ⟨H1, I1, q1⟩ => ?_)
  cases c with
  | true => exact ⟨H1, I1, q1⟩
  | false => exact hb wh pins s1 σ H1 Q I1 q1
theorem pt_not (ha : PT X a tA) : PT X (.UnaryOp .Not a pos) (tNot tA) := by
  intro pins s σ H Q I h
  exact isTrue_not (ha pins s σ H (fun c H1 => Q (!c) H1) I h)
/-- .. as values (bools) -/
def tAndV (ta tb : TE) : TE := fun σ H Q => ta σ H fun x H1 => ∃ c, x = .bl c ∧ if c = true then tb σ H1 Q else Q (.bl false) H1
def tOrV (ta tb : TE) : TE := fun σ H Q => ta σ H fun x H1 => ∃ c, x = .bl c ∧ if c = true then Q (.bl true) H1 else tb σ H1 Q
def tNotV (ta : TE) : TE := fun σ H Q => ta σ H fun x H1 => ∃ c, x = .bl c ∧ Q (.bl (!c)) H1
theorem pe_one {op} {t : TE} (h : PE X a t) : PE X (.BoolOp op [a] pos) t := fun pins s σ H Q I hw => BoolOp_one (h pins s σ H Q I hw)
theorem pe_and (ha : PE X a ta) (hb : PE X (.BoolOp .And (b :: rest) pos) tb) : PE X (.BoolOp .And (a :: b :: rest) pos) (tAndV ta tb) := by
  intro pins s σ H Q I h
  refine BoolOp_and (thn (ha pins s σ H _ I h) fun v s1 ⟨x, H1, I1, r1, q1⟩ => ?_)
  obtain ⟨c, rfl, q1⟩ := q1
  cases r1
  refine wpAny_truthy_bool ?_
  cases c with
  | true => exact hb pins s1 σ H1 Q I1 q1
  | false => exact ⟨.bl false, H1, I1, rfl, q1⟩
theorem pe_or (ha : PE X a ta) (hb : PE X (.BoolOp .Or (b :: rest) pos) tb) : PE X (.BoolOp .Or (a :: b :: rest) pos) (tOrV ta tb) := by
  intro pins s σ H Q I h
  refine BoolOp_or (thn (ha pins s σ H _ I h) fun v s1 ⟨x, H1, I1, r1, q1⟩ => ?_)
  obtain ⟨c, rfl, q1⟩ := q1
  cases r1
  refine wpAny_truthy_bool ?_
  cases c with
  | false => exact hb pins s1 σ H1 Q I1 q1
  | true => exact ⟨.bl true, H1, I1, rfl, q1⟩
theorem pe_not (ha : PE X a ta) : PE X (.UnaryOp .Not a pos) (tNotV ta) := by
  intro pins s σ H Q I h
  refine UnaryOp_ (thn (ha pins s σ H _ I h) fun v s1 ⟨x, H1, I1, r1, q1⟩ => ?_)
  obtain ⟨c, rfl, q1⟩ := q1
  cases r1
  exact not_of (wpAny_truthy_bool ⟨.bl (!c), H1, I1, rfl, q1⟩)
/-- a if t else b -/
def tIf (t : TT) (ta tb : TE) : TE := fun σ H Q => t σ H fun c H1 => if c = true then ta σ H1 Q else tb σ H1 Q
theorem pe_ifExp {c : Expr} (hc : PT X c tA) (ha : PE X a ta) (hb : PE X b tb) : PE X (.IfExp c a b pos) (tIf tA ta tb) := by
  intro pins s σ H Q I h
  refine wpAny_IfExp (thn (hc pins s σ H _ I h) fun d s1 ⟨H1, I1, q1⟩ => ?_)
  cases d with
  | true => exact ha pins s1 σ H1 Q I1 q1
  | false => exact hb pins s1 σ H1 Q I1 q1
end
end L2

namespace L2
open PySem PySem.Spec PyProof.Rows

/-! ### a list, a tuple that is read: tracked, frozen, or an object of the module -/
def SqL (K : PySem.W.Frag) (H : Hp) (a : Addr) (xs : List V) : Prop :=
  Rd H a (.lst xs) ∨
    ∃ (o : Obj) (its : Array Value) (n : Nat), K.lookup a = some o ∧ o.cls = .type "list" ∧ o.dict = none ∧ o.data = .seq its n ∧ its.size ≤ sizeLine ∧ Vals xs its.toList
def SqT (K : PySem.W.Frag) (H : Hp) (a : Addr) (xs : List V) : Prop :=
  Rd H a (.tup xs) ∨
    ∃ (o : Obj) (its : Array Value) (n : Nat), K.lookup a = some o ∧ o.cls = .type "tuple" ∧ o.data = .seq its n ∧ its.size ≤ sizeLine ∧ Vals xs its.toList
def absV : Value → Option V
  | .none => some .non
  | .bool b => some (.bl b)
  | .int i _ => some (.int i)
  | .str x _ => some (.str x)
  | .bytes b _ => some (.byt b)
  | .float b _ => some (.flt b)
  | .ref a => some (.ref a)
  | .type n => some (.ty n)
  | _ => none
theorem RelV.abs {x : V} {u : Value} (r : RelV x u) : absV u = some x := by
  cases x with
  | non => cases r; rfl
  | bl _ => cases r; rfl
  | int _ => obtain ⟨t, rfl⟩ := r; rfl
  | str _ => obtain ⟨t, rfl⟩ := r; rfl
  | byt _ => obtain ⟨t, rfl⟩ := r; rfl
  | flt _ => obtain ⟨t, rfl⟩ := r; rfl
  | ref _ => cases r; rfl
  | ty _ => cases r; rfl
theorem RelV.inj {x y : V} {u : Value} (r : RelV x u) (q : RelV y u) : x = y := Option.some.inj (r.abs.symm.trans q.abs)
theorem Vals.inj : ∀ {xs ys : List V} {us : List Value}, Vals xs us → Vals ys us → xs = ys
  | _, _, _, .nil, .nil => rfl
  | _, _, _, .cons r t, .cons r' t' => by rw [r.inj r', Vals.inj t t']
section
variable {X : Cx} {pins : List (Addr × Obj)} {σ : St} {H : Hp} {s : Shared} {a : Addr} {xs ys : List V}
theorem SqL.of {K : PySem.W.Frag} (h : H a = some (.lst xs)) : SqL K H a xs := .inl (.inl h)
theorem SqT.of {K : PySem.W.Frag} (h : H a = some (.tup xs)) : SqT K H a xs := .inl (.inl h)
theorem Inv.list (I : Inv X pins σ H s) (h : SqL X.K H a xs) : ∃ its : List Value, Vals xs its ∧ PlainL s.heap a its.toArray ∧ xs.length ≤ sizeLine := by
  rcases h with h | ⟨o, its, n, hk, hc, hd, hs, hz, r⟩
  · obtain ⟨z, its, n, r, e⟩ := h.ok I.hok
    exact ⟨its, r, ⟨_, n, e, rfl, rfl, rfl⟩, z⟩
  · refine ⟨its.toList, r, ⟨o, n, I.kIn a o hk, hc, hd, by simpa using hs⟩, ?_⟩
    have e := r.length
    simp only [Array.length_toList] at e
    omega
theorem Inv.tuple (I : Inv X pins σ H s) (h : SqT X.K H a xs) : ∃ its : List Value, Vals xs its ∧ IsTup s.heap a its.toArray ∧ xs.length ≤ sizeLine := by
  rcases h with h | ⟨o, its, n, hk, hc, hs, hz, r⟩
  · obtain ⟨z, its, r, p⟩ := h.ok I.hok
    exact ⟨its, r, p, z⟩
  · refine ⟨its.toList, r, ⟨o, I.kIn a o hk, hc, n, by simpa using hs⟩, ?_⟩
    have e := r.length
    simp only [Array.length_toList] at e
    omega
theorem Inv.list_inj (I : Inv X pins σ H s) (h : SqL X.K H a xs) (h' : SqL X.K H a ys) : xs = ys := by
  obtain ⟨its, r, ⟨o, n, e, _, _, d⟩, _⟩ := I.list h
  obtain ⟨its', r', ⟨o', n', e', _, _, d'⟩, _⟩ := I.list h'
  rw [e] at e'; cases e'
  rw [d] at d'
  injection d' with d1 _
  have : its = its' := by simpa using congrArg Array.toList d1
  subst this
  exact r.inj r'
theorem Inv.tuple_inj (I : Inv X pins σ H s) (h : SqT X.K H a xs) (h' : SqT X.K H a ys) : xs = ys := by
  obtain ⟨its, r, ⟨o, e, _, n, d⟩, _⟩ := I.tuple h
  obtain ⟨its', r', ⟨o', e', _, n', d'⟩, _⟩ := I.tuple h'
  rw [e] at e'; cases e'
  rw [d] at d'
  injection d' with d1 _
  have : its = its' := by simpa using congrArg Array.toList d1
  subst this
  exact r.inj r'
end

/-! ### another wish about exceptions -/
abbrev Cx.wish (X : Cx) (E : Value → Shared → Prop) : Cx := { X with xe := E }
/-- no exception leaves -/
abbrev Cx.nox (X : Cx) : Cx := X.wish fun _ _ => False
theorem Cx.Ok.wish {X : Cx} (ok : X.Ok) (E : Value → Shared → Prop) : (X.wish E).Ok :=
  ⟨ok.mod, ok.kind, ok.glob, ok.blt, ok.above, ok.inj, ok.has, ok.cab, ok.hd, ok.frames, ok.stk, ok.exf, ok.bs, ok.bsz, ok.noex, ok.exfs, ok.funs, ok.frf⟩
theorem Cx.Ok.unwish {X : Cx} {E : Value → Shared → Prop} (ok : (X.wish E).Ok) : X.Ok :=
  ⟨ok.mod, ok.kind, ok.glob, ok.blt, ok.above, ok.inj, ok.has, ok.cab, ok.hd, ok.frames, ok.stk, ok.exf, ok.bs, ok.bsz, ok.noex, ok.exfs, ok.funs, ok.frf⟩
section
variable {X : Cx} {pins : List (Addr × Obj)} {σ : St} {H : Hp} {s : Shared} {E : Value → Shared → Prop}
theorem Inv.wish (I : Inv X pins σ H s) (E : Value → Shared → Prop) : Inv (X.wish E) pins σ H s := ⟨I.ok.wish E, I.os, I.bare, I.base, I.loc, I.cell, I.free, I.freeC, I.pin, I.hok, I.len⟩
theorem Inv.unwish (I : Inv (X.wish E) pins σ H s) : Inv X pins σ H s := ⟨I.ok.unwish, I.os, I.bare, I.base, I.loc, I.cell, I.free, I.freeC, I.pin, I.hok, I.len⟩
theorem SP.unwish {D : Ends} {f : Flow} {s' : Shared} (h : SP (X.wish E) pins D f s') : SP X pins D f s' := by
  cases f with
  | next => obtain ⟨σ', H', I, q⟩ := h; exact ⟨σ', H', I.unwish, q⟩
  | brk => obtain ⟨σ', H', I, q⟩ := h; exact ⟨σ', H', I.unwish, q⟩
  | cont => obtain ⟨σ', H', I, q⟩ := h; exact ⟨σ', H', I.unwish, q⟩
  | ret u => obtain ⟨v, σ', H', I, r, q⟩ := h; exact ⟨v, σ', H', I.unwish, r, q⟩
theorem PE.nox {e : Expr} {t : TE} (h : PE X.nox e t) : PE X e t := fun pins s σ H Q I hw =>
  wpAny_mono (h pins s σ H Q (I.wish _) hw) (fun _ _ ⟨v, H', I', r, q⟩ => ⟨v, H', I'.unwish, r, q⟩) fun _ _ z => False.elim z
theorem PT.nox {e : Expr} {t : TT} (h : PT X.nox e t) : PT X e t := fun pins s σ H Q I hw =>
  wpAny_mono (h pins s σ H Q (I.wish _) hw) (fun _ _ ⟨H', I', q⟩ => ⟨H', I'.unwish, q⟩) fun _ _ z => False.elim z
theorem PSs.nox {st : List Stmt} {t : TS} (h : PSs X.nox st t) : PSs X st t := fun pins s σ H D I hw =>
  wpAny_mono (h pins s σ H D (I.wish _) hw) (fun _ _ q => q.unwish) fun _ _ z => False.elim z
end

/-! ### blocks and small statements -/
section
variable {X : Cx} {st : Stmt} {rest : List Stmt} {t u : TS} {e : Expr} {te : TE} {pos : Pos}
def tNext : TS := fun D σ H => D.nx σ H
def tSeq (t u : TS) : TS := fun D σ H => t { D with nx := u D } σ H
theorem pss_nil : PSs X [] tNext := fun _ _ σ H _ I h => wpAny_execs_nil ⟨σ, H, I, h⟩
theorem pss_cons (h1 : PS X st t) (h2 : PSs X rest u) : PSs X (st :: rest) (tSeq t u) := by
  intro pins s σ H D I h
  refine wpAny_execs_cons (thn (h1 pins s σ H { D with nx := u D } I h) fun f s1 q => ?_)
  cases f with
  | next =>
    obtain ⟨σ', H', I', q⟩ := q
    exact h2 pins s1 σ' H' D I' q
  | ret v => exact q
  | brk => exact q
  | cont => exact q
theorem pss_one (h1 : PS X st t) : PSs X [st] t := by
  intro pins s σ H D I h
  refine wpAny_execs_cons (thn (h1 pins s σ H D I h) fun f s1 q => ?_)
  cases f with
  | next => exact wpAny_execs_nil q
  | ret v => exact q
  | brk => exact q
  | cont => exact q
def tBreak : TS := fun D σ H => D.bk σ H
def tCont : TS := fun D σ H => D.ct σ H
theorem ps_pass : PS X (.Pass pos) tNext := fun _ _ σ H _ I h => wpAny_Pass ⟨σ, H, I, h⟩
theorem ps_break : PS X (.Break pos) tBreak := fun _ _ σ H _ I h => wpAny_Break ⟨σ, H, I, h⟩
theorem ps_continue : PS X (.Continue pos) tCont := fun _ _ σ H _ I h => wpAny_Continue ⟨σ, H, I, h⟩
/-- in a def's body nothing is shown -/
theorem Inv.quiet {pins : List (Addr × Obj)} {σ : St} {H : Hp} {s : Shared} (I : Inv X pins σ H s) : interactive X.env = false := by simp [interactive, I.ok.kind]
/-- a docstring -/
theorem ps_doc {x j pos pos'} : PS X (.Expr (.Constant (.str x) j pos) pos') tNext := fun _ s σ H _ I h => wpAny_Expr (Calls.Constant_str (show SP X _ _ .next { s with toks := s.toks + 1 } from ⟨σ, H, I.tok _, h⟩)) I.quiet
/-- an expression whose value is dropped -/
def tDrop (te : TE) : TS := fun D σ H => te σ H fun _ H1 => D.nx σ H1
theorem ps_expr (he : PE X e te) (hs : swapsWith e none pos.line X.env = pure false := by rfl) : PS X (.Expr e pos) (tDrop te) := by
  intro pins s σ H D I h
  exact wpAny_Expr_any (thn (he pins s σ H _ I h) fun v s1 ⟨x, H1, I1, r1, q1⟩ => ⟨σ, H1, I1, q1⟩) I.quiet hs
def tRet (te : TE) : TS := fun D σ H => te σ H D.rt
theorem ps_ret (he : PE X e te) : PS X (.Return (some e) pos) (tRet te) := by
  intro pins s σ H D I h
  exact wpAny_Return_some (thn (he pins s σ H _ I h) fun v s1 ⟨x, H1, I1, r1, q1⟩ => ⟨x, σ, H1, I1, r1, q1⟩)
def tRetN : TS := fun D _ H => D.rt .non H
theorem ps_retN : PS X (.Return none pos) tRetN := fun _ _ σ H _ I h => wpAny_Return_none ⟨.non, σ, H, I, rfl, h⟩
def tIfS (c : TT) (t u : TS) : TS := fun D σ H => c σ H fun b H1 => if b = true then t D σ H1 else u D σ H1
theorem ps_if {c : Expr} {a b : List Stmt} {tc : TT} (hc : PT X c tc) (ha : PSs X a t) (hb : PSs X b u) : PS X (.If c a b pos) (tIfS tc t u) := by
  intro pins s σ H D I h
  refine wpAny_If (thn (hc pins s σ H _ I h) fun d s1 ⟨H1, I1, q1⟩ => ?_)
  cases d with
  | true => exact ha pins s1 σ H1 D I1 q1
  | false => exact hb pins s1 σ H1 D I1 q1
/-- code that the proof never comes to -/
def tNever : TS := fun _ _ _ => False
theorem ps_never : PS X st tNever := fun _ _ _ _ _ _ h => h.elim
theorem pss_never {sts : List Stmt} : PSs X sts tNever := fun _ _ _ _ _ _ h => h.elim
end

/-! ### targets -/
abbrev TG := V → St → Hp → (St → Hp → Prop) → Prop
abbrev TGs := List V → St → Hp → (St → Hp → Prop) → Prop
def PG (X : Cx) (target : Expr) (t : TG) : Prop :=
  ∀ (pins : List (Addr × Obj)) (s : Shared) (σ : St) (H : Hp) (v : V) (u : Value) (Q : St → Hp → Prop), Inv X pins σ H s → RelV v u → t v σ H Q →
    wpAny (model X.prog X.w) X.A (assign target X.env u) (fun _ s' => ∃ σ' H', Inv X pins σ' H' s' ∧ Q σ' H') X.xe s
/-- several targets, one after another -/
def PGs (X : Cx) (ts : List Expr) (t : TGs) : Prop :=
  ∀ (pins : List (Addr × Obj)) (s : Shared) (σ : St) (H : Hp) (vs : List V) (us : List Value) (Q : St → Hp → Prop), Inv X pins σ H s → Vals vs us → t vs σ H Q →
    wpAny (model X.prog X.w) X.A (assignInOrder ((assignEach ts X.env).map (·.2)) us) (fun _ s' => ∃ σ' H', Inv X pins σ' H' s' ∧ Q σ' H') X.xe s
/-- o[i] = v, by values -/
abbrev TSet := V → V → V → Hp → (Hp → Prop) → Prop
def PSet (X : Cx) (t : TSet) : Prop :=
  ∀ (pins : List (Addr × Obj)) (s : Shared) (σ : St) (H : Hp) (o i v : V) (ov iv u : Value) (Q : Hp → Prop), Inv X pins σ H s → RelV o ov → RelV i iv → RelV v u → t o i v H Q →
    wpAny (model X.prog X.w) X.A (setItem ov iv u) (fun _ s' => ∃ H', Inv X pins σ H' s' ∧ Q H') X.xe s
/-- a op= b, by values -/
abbrev TIp := V → V → Hp → VK → Prop
def PIp (X : Cx) (op : Operator) (t : TIp) : Prop :=
  ∀ (pins : List (Addr × Obj)) (s : Shared) (σ : St) (H : Hp) (x y : V) (v u : Value) (Q : VK), Inv X pins σ H s → RelV x v → RelV y u → t x y H Q →
    wpAny (model X.prog X.w) X.A (inplaceOp op v u) (EP X pins σ Q) X.xe s
section
variable {X : Cx} {pos : Pos}
def gName (i : Nat) : TG := fun v σ H Q => Q (σ.set i (some v)) H
theorem pg_name {i : Nat} {x : Str} (hN : X.N.Nodup) (hi : X.N[i]? = some x) (hx : Loc X.env.scope x) (hf : X.fn x = true ∨ X.env.scope.names.lookup x = some .local := by first | exact .inl rfl | exact .inr rfl | assumption) : PG X (.Name x pos) (gName i) := by
  intro pins s σ H v u Q I r h
  exact wpAny_assign_Name (store_ok I hN hi hx r (fun s' I' => ⟨_, H, I', h⟩) hf)
def gNil : TGs := fun vs σ H Q => vs = [] ∧ Q σ H
def gCons (t : TG) (u : TGs) : TGs := fun vs σ H Q => ∃ v r, vs = v :: r ∧ t v σ H fun σ' H' => u r σ' H' Q
theorem pgs_nil : PGs X [] gNil := by
  intro pins s σ H vs us Q I r h
  obtain ⟨e, h⟩ := h
  subst e
  cases r
  exact assignInOrder_nil ⟨σ, H, I, h⟩
theorem pgs_cons {e : Expr} {es : List Expr} {t : TG} {u : TGs} (h1 : PG X e t) (h2 : PGs X es u)
    (hs : (assignEach (e :: es) X.env).map (·.2) = assign e X.env :: (assignEach es X.env).map (·.2) := by rfl) : PGs X (e :: es) (gCons t u) := by
  intro pins s σ H vs us Q I r h
  obtain ⟨v, vr, e1, h⟩ := h
  subst e1
  cases r with
  | cons r rr =>
    rw [hs]
    refine assignInOrder_cons (thn (h1 pins s σ H _ _ _ I r h) fun _ s1 ⟨σ1, H1, I1, q1⟩ => ?_)
    exact h2 pins s1 σ1 H1 _ _ Q I1 rr q1
/-- (a, b, ..) = a tuple of that length -/
def gTup (K : PySem.W.Frag) (n : Nat) (t : TGs) : TG := fun v σ H Q => ∃ a xs, v = .ref a ∧ SqT K H a xs ∧ xs.length = n ∧ t xs σ H Q
theorem pg_tup {es : List Expr} {k : Nat} {t : TGs} {n : Nat} (hc : X.calm = true) (h : PGs X es t)
    (hn : (assignEach es X.env).length = n := by rfl) (hst : (assignEach es X.env).findIdx? (·.1) = none := by rfl) : PG X (.Tuple es k pos) (gTup X.K n t) := by
  intro pins s σ H v u Q I r hw
  obtain ⟨a, xs, e1, hq, hl, hw⟩ := hw
  subst e1
  cases r
  obtain ⟨its, rv, ht, hz⟩ := I.tuple hq
  refine assign_Tuple_tuple (I.ok.hd hc) ht (by simp [hn, ← hl, rv.length]) hst fun h' hx => ?_
  have I1 : Inv X pins σ H { s with heap := h' } := I.kept (t' := s.toks) fun b o e => hx b o (Nat.ne_of_lt (Heap.lt_size e)) e
  exact h pins _ σ H xs _ Q I1 (by simpa using rv) hw
/-- o[i] = .. -/
def gSub (to ti : TE) (t : TSet) : TG := fun v σ H Q => to σ H fun o H1 => ti σ H1 fun i H2 => t o i v H2 fun H3 => Q σ H3
theorem pg_sub {o i : Expr} {to ti : TE} {t : TSet} (ho : PE X o to) (hi : PE X i ti) (hs : PSet X t)
    (ha : ∀ v, assign (.Subscript o i pos) X.env v = (do
      let ov ← holding [v] (eval o X.env)
      let iv ← holding [v, ov] (eval i X.env)
      standAt pos
      holding [v, ov, iv] (setItem ov iv v)
      release [v, ov, iv] []) := by intro _; rfl) : PG X (.Subscript o i pos) (gSub to ti t) := by
  intro pins s σ H v u Q I r h
  rw [ha]
  refine wpAny_bind (wpAny_holding (thn (ho pins s σ H _ I h) fun ov s1 ⟨x, H1, I1, r1, q1⟩ => ?_))
  refine wpAny_bind (wpAny_holding (thn (hi pins s1 σ H1 _ I1 q1) fun iv s2 ⟨y, H2, I2, r2, q2⟩ => ?_))
  refine wpAny_bind (wpAny_standAt (wpAny_bind (wpAny_holding (thn (hs pins s2 σ H2 x y v ov iv u _ I2 r1 r2 r q2) fun _ s3 ⟨H3, I3, q3⟩ => ?_))))
  exact wpAny_release ⟨σ, H3, I3, q3⟩
/-- target = value -/
def tAsg (te : TE) (g : TG) : TS := fun D σ H => te σ H fun x H1 => g x σ H1 D.nx
theorem ps_asg {tg e : Expr} {te : TE} {g : TG} (he : PE X e te) (hg : PG X tg g) (hs : swapsWithSole [tg] e pos.line X.env = pure false := by rfl) (hw : swappedStores [tg] e X.env = pure none := by rfl)
    (h1 : (assignEach [tg] X.env).map (·.2) = [assign tg X.env] := by rfl) : PS X (.Assign [tg] e pos) (tAsg te g) := by
  intro pins s σ H D I h
  refine wpAny_Assign_stores (thn (he pins s σ H _ I h) fun v s1 ⟨x, H1, I1, r1, q1⟩ => ?_) hs hw
  rw [h1]
  exact thn (hg pins s1 σ H1 x v _ I1 r1 q1) fun _ s2 q => q
/-- name = value -/
theorem ps_set {i : Nat} {x : Str} {e : Expr} {te : TE} {pos' : Pos} (hN : X.N.Nodup) (hi : X.N[i]? = some x) (hx : Loc X.env.scope x) (he : PE X e te) (hs : swapsWith e (some (.Name x pos')) pos.line X.env = pure false := by rfl) (hf : X.fn x = true ∨ X.env.scope.names.lookup x = some .local := by first | exact .inl rfl | exact .inr rfl | assumption) :
    PS X (.Assign [.Name x pos'] e pos) (tAsg te (gName i)) := by
  intro pins s σ H D I h
  refine wpAny_Assign_Name (thn (he pins s σ H _ I h) fun v s1 ⟨y, H1, I1, r1, q1⟩ => ?_) hs
  exact store_ok I1 hN hi hx r1 (fun s2 I2 => ⟨_, H1, I2, q1⟩) hf
/-- a, b = x, y with plain local names: stored from the right; the pair itself is not tracked (the opening rows as in PyProof/Rows/TupAssign.lean:23) -/
def tPar (i j : Nat) (ta : TA) : TS := fun D σ H => ta σ H fun vs H1 => ∃ v w, vs = [v, w] ∧ D.nx ((σ.set i (some v)).set j (some w)) H1
theorem ps_par {i j : Nat} {x y : Str} {a b : Expr} {ta : TA} {px py pt : Pos} {kt k2 pt2} (hc : X.calm = true) (hN : X.N.Nodup) (hi : X.N[i]? = some x) (hj : X.N[j]? = some y) (hij : i ≠ j)
    (hx : X.env.scope.names.lookup x = some .local) (hy : X.env.scope.names.lookup y = some .local) (ha : PA X [a, b] ta)
    (hw : swappedStores [.Tuple [.Name x px, .Name y py] kt pt] (.Tuple [a, b] k2 pt2) X.env = pure (some [x, y]))
    (hs : swapsWithSole [.Tuple [.Name x px, .Name y py] kt pt] (.Tuple [a, b] k2 pt2) pos.line X.env = pure false := by rfl) :
    PS X (.Assign [.Tuple [.Name x px, .Name y py] kt pt] (.Tuple [a, b] k2 pt2) pos) (tPar i j ta) := by
  intro pins s σ H D I h
  rw [exec_Assign_arm]
  refine wpAny_bind (wpAny_standAt ?_)
  rw [hs]
  refine wpAny_bind (wpAny_pure ?_)
  rw [if_neg (by decide)]
  refine wpAny_bind (Tuple_ (thn (ha _ pins s σ H _ I h) fun us s1 ⟨vs, H1, I1, r1, q1⟩ => ?_))
  obtain ⟨v, w, e1, q1⟩ := q1
  subst e1
  obtain ⟨u1, u2, rfl, rv, rw'⟩ : ∃ u1 u2, us = [u1, u2] ∧ RelV v u1 ∧ RelV w u2 := by
    cases r1 with
    | cons p q =>
      cases q with
      | cons p' q' =>
        cases q'
        exact ⟨_, _, rfl, p, p'⟩
  refine wpAny_newObj_type ?_ (by show 2 ≤ sizeLine; decide)
  have I2 : Inv X pins σ H1 { s1 with heap := s1.heap.push { cls := .type "tuple", data := .seq [u1, u2].toArray } } := I1.kept (t' := s1.toks) fun b o e => Heap.get?_push_of_some _ e
  rw [hw]
  refine wpAny_bind (wpAny_pure ?_)
  show wpAny (model X.prog X.w) X.A (do rule "assign.swapped-stores"; let items ← unpackItems (.ref s1.heap.objs.size) 2 none; assignInOrder [fun v => bindName X.env y v, fun v => bindName X.env x v] items.reverse; pure Flow.next) _ _ _
  refine wpAny_bind (wpAny_rule (wpAny_bind (unpackItems_tuple (items := #[u1, u2]) (I.ok.hd hc) (IsTup.new s1.heap _) fun h' hx' => ?_)))
  have I3 := I2.kept (h' := h') (t' := s1.toks) fun b o e => hx' b o (Nat.ne_of_lt (Heap.lt_size e)) e
  show wpAny _ _ (assignInOrder [fun v => bindName X.env y v, fun v => bindName X.env x v] [u2, u1] >>= fun _ => pure Flow.next) _ _ _
  refine wpAny_bind (assignInOrder_cons (wpAny_bindName (store_ok I3 hN hj (.inl hy) rw' (fun s2 I4 => ?_) (.inr hy))))
  refine assignInOrder_cons (wpAny_bindName (store_ok I4 hN hi (.inl hx) rv (fun s3 I5 => assignInOrder_nil (wpAny_pure ?_)) (.inr hx)))
  rw [List.set_comm _ _ (Ne.symm hij)] at I5
  exact ⟨_, H1, I5, q1⟩
/-- name op= e -/
def tAug (i : Nat) (te : TE) (ti : TIp) : TS := fun D σ H => ∃ x, σ[i]? = some (some x) ∧ te σ H fun y H1 => ti x y H1 fun z H2 => D.nx (σ.set i (some z)) H2
theorem ps_aug {i : Nat} {x : Str} {e : Expr} {te : TE} {op : Operator} {ti : TIp} {pos' : Pos} (hN : X.N.Nodup) (hi : X.N[i]? = some x) (hx : Loc X.env.scope x) (he : PE X e te) (ho : PIp X op ti) (hf : X.fn x = true ∨ X.env.scope.names.lookup x = some .local := by first | exact .inl rfl | exact .inr rfl | assumption) :
    PS X (.AugAssign (.Name x pos') op e pos) (tAug i te ti) := by
  intro pins s σ H D I h
  obtain ⟨v, e1, h⟩ := h
  obtain ⟨m, hn, hl⟩ := I.loc
  have vis : Vis X.env.scope x := by rcases hx with k | k; exact .inl k; exact .inr (.inl k)
  obtain ⟨u, r, l⟩ := hl i x v hi e1 vis
  refine wpAny_AugAssign_Name ?_
  have go : wpAny (model X.prog X.w) X.A (eval e X.env) (fun w s₂ => wpAny (model X.prog X.w) X.A (inplaceOp op u w) (fun r s₃ => wpAny (model X.prog X.w) X.A (storeName X.env x r) (fun _ => SP X pins D .next) X.xe s₃) X.xe s₂) X.xe s := by
    refine thn (he pins s σ H _ I h) fun w s1 ⟨y, H1, I1, r1, q1⟩ => ?_
    refine thn (ho pins s1 σ H1 v y u w _ I1 r r1 q1) fun z s2 ⟨zv, H2, I2, r2, q2⟩ => ?_
    exact store_ok I2 hN hi hx r2 (fun s3 I3 => ⟨_, H2, I3, q2⟩) hf
  rcases l with ⟨hk, hm⟩ | ⟨hk, c, hc, hcell⟩
  · exact wpAny_loadName_local I.ok.kind hk hn hm go
  · rcases hk with hk | hk
    · exact wpAny_loadName_cell I.ok.kind hk hc hcell go
    · rcases hx with k | k
      · have : X.env.scope.names.lookup x = some .free := hk
        rw [k] at this; cases this
      · have : X.env.scope.names.lookup x = some .free := hk
        rw [k] at this; cases this
/-- o[i] op= e -/
def tAugS (to ti te : TE) (tget : V → V → Hp → VK → Prop) (tip : TIp) (tset : TSet) : TS := fun D σ H => to σ H fun o H1 => ti σ H1 fun i H2 => tget o i H2 fun x H3 => te σ H3 fun y H4 => tip x y H4 fun z H5 => tset o i z H5 fun H6 => D.nx σ H6
/-- o[i], by values -/
def PGet (X : Cx) (t : V → V → Hp → VK → Prop) : Prop :=
  ∀ (pins : List (Addr × Obj)) (s : Shared) (σ : St) (H : Hp) (o i : V) (ov iv : Value) (Q : VK), Inv X pins σ H s → RelV o ov → RelV i iv → t o i H Q →
    wpAny (model X.prog X.w) X.A (getItem ov iv) (EP X pins σ Q) X.xe s
theorem ps_augS {o i e : Expr} {to ti te : TE} {tget : V → V → Hp → VK → Prop} {tip : TIp} {tset : TSet} {op : Operator} {tpos : Pos} (ho : PE X o to) (hi : PE X i ti) (hg : PGet X tget) (he : PE X e te) (hp : PIp X op tip) (hs : PSet X tset)
    (ha : ∀ ov iv new, augStore i ov iv new = (do holding [new, ov, iv] (setItem ov iv new); release [new, ov, iv] []; pure .next) := by intros; rfl) : PS X (.AugAssign (.Subscript o i tpos) op e pos) (tAugS to ti te tget tip tset) := by
  intro pins s σ H D I h
  refine wpAny_AugAssign_SubscriptAny (thn (ho pins s σ H _ I h) fun ov s1 ⟨x1, H1, I1, r1, q1⟩ => ?_) ha
  refine thn (hi pins s1 σ H1 _ I1 q1) fun iv s2 ⟨x2, H2, I2, r2, q2⟩ => ?_
  refine thn (hg pins s2 σ H2 x1 x2 ov iv _ I2 r1 r2 q2) fun old s3 ⟨x3, H3, I3, r3, q3⟩ => ?_
  refine thn (he pins s3 σ H3 _ I3 q3) fun v s4 ⟨x4, H4, I4, r4, q4⟩ => ?_
  refine thn (hp pins s4 σ H4 x3 x4 old v _ I4 r3 r4 q4) fun new s5 ⟨x5, H5, I5, r5, q5⟩ => ?_
  exact thn (hs pins s5 σ H5 x1 x2 x5 ov iv new _ I5 r1 r2 r5 q5) fun _ s6 ⟨H6, I6, q6⟩ => ⟨σ, H6, I6, q6⟩
/-- ints -/
def ipI (f : Int → Int → Int) : TIp := fun x y H Q => ∃ i j, x = .int i ∧ y = .int j ∧ Q (.int (f i j)) H
theorem ip_add : PIp X .Add (ipI fun i j => i + j) := by
  intro pins s σ H x y v u Q I r1 r2 h
  obtain ⟨i, j, e1, e2, q⟩ := h
  subst e1; subst e2
  obtain ⟨t, rfl⟩ := r1
  obtain ⟨t', rfl⟩ := r2
  exact iadd_int ⟨.int _, H, I.tok _, ⟨_, rfl⟩, q⟩
theorem ip_sub : PIp X .Sub (ipI fun i j => i - j) := by
  intro pins s σ H x y v u Q I r1 r2 h
  obtain ⟨i, j, e1, e2, q⟩ := h
  subst e1; subst e2
  obtain ⟨t, rfl⟩ := r1
  obtain ⟨t', rfl⟩ := r2
  exact isub_int ⟨.int _, H, I.tok _, ⟨_, rfl⟩, q⟩
end

/-! ### while -/
section
variable {X : Cx} {pos : Pos}
/-- the invariant W with its measure -/
def tWhile (c : TT) (tb : TS) : TS := fun D σ H => ∃ W : Nat → St → Hp → Prop, (∃ m, W m σ H) ∧ ∀ m σ H, W m σ H →
  c σ H fun b H1 => if b = true then ∃ N : St → Hp → Prop, (∀ σ' H', N σ' H' → ∃ m', m' < m ∧ W m' σ' H') ∧ tb { D with nx := N, ct := N, bk := D.nx } σ H1 else D.nx σ H1
theorem ps_while {c : Expr} {body : List Stmt} {tc : TT} {tb : TS} (hp : PassesOwn (model X.prog X.w) X.A X.env X.xe) (hc : PT X c tc) (hb : PSs X body tb) : PS X (.While c body [] pos) (tWhile tc tb) := by
  intro pins s σ H D I h
  obtain ⟨W, ⟨m0, w0⟩, turn⟩ := h
  refine wpAny_While (codeAny_whileLoop (fun n s' => ∃ σ' H', Inv X pins σ' H' s' ∧ W n σ' H') ?_ m0 ⟨σ, H, I, w0⟩)
  rintro n s1 ⟨σ1, H1, I1, w1⟩
  refine wpAny_passesOwn hp (thn (hc pins s1 σ1 H1 _ I1 (turn n σ1 H1 w1)) fun b s2 ⟨H2, I2, q2⟩ => ?_)
  cases b with
  | true =>
    obtain ⟨N, hN, q2⟩ := q2
    rw [if_pos rfl]
    refine wpAny_passesOwn hp (thn (hb pins s2 σ1 H2 _ I2 q2) fun f s3 q3 => ?_)
    cases f with
    | next =>
      obtain ⟨σ3, H3, I3, n3⟩ := q3
      obtain ⟨m', hm, w3⟩ := hN σ3 H3 n3
      exact ⟨m', hm, σ3, H3, I3, w3⟩
    | cont =>
      obtain ⟨σ3, H3, I3, n3⟩ := q3
      obtain ⟨m', hm, w3⟩ := hN σ3 H3 n3
      exact ⟨m', hm, σ3, H3, I3, w3⟩
    | brk => exact q3
    | ret v => exact q3
  | false =>
    rw [if_neg Bool.false_ne_true]
    exact wpAny_execs_nil ⟨σ1, H2, I2, q2⟩
end

/-! ### what a loop or a comprehension walks -/
/-- at turn i: it yields x (the heap may grow), or it stops -/
structure It where
  go : Nat → Hp → Prop
  yld : Nat → Hp → V → Hp → Prop
  stop : Nat → Hp → Prop
/-- the iterator's own objects may turn: they are not the frame's, not pinned, younger than the entry (or a comprehension's own) -/
def FpOk (X : Cx) (pins : List (Addr × Obj)) (H : Hp) (b : Addr) : Prop :=
  H b = none ∧ b ≠ X.env.locals ∧ b ∉ X.fs ∧ (b ∈ X.ex ∨ X.s₀.heap.objs.size ≤ b) ∧ (∀ x c, X.env.cells.lookup x = some c → c ≠ b) ∧ ∀ p ∈ X.pn ++ pins, p.1 ≠ b
theorem Inv.fpOk {X : Cx} {pins : List (Addr × Obj)} {σ : St} {H H' : Hp} {s : Shared} {b : Addr} (I : Inv X pins σ H s) (hb : s.heap.objs.size ≤ b) (hn : H' b = none) : FpOk X pins H' b := by
  refine ⟨hn, Nat.ne_of_gt (Nat.lt_of_lt_of_le I.lt hb), I.nofs hb, .inr (Nat.le_trans I.sz hb), fun x c e z => ?_, fun p hp z => ?_⟩
  · obtain ⟨v, q⟩ := I.cell x c e
    exact absurd (Nat.lt_of_lt_of_le q.lt (by rw [z]; exact hb)) (Nat.lt_irrefl _)
  · exact absurd (Nat.lt_of_lt_of_le (Heap.lt_size (I.pin p hp).1) (by rw [z]; exact hb)) (Nat.lt_irrefl _)
structure Turn (P : Program) (w : World) (K : PySem.W.Frag) (tg : Expr) (J : It) (fp : List Addr) (it : Addr) (tn : Nat → Heap → Prop) : Prop where
  mem : it ∈ fp
  obj : ∀ i h, tn i h → ∀ b ∈ fp, ∃ o, h.get? b = some o ∧ ∀ v, o.data ≠ .cell v
  keep : ∀ i h h', tn i h → (∀ b ∈ fp, ∀ o, h.get? b = some o → h'.get? b = some o) → tn i h'
  item : ∀ (X : Cx), X.prog = P → X.w = w → X.K = K → X.calm = true → ∀ (i : Nat) (pins : List (Addr × Obj)) (s : Shared) (σ : St) (H : Hp) (E : Value → Shared → Prop), Inv X pins σ H s → (∀ b ∈ fp, FpOk X pins H b) → tn i s.heap → J.go i H →
    wpAny (model P w) X.A (pyNext (.ref it)) (fun r s1 => ∃ u, r = some u ∧
      wpAny (model P w) X.A (letOwnedTupleGo tg (.ref it) u) (fun _ s2 => ∃ x H', Inv X pins σ H' s2 ∧ RelV x u ∧ J.yld i H x H' ∧ tn (i + 1) s2.heap ∧ ∀ b ∈ fp, H' b = none) E s1) E s
  done : ∀ (X : Cx), X.prog = P → X.w = w → X.K = K → X.calm = true → ∀ (i : Nat) (pins : List (Addr × Obj)) (s : Shared) (σ : St) (H : Hp) (E : Value → Shared → Prop), Inv X pins σ H s → (∀ b ∈ fp, FpOk X pins H b) → tn i s.heap → J.stop i H →
    wpAny (model P w) X.A (pyNext (.ref it)) (fun r s1 => r = none ∧ Inv X pins σ H s1) E s
  self : ∀ (A : Around) (i : Nat) (s : Shared) (Q : Value → Shared → Prop) (E : Value → Shared → Prop), tn i s.heap → Q (.ref it) s → wpAny (model P w) A (pyIter (.ref it)) Q E s
abbrev TI := St → Hp → (It → Hp → Prop) → Prop
/-- an iterator has come -/
def PIE (X : Cx) (pins : List (Addr × Obj)) (σ : St) (tg : Expr) (R : It → Hp → Prop) (itv : Value) (s2 : Shared) : Prop :=
  ∃ (it : Addr) (fp : List Addr) (tn : Nat → Heap → Prop) (J : It) (H' : Hp), itv = .ref it ∧ Inv X pins σ H' s2 ∧ Turn X.prog X.w X.K tg J fp it tn ∧ tn 0 s2.heap ∧ (∀ b ∈ fp, FpOk X pins H' b) ∧ R J H'
def PI (X : Cx) (tg iter : Expr) (wi : TI) : Prop :=
  ∀ (pins : List (Addr × Obj)) (s : Shared) (σ : St) (H : Hp) (R : It → Hp → Prop), Inv X pins σ H s → wi σ H R →
    wpAny (model X.prog X.w) X.A (eval iter X.env) (fun v s1 => wpAny (model X.prog X.w) X.A (pyIter v) (PIE X pins σ tg R) X.xe s1) X.xe s

/-- the step ahead of the store is nothing for an iterator that keeps no tuple -/
theorem go_of {M : Model} {A : Around} {E : Value → Shared → Prop} {s : Shared} {tg : Expr} {it : Addr} {u : Value} {o : Obj} {n : String} {vs : Array Value} {Q : Unit → Shared → Prop} (ho : s.heap.get? it = some o) (hc : o.cls = .type n) (hd : o.data = .fields vs)
    (hn : ["enumerate", "zip", "dict_itemiterator", "dict_reverseitemiterator", "odict_iterator", "itertools.zip_longest", "itertools.pairwise"].contains n = false) (hQ : Q () s) : wpAny M A (letOwnedTupleGo tg (.ref it) u) Q E s := by
  unfold letOwnedTupleGo
  cases tg <;> first
    | exact wpAny_pure hQ
    | (cases u <;> first
        | exact wpAny_pure hQ
        | (refine wpAny_bind (wpAny_load ho ?_)
           rw [hc, hd]
           show wpAny M A (if (["enumerate", "zip", "dict_itemiterator", "dict_reverseitemiterator", "odict_iterator", "itertools.zip_longest", "itertools.pairwise"].contains n && vs[0]? == some (rawInt _)) = true then _ else _) Q E s
           rw [if_neg (by intro h; rw [hn, Bool.false_and] at h; cases h)]
           exact wpAny_pure hQ))

/-- the list at a, as it stands at each turn (a loop may append to it) -/
def Itl (K : PySem.W.Frag) (a : Addr) : It :=
  ⟨fun i H => ∃ xs x, SqL K H a xs ∧ xs[i]? = some x, fun i H x H' => H' = H ∧ ∀ xs, SqL K H a xs → xs[i]? = some x, fun i H => ∃ xs, SqL K H a xs ∧ xs.length ≤ i⟩
def Itt (K : PySem.W.Frag) (a : Addr) : It :=
  ⟨fun i H => ∃ xs x, SqT K H a xs ∧ xs[i]? = some x, fun i H x H' => H' = H ∧ ∀ xs, SqT K H a xs → xs[i]? = some x, fun i H => ∃ xs, SqT K H a xs ∧ xs.length ≤ i⟩
/-- lo, lo + 1, .. (n of them) -/
def Itr (lo : Int) (n : Nat) : It := ⟨fun i _ => i < n, fun i H x H' => H' = H ∧ x = .int (lo + i), fun i _ => n ≤ i⟩
theorem turn_list {P : Program} {w : World} {K : PySem.W.Frag} {tg : Expr} (a it : Addr) : Turn P w K tg (Itl K a) [it] it (fun i h => h.IsListIter it a i) where
  mem := by simp
  obj := fun i h st b hb => by
    have e : b = it := by simpa using hb
    subst e
    obtain ⟨o, e, c, d⟩ := st
    exact ⟨o, e, fun v z => by rw [d] at z; cases z⟩
  keep := fun i h h' st k => st.at fun o e => k it (by simp) o e
  item := by
    intro X hP hw hK hc i pins s σ H E I hf st hg
    subst hP hw hK
    obtain ⟨xs, x, hq, hx⟩ := hg
    obtain ⟨its, rv, p, hz⟩ := I.list hq
    obtain ⟨u, hu, ru⟩ := rv.get hx
    obtain ⟨f0, f1, f2, f3, f4, f5⟩ := hf it (by simp)
    refine wpAny_pyNext_list_item st p.isList (x := u) (by simpa using hu) fun h' st' sb => ?_
    have I1 : Inv X pins σ H { s with heap := h' } := I.turned (t' := s.toks) (fun b o hb e => (sb.2 b hb).trans e) f0 f1 f3 f4 f5
    obtain ⟨o, e, c, d⟩ := id st'
    exact ⟨u, rfl, go_of (s := { s with heap := h' }) e c d (by decide) ⟨x, H, I1, ru, ⟨rfl, fun ys hy => by rw [I.list_inj hy hq]; exact hx⟩, st', fun b hb => (hf b hb).1⟩⟩
  done := by
    intro X hP hw hK hc i pins s σ H E I hf st hg
    subst hP hw hK
    obtain ⟨xs, hq, hx⟩ := hg
    obtain ⟨its, rv, p, hz⟩ := I.list hq
    obtain ⟨f0, f1, f2, f3, f4, f5⟩ := hf it (by simp)
    have hl := rv.length
    exact wpAny_pyNext_list_end (I.ok.hd hc) st p.isList (by simp; omega) fun h' eb => ⟨rfl, I.turned (t' := s.toks) (fun b o hb e => eb b o hb e) f0 f1 f3 f4 f5⟩
  self := fun _ _ _ _ _ st h => wpAny_pyIter_listiter st h
theorem turn_tuple {P : Program} {w : World} {K : PySem.W.Frag} {tg : Expr} (a it : Addr) : Turn P w K tg (Itt K a) [it] it (fun i h => h.IsTupleIter it a i) where
  mem := by simp
  obj := fun i h st b hb => by
    have e : b = it := by simpa using hb
    subst e
    obtain ⟨o, e, c, d⟩ := st
    exact ⟨o, e, fun v z => by rw [d] at z; cases z⟩
  keep := fun i h h' st k => st.at fun o e => k it (by simp) o e
  item := by
    intro X hP hw hK hc i pins s σ H E I hf st hg
    subst hP hw hK
    obtain ⟨xs, x, hq, hx⟩ := hg
    obtain ⟨its, rv, p, hz⟩ := I.tuple hq
    obtain ⟨u, hu, ru⟩ := rv.get hx
    obtain ⟨f0, f1, f2, f3, f4, f5⟩ := hf it (by simp)
    refine wpAny_pyNext_tuple_item st (show s.heap.IsTuple a its.toArray from p) (x := u) (by simpa using hu) fun h' st' sb => ?_
    have I1 : Inv X pins σ H { s with heap := h' } := I.turned (t' := s.toks) (fun b o hb e => (sb.2 b hb).trans e) f0 f1 f3 f4 f5
    obtain ⟨o, e, c, d⟩ := id st'
    exact ⟨u, rfl, go_of (s := { s with heap := h' }) e c d (by decide) ⟨x, H, I1, ru, ⟨rfl, fun ys hy => by rw [I.tuple_inj hy hq]; exact hx⟩, st', fun b hb => (hf b hb).1⟩⟩
  done := by
    intro X hP hw hK hc i pins s σ H E I hf st hg
    subst hP hw hK
    obtain ⟨xs, hq, hx⟩ := hg
    obtain ⟨its, rv, p, hz⟩ := I.tuple hq
    obtain ⟨f0, f1, f2, f3, f4, f5⟩ := hf it (by simp)
    have hl := rv.length
    exact wpAny_pyNext_tuple_end (I.ok.hd hc) st (show s.heap.IsTuple a its.toArray from p) (by simp; omega) fun h' eb => ⟨rfl, I.turned (t' := s.toks) (fun b o hb e => eb b o hb e) f0 f1 f3 f4 f5⟩
  self := fun _ _ _ _ _ st h => wpAny_pyIter_tupleiter st h
theorem turn_range {P : Program} {w : World} {K : PySem.W.Frag} {tg : Expr} (it : Addr) (lo : Int) (n : Nat) : Turn P w K tg (Itr lo n) [it] it (fun i h => IsRangeIter h it (lo + (i : Nat) * 1) ((n : Int) - (i : Nat)) 1) where
  mem := by simp
  obj := fun i h st b hb => by
    have e : b = it := by simpa using hb
    subst e
    exact ⟨_, st, fun v z => by
      have z' : Data.fields _ = Data.cell v := z
      cases z'⟩
  keep := fun i h h' st k => k it (by simp) _ st
  item := by
    intro X hP hw hK hc i pins s σ H E I hf st hg
    subst hP hw hK
    obtain ⟨f0, f1, f2, f3, f4, f5⟩ := hf it (by simp)
    have W := Walks.range (prog := X.prog) (w := X.w) (I.ok.hd hc) it lo 1 n
    refine W.item i s _ _ hg st fun v h' tk hv st' kk => ?_
    obtain ⟨t, rfl⟩ := hv
    have I1 : Inv X pins σ H { s with heap := h', toks := tk } := I.turned (fun b o hb e => kk b o (by simpa using hb) e) f0 f1 f3 f4 f5
    refine ⟨_, rfl, go_of (s := { s with heap := h', toks := tk }) (n := "range_iterator") st' rfl rfl (by decide) ⟨.int (lo + i), H, I1, ⟨t, ?_⟩, ⟨rfl, rfl⟩, st', fun b hb => (hf b hb).1⟩⟩
    rw [Int.mul_one]
  done := by
    intro X hP hw hK hc i pins s σ H E I hf st hg
    subst hP hw hK
    obtain ⟨f0, f1, f2, f3, f4, f5⟩ := hf it (by simp)
    exact wpAny_pyNext_range_end (I.ok.hd hc) st (by have : n ≤ i := hg; omega) fun h' eb => ⟨rfl, I.turned (t' := s.toks) (fun b o hb e => eb b o hb e) f0 f1 f3 f4 f5⟩
  self := fun _ _ _ _ _ st h => wpAny_pyIter_rangeiter st h
end L2

namespace L2
open PySem PySem.Spec PyProof.Rows
section
variable {X : Cx} {tg : Expr}
def iList (K : PySem.W.Frag) (tl : TE) : TI := fun σ H R => tl σ H fun x H1 => ∃ a, x = .ref a ∧ (∃ xs, SqL K H1 a xs) ∧ R (Itl K a) H1
def iTup (K : PySem.W.Frag) (tl : TE) : TI := fun σ H R => tl σ H fun x H1 => ∃ a, x = .ref a ∧ (∃ xs, SqT K H1 a xs) ∧ R (Itt K a) H1
theorem pi_list {l : Expr} {tl : TE} (hl : PE X l tl) : PI X tg l (iList X.K tl) := by
  intro pins s σ H R I h
  refine thn (hl pins s σ H _ I h) fun v s1 ⟨x, H1, I1, r1, q1⟩ => ?_
  obtain ⟨a, e, ⟨xs, hq⟩, q⟩ := q1
  subst e
  cases r1
  obtain ⟨its, rv, p, hz⟩ := I1.list hq
  refine wpAny_pyIter_list p.isList ?_
  refine ⟨s1.heap.objs.size, [s1.heap.objs.size], _, _, H1, rfl, I1.kept (t' := s1.toks) fun b o e => Heap.get?_push_of_some _ e, turn_list a _, ⟨_, Heap.get?_push_size _ rfl, rfl, rfl⟩, fun b hb => ?_, q⟩
  have e : b = s1.heap.objs.size := by simpa using hb
  subst e
  exact I1.fpOk (Nat.le_refl _) (I1.hok.fresh (Nat.le_refl _))
theorem pi_tup {l : Expr} {tl : TE} (hl : PE X l tl) : PI X tg l (iTup X.K tl) := by
  intro pins s σ H R I h
  refine thn (hl pins s σ H _ I h) fun v s1 ⟨x, H1, I1, r1, q1⟩ => ?_
  obtain ⟨a, e, ⟨xs, hq⟩, q⟩ := q1
  subst e
  cases r1
  obtain ⟨its, rv, p, hz⟩ := I1.tuple hq
  refine wpAny_pyIter_tuple (show s1.heap.IsTuple a its.toArray from p) ?_
  refine ⟨s1.heap.objs.size, [s1.heap.objs.size], _, _, H1, rfl, I1.kept (t' := s1.toks) fun b o e => Heap.get?_push_of_some _ e, turn_tuple a _, ⟨_, Heap.get?_push_size _ rfl, rfl, rfl⟩, fun b hb => ?_, q⟩
  have e : b = s1.heap.objs.size := by simpa using hb
  subst e
  exact I1.fpOk (Nat.le_refl _) (I1.hok.fresh (Nat.le_refl _))
/-- a range object just made, walked -/
theorem range_it {pins : List (Addr × Obj)} {σ : St} {H : Hp} {s : Shared} {R : It → Hp → Prop} {E : Value → Shared → Prop} {lo hi : Int} {t u v : Tok} {tk : Nat} (I : Inv X pins σ H s) (h1 : -(2 ^ 62) ≤ lo) (h2 : lo < 2 ^ 62) (h3 : -(2 ^ 62) ≤ hi) (h4 : hi < 2 ^ 62)
    (q : R (Itr lo (hi - lo).toNat) H) : wpAny (model X.prog X.w) X.A (pyIter (.ref s.heap.objs.size)) (PIE X pins σ tg R) E { s with heap := s.heap.push { cls := .type "range", data := .fields #[.int lo t, .int hi u, .int 1 v] }, toks := tk } := by
  refine wpAny_pyIter_range (IsRange.new ..) (small_one h1 h2 h3 h4) ?_
  have I1 : Inv X pins σ H { s with heap := s.heap.push { cls := .type "range", data := .fields #[.int lo t, .int hi u, .int 1 v] }, toks := tk } := I.kept fun b o e => Heap.get?_push_of_some _ e
  refine ⟨(s.heap.push { cls := .type "range", data := .fields #[.int lo t, .int hi u, .int 1 v] }).objs.size, [(s.heap.push { cls := .type "range", data := .fields #[.int lo t, .int hi u, .int 1 v] }).objs.size], _, _, H, rfl,
    I1.kept (t' := tk) fun b o e => Heap.get?_push_of_some _ e, turn_range _ lo (hi - lo).toNat, ?_, fun b hb => ?_, q⟩
  · have e1 : lo + ((0 : Nat) : Int) * 1 = lo := by simp
    have e2 : (((hi - lo).toNat : Nat) : Int) - ((0 : Nat) : Int) = Builtin.Range.rangeSize lo hi 1 := by rw [rangeSize_one]; split <;> omega
    show IsRangeIter _ _ (lo + ((0 : Nat) : Int) * 1) ((((hi - lo).toNat : Nat) : Int) - ((0 : Nat) : Int)) 1
    rw [e1, e2]
    exact Heap.get?_push_size _ rfl
  · have e : b = (s.heap.push { cls := .type "range", data := .fields #[.int lo t, .int hi u, .int 1 v] }).objs.size := by simpa using hb
    subst e
    exact I1.fpOk (Nat.le_refl _) (I1.hok.fresh (Nat.le_refl _))
def iRng1 (ta : TA) : TI := fun σ H R => ta σ H fun vs H1 => ∃ j : Int, vs = [.int j] ∧ -(2 ^ 62) ≤ j ∧ j < 2 ^ 62 ∧ R (Itr 0 j.toNat) H1
def iRng2 (ta : TA) : TI := fun σ H R => ta σ H fun vs H1 => ∃ i j : Int, vs = [.int i, .int j] ∧ (-(2 ^ 62) ≤ i ∧ i < 2 ^ 62 ∧ -(2 ^ 62) ≤ j ∧ j < 2 ^ 62) ∧ R (Itr i (j - i).toNat) H1
theorem pi_range1 {a : Expr} {ta : TA} {p pos : Pos} (hg : Gl X "range") (hm : X.mg "range" = none) (ha : PA X [a] ta) (hs : starEach [a] X.env = [(false, eval a X.env)] := by rfl) : PI X tg (.Call (.Name "range" p) [a] [] pos) (iRng1 ta) := by
  intro pins s σ H R I h
  refine Call_ (ld_blt I hg hm boot_range (PyProof.Rows.callWith_type1 (thn (ha pos pins s σ H _ I h) fun us s1 ⟨vs, H1, I1, r1, q1⟩ => ?_) hs rfl))
  obtain ⟨j, e, q1, q2, q⟩ := q1
  subst e
  cases r1 with
  | cons r rr =>
    cases rr
    obtain ⟨t, rfl⟩ := r
    exact call_range_1 (range_it I1 (by omega) (by omega) q1 q2 (by simpa using q))
theorem pi_range2 {a b : Expr} {ta : TA} {p pos : Pos} (hg : Gl X "range") (hm : X.mg "range" = none) (ha : PA X [a, b] ta) (hs : starEach [a, b] X.env = [(false, eval a X.env), (false, eval b X.env)] := by rfl) (hs2 : starEach [b] X.env = [(false, eval b X.env)] := by rfl) :
    PI X tg (.Call (.Name "range" p) [a, b] [] pos) (iRng2 ta) := by
  intro pins s σ H R I h
  refine Call_ (ld_blt I hg hm boot_range (PyProof.Rows.callWith_type1 (thn (ha pos pins s σ H _ I h) fun us s1 ⟨vs, H1, I1, r1, q1⟩ => ?_) (by rw [hs, hs2]) (by rw [hs2]; rfl)))
  obtain ⟨i, j, e, ⟨q1, q2, q3, q4⟩, q⟩ := q1
  subst e
  cases r1 with
  | cons r rr =>
    cases rr with
    | cons r' rr =>
      cases rr
      obtain ⟨t, rfl⟩ := r
      obtain ⟨t', rfl⟩ := r'
      exact call_range_2 (range_it I1 q1 q2 q3 q4 q)

/-! ### for -/
/-- W: the invariant by the turn and a measure; N: what the body is to reach -/
def tFor (wi : TI) (g : TG) (tb : TS) : TS := fun D σ H => wi σ H fun J H1 => ∃ W : Nat → Nat → St → Hp → Prop, (∃ m, W 0 m σ H1) ∧ ∀ i m σ H, W i m σ H →
  (J.stop i H ∧ D.nx σ H) ∨ (J.go i H ∧ ∃ N : St → Hp → Prop, (∀ σ' H', N σ' H' → ∃ m', m' < m ∧ W (i + 1) m' σ' H') ∧ ∀ x H', J.yld i H x H' → g x σ H' fun σ2 H2 => tb { D with nx := N, ct := N, bk := D.nx } σ2 H2)
/-- the records at fp as they stand -/
def pinsAt (fp : List Addr) (h : Heap) : List (Addr × Obj) := fp.filterMap fun b => (h.get? b).map fun o => (b, o)
theorem mem_pinsAt {fp : List Addr} {h : Heap} {b : Addr} {o : Obj} (hb : b ∈ fp) (e : h.get? b = some o) : (b, o) ∈ pinsAt fp h := List.mem_filterMap.mpr ⟨b, hb, by rw [e]; rfl⟩
theorem of_pinsAt {fp : List Addr} {h : Heap} {p : Addr × Obj} (hp : p ∈ pinsAt fp h) : p.1 ∈ fp ∧ h.get? p.1 = some p.2 := by
  obtain ⟨b, hb, e⟩ := List.mem_filterMap.mp hp
  cases q : h.get? b with
  | none => rw [q] at e; cases e
  | some o =>
    rw [q] at e
    have e' : (b, o) = p := Option.some.inj e
    subst e'
    exact ⟨hb, q⟩
theorem Inv.pinned {pins : List (Addr × Obj)} {σ : St} {H : Hp} {s : Shared} {fp : List Addr} (I : Inv X pins σ H s) (hf : ∀ b ∈ fp, FpOk X pins H b) (ho : ∀ b ∈ fp, ∃ o, s.heap.get? b = some o ∧ ∀ v, o.data ≠ .cell v) : Inv X (pins ++ pinsAt fp s.heap) σ H s :=
  I.pins_of fun p hp => (List.mem_append.mp hp).elim (fun z => I.pin p (List.mem_append_right _ z)) fun z => by
    obtain ⟨hb, e⟩ := of_pinsAt z
    obtain ⟨f0, f1, f2, _⟩ := hf p.1 hb
    obtain ⟨o, e', d⟩ := ho p.1 hb
    rw [e] at e'; cases e'
    exact ⟨e, f0, f1, f2, d⟩
theorem Inv.unpinned {pins pl : List (Addr × Obj)} {σ : St} {H : Hp} {s : Shared} (I : Inv X (pins ++ pl) σ H s) : Inv X pins σ H s := I.pins_of fun p hp => I.pin p (List.mem_append_right _ (List.mem_append_left _ hp))
theorem ps_for {iter : Expr} {body : List Stmt} {wi : TI} {g : TG} {tb : TS} {pos : Pos} (hp : PassesOwn (model X.prog X.w) X.A X.env X.xe) (hc : X.calm = true) (hi : PI X tg iter wi) (hg : PG X tg g) (hb : PSs X body tb)
    (hs : ∀ x, foldedSetIterable iter X.env x = pure x := by intro _; rfl) : PS X (.For tg iter body [] pos) (tFor wi g tb) := by
  intro pins s σ H D I h
  refine wpAny_For (thn (hi pins s σ H _ I h) fun v s1 h1 => thn h1 fun itv s2 h2 => ?_) hs
  obtain ⟨it, fp, tn, J, H2, e, I2, T, st2, f2, W, ⟨m0, w0⟩, turn⟩ := h2
  subst e
  -- what stays true of the iterator's objects through the loop
  have stat : ∀ {H' : Hp}, (∀ b ∈ fp, H' b = none) → ∀ b ∈ fp, FpOk X pins H' b := fun hn b hb => ⟨hn b hb, (f2 b hb).2⟩
  refine codeAny_forLoop_any (fun n s' => ∃ i σ' H', Inv X pins σ' H' s' ∧ tn i s'.heap ∧ (∀ b ∈ fp, H' b = none) ∧ W i n σ' H') ?_ m0 ⟨0, σ, H2, I2, st2, fun b hb => (f2 b hb).1, w0⟩
  rintro n s3 ⟨i, σ3, H3, I3, st3, fr3, w3⟩
  rcases turn i n σ3 H3 w3 with ⟨stop, qn⟩ | ⟨go, N, hN, step⟩
  · refine wpAny_passesOwn hp (thn (T.done X rfl rfl rfl hc i pins s3 σ3 H3 X.xe I3 (stat fr3) st3 stop) fun r s4 ⟨hr, I4⟩ => ?_)
    subst hr
    exact wpAny_execs_nil ⟨σ3, H3, I4, qn⟩
  · refine wpAny_passesOwn hp (thn (T.item X rfl rfl rfl hc i pins s3 σ3 H3 X.xe I3 (stat fr3) st3 go) fun r s4 ⟨u, hr, h4⟩ => ?_)
    subst hr
    refine wpAny_passesOwn hp (thn h4 fun _ s5 ⟨x, H5, I5, r5, y5, st5, fr5⟩ => ?_)
    have I5' := I5.pinned (stat fr5) (T.obj _ _ st5)
    refine wpAny_passesOwn hp (thn (hg _ s5 σ3 H5 x u _ I5' r5 (step x H5 y5)) fun _ s6 ⟨σ6, H6, I6, q6⟩ => ?_)
    refine wpAny_passesOwn hp (thn (hb _ s6 σ6 H6 _ I6 q6) fun f s7 q7 => ?_)
    have again : ∀ {σ7 : St} {H7 : Hp}, Inv X (pins ++ pinsAt fp s5.heap) σ7 H7 s7 → N σ7 H7 → ∃ m, m < n ∧ ∃ i σ' H', Inv X pins σ' H' s7 ∧ tn i s7.heap ∧ (∀ b ∈ fp, H' b = none) ∧ W i m σ' H' := fun {σ7 H7} I7 n7 => by
      obtain ⟨m', hm, w7⟩ := hN σ7 H7 n7
      refine ⟨m', hm, i + 1, σ7, H7, I7.unpinned, T.keep _ _ _ st5 fun b hb o e => (I7.pin (b, o) (List.mem_append_right _ (List.mem_append_right _ (mem_pinsAt hb e)))).1, fun b hb => ?_, w7⟩
      obtain ⟨o, e, d⟩ := T.obj _ _ st5 b hb
      exact (I7.pin (b, o) (List.mem_append_right _ (List.mem_append_right _ (mem_pinsAt hb e)))).2.1
    cases f with
    | next => obtain ⟨σ7, H7, I7, n7⟩ := q7; exact again I7 n7
    | cont => obtain ⟨σ7, H7, I7, n7⟩ := q7; exact again I7 n7
    | brk => obtain ⟨σ7, H7, I7, q7⟩ := q7; exact ⟨σ7, H7, I7.unpinned, q7⟩
    | ret v => obtain ⟨x7, σ7, H7, I7, r7, q7⟩ := q7; exact ⟨x7, σ7, H7, I7.unpinned, r7, q7⟩
end

/-! ### the forms one uses -/
/-- over a list that the body leaves as it is -/
theorem for_list {K : PySem.W.Frag} {a : Addr} {xs : List V} {g : TG} {tb : TS} {D : Ends} {σ : St} {H : Hp} (Pv : Nat → St → Hp → Prop) (h0 : Pv 0 σ H) (hl : ∀ i σ H, i ≤ xs.length → Pv i σ H → SqL K H a xs)
    (hs : ∀ i x σ H, xs[i]? = some x → Pv i σ H → g x σ H fun σ2 H2 => tb { D with nx := Pv (i + 1), ct := Pv (i + 1), bk := D.nx } σ2 H2) (hd : ∀ σ H, Pv xs.length σ H → D.nx σ H) :
    ∃ W : Nat → Nat → St → Hp → Prop, (∃ m, W 0 m σ H) ∧ ∀ i m σ H, W i m σ H →
      ((Itl K a).stop i H ∧ D.nx σ H) ∨ ((Itl K a).go i H ∧ ∃ N : St → Hp → Prop, (∀ σ' H', N σ' H' → ∃ m', m' < m ∧ W (i + 1) m' σ' H') ∧ ∀ x H', (Itl K a).yld i H x H' → g x σ H' fun σ2 H2 => tb { D with nx := N, ct := N, bk := D.nx } σ2 H2) := by
  refine ⟨fun i m σ H => m = xs.length - i ∧ i ≤ xs.length ∧ Pv i σ H, ⟨xs.length, by simp, Nat.zero_le _, h0⟩, ?_⟩
  rintro i m σ H ⟨rfl, hi, p⟩
  have q := hl i σ H hi p
  by_cases hlt : i < xs.length
  · refine .inr ⟨⟨xs, xs[i], q, by simp [hlt]⟩, Pv (i + 1), fun σ' H' p' => ⟨xs.length - (i + 1), by omega, rfl, hlt, p'⟩, fun x H' y => ?_⟩
    obtain ⟨e, y⟩ := y
    subst e
    exact hs i x σ _ (y xs q) p
  · have e : i = xs.length := by omega
    subst e
    exact .inl ⟨⟨xs, q, Nat.le_refl _⟩, hd σ H p⟩
theorem for_tup {K : PySem.W.Frag} {a : Addr} {xs : List V} {g : TG} {tb : TS} {D : Ends} {σ : St} {H : Hp} (Pv : Nat → St → Hp → Prop) (h0 : Pv 0 σ H) (hl : ∀ i σ H, i ≤ xs.length → Pv i σ H → SqT K H a xs)
    (hs : ∀ i x σ H, xs[i]? = some x → Pv i σ H → g x σ H fun σ2 H2 => tb { D with nx := Pv (i + 1), ct := Pv (i + 1), bk := D.nx } σ2 H2) (hd : ∀ σ H, Pv xs.length σ H → D.nx σ H) :
    ∃ W : Nat → Nat → St → Hp → Prop, (∃ m, W 0 m σ H) ∧ ∀ i m σ H, W i m σ H →
      ((Itt K a).stop i H ∧ D.nx σ H) ∨ ((Itt K a).go i H ∧ ∃ N : St → Hp → Prop, (∀ σ' H', N σ' H' → ∃ m', m' < m ∧ W (i + 1) m' σ' H') ∧ ∀ x H', (Itt K a).yld i H x H' → g x σ H' fun σ2 H2 => tb { D with nx := N, ct := N, bk := D.nx } σ2 H2) := by
  refine ⟨fun i m σ H => m = xs.length - i ∧ i ≤ xs.length ∧ Pv i σ H, ⟨xs.length, by simp, Nat.zero_le _, h0⟩, ?_⟩
  rintro i m σ H ⟨rfl, hi, p⟩
  have q := hl i σ H hi p
  by_cases hlt : i < xs.length
  · refine .inr ⟨⟨xs, xs[i], q, by simp [hlt]⟩, Pv (i + 1), fun σ' H' p' => ⟨xs.length - (i + 1), by omega, rfl, hlt, p'⟩, fun x H' y => ?_⟩
    obtain ⟨e, y⟩ := y
    subst e
    exact hs i x σ _ (y xs q) p
  · have e : i = xs.length := by omega
    subst e
    exact .inl ⟨⟨xs, q, Nat.le_refl _⟩, hd σ H p⟩
theorem for_range {lo : Int} {n : Nat} {g : TG} {tb : TS} {D : Ends} {σ : St} {H : Hp} (Pv : Nat → St → Hp → Prop) (h0 : Pv 0 σ H)
    (hs : ∀ i σ H, i < n → Pv i σ H → g (.int (lo + i)) σ H fun σ2 H2 => tb { D with nx := Pv (i + 1), ct := Pv (i + 1), bk := D.nx } σ2 H2) (hd : ∀ σ H, Pv n σ H → D.nx σ H) :
    ∃ W : Nat → Nat → St → Hp → Prop, (∃ m, W 0 m σ H) ∧ ∀ i m σ H, W i m σ H →
      ((Itr lo n).stop i H ∧ D.nx σ H) ∨ ((Itr lo n).go i H ∧ ∃ N : St → Hp → Prop, (∀ σ' H', N σ' H' → ∃ m', m' < m ∧ W (i + 1) m' σ' H') ∧ ∀ x H', (Itr lo n).yld i H x H' → g x σ H' fun σ2 H2 => tb { D with nx := N, ct := N, bk := D.nx } σ2 H2) := by
  refine ⟨fun i m σ H => m = n - i ∧ i ≤ n ∧ Pv i σ H, ⟨n, by simp, Nat.zero_le _, h0⟩, ?_⟩
  rintro i m σ H ⟨rfl, hi, p⟩
  by_cases hlt : i < n
  · refine .inr ⟨hlt, Pv (i + 1), fun σ' H' p' => ⟨n - (i + 1), by omega, rfl, hlt, p'⟩, fun x H' y => ?_⟩
    obtain ⟨e, y⟩ := y
    subst e y
    exact hs i σ _ hlt p
  · have e : i = n := by omega
    subst e
    exact .inl ⟨Nat.le_refl _, hd σ H p⟩
/-- while, by a word and a measure of the state -/
theorem while_by {c : TT} {tb : TS} {D : Ends} {σ : St} {H : Hp} (Pv : St → Hp → Prop) (μ : St → Hp → Nat) (h0 : Pv σ H)
    (hs : ∀ σ H, Pv σ H → c σ H fun b H1 => if b = true then tb { D with nx := fun σ' H' => Pv σ' H' ∧ μ σ' H' < μ σ H, ct := fun σ' H' => Pv σ' H' ∧ μ σ' H' < μ σ H, bk := D.nx } σ H1 else D.nx σ H1)
    (mono : ∀ σ H Q Q', (∀ b H1, Q b H1 → Q' b H1) → c σ H Q → c σ H Q') : tWhile c tb D σ H := by
  refine ⟨fun m σ H => m = μ σ H ∧ Pv σ H, ⟨_, rfl, h0⟩, ?_⟩
  rintro m σ H ⟨rfl, p⟩
  refine mono σ H _ _ (fun b H1 q => ?_) (hs σ H p)
  cases b with
  | true => exact ⟨_, fun σ' H' ⟨p', l⟩ => ⟨_, l, rfl, p'⟩, q⟩
  | false => exact q
end L2

namespace L2
open PySem PySem.Spec PyProof.Rows

abbrev R2 := V → V → Hp → VK → Prop
/-- a two-place operation on values: f is binaryOp op, inplaceOp op or compareOp op -/
def OpR (X : Cx) (f : Value → Value → Sem Value) (r : R2) : Prop :=
  ∀ (pins : List (Addr × Obj)) (s : Shared) (σ : St) (H : Hp) (x y : V) (v u : Value) (Q : VK), Inv X pins σ H s → RelV x v → RelV y u → r x y H Q →
    wpAny (model X.prog X.w) X.A (f v u) (EP X pins σ Q) X.xe s
/-- a one-place operation -/
def UnR (X : Cx) (f : Value → Sem Value) (r : V → Hp → VK → Prop) : Prop :=
  ∀ (pins : List (Addr × Obj)) (s : Shared) (σ : St) (H : Hp) (x : V) (v : Value) (Q : VK), Inv X pins σ H s → RelV x v → r x H Q →
    wpAny (model X.prog X.w) X.A (f v) (EP X pins σ Q) X.xe s
/-- a call of a value that is known (a builtin, a type) with values -/
def CallR (X : Cx) (f : Value) (r : List V → Hp → VK → Prop) : Prop :=
  ∀ (pins : List (Addr × Obj)) (s : Shared) (σ : St) (H : Hp) (xs : List V) (us : List Value) (Q : VK), Inv X pins σ H s → Vals xs us → r xs H Q →
    wpAny (model X.prog X.w) X.A (call f us) (EP X pins σ Q) X.xe s
/-- a value's truth -/
def TruR (X : Cx) (r : V → Hp → (Bool → Hp → Prop) → Prop) : Prop :=
  ∀ (pins : List (Addr × Obj)) (s : Shared) (σ : St) (H : Hp) (x : V) (v : Value) (Q : Bool → Hp → Prop), Inv X pins σ H s → RelV x v → r x H Q →
    wpAny (model X.prog X.w) X.A (truthy v) (TP X pins σ Q) X.xe s

def tOp (r : R2) (ta tb : TE) : TE := fun σ H Q => ta σ H fun x H1 => tb σ H1 fun y H2 => r x y H2 Q
def tUn (r : V → Hp → VK → Prop) (ta : TE) : TE := fun σ H Q => ta σ H fun x H1 => r x H1 Q
/-- ints in, under C, and a value out -/
def rI (C : Int → Int → Prop) (g : Int → Int → V) : R2 := fun x y H Q => ∃ i j, x = .int i ∧ y = .int j ∧ C i j ∧ Q (g i j) H
def rI0 (g : Int → Int → V) : R2 := fun x y H Q => ∃ i j, x = .int i ∧ y = .int j ∧ Q (g i j) H
def rU (g : Int → V) : V → Hp → VK → Prop := fun x H Q => ∃ i, x = .int i ∧ Q (g i) H

section
variable {X : Cx} {a b c : Expr} {ta tb tc : TE} {pos : Pos}

theorem binT (ha : PE X a ta) (hb : PE X b tb) {pins : List (Addr × Obj)} {s : Shared} {σ : St} {H : Hp} {R : V → V → Hp → Prop} (I : Inv X pins σ H s)
    (h : ta σ H fun x H1 => tb σ H1 fun y H2 => R x y H2) {Q : Value → Shared → Prop} {f : Value → Value → Sem Value}
    (hf : ∀ v u s2 x y H2, Inv X pins σ H2 s2 → RelV x v → RelV y u → R x y H2 → wpAny (model X.prog X.w) X.A (f v u) Q X.xe s2) :
    wpAny (model X.prog X.w) X.A (eval a X.env) (fun v s₁ => wpAny (model X.prog X.w) X.A (eval b X.env) (fun u s₂ => wpAny (model X.prog X.w) X.A (f v u) Q X.xe s₂) X.xe s₁) X.xe s := by
  refine thn (ha pins s σ H _ I h) fun v s1 ⟨x, H1, I1, r1, q1⟩ => ?_
  refine thn (hb pins s1 σ H1 _ I1 q1) fun u s2 ⟨y, H2, I2, r2, q2⟩ => ?_
  exact hf v u s2 x y H2 I2 r1 r2 q2

theorem pe_op {op : Operator} {r : R2} (ho : OpR X (binaryOp op) r) (ha : PE X a ta) (hb : PE X b tb) : PE X (.BinOp a op b pos) (tOp r ta tb) := by
  intro pins s σ H Q I h
  exact wpAny_BinOp (binT ha hb I h fun v u s2 x y H2 I2 rx ry q => ho pins s2 σ H2 x y v u Q I2 rx ry q)
theorem pe_un {op : UnaryOp} {r : V → Hp → VK → Prop} (ho : UnR X (unaryOp op) r) (ha : PE X a ta) : PE X (.UnaryOp op a pos) (tUn r ta) := by
  intro pins s σ H Q I h
  exact UnaryOp_ (thn (ha pins s σ H _ I h) fun v s1 ⟨x, H1, I1, r1, q1⟩ => ho pins s1 σ H1 x v Q I1 r1 q1)
/-- a op= e at a name: the name's slot i -/
theorem augR {op : Operator} {r : R2} (ho : OpR X (inplaceOp op) r) {pins : List (Addr × Obj)} {s : Shared} {σ : St} {H : Hp} {x y : V} {v u : Value} {Q : VK} (I : Inv X pins σ H s)
    (rx : RelV x v) (ry : RelV y u) (q : r x y H Q) : wpAny (model X.prog X.w) X.A (inplaceOp op v u) (EP X pins σ Q) X.xe s := ho pins s σ H x y v u Q I rx ry q

/-! ### ints -/
theorem opI {f : Value → Value → Sem Value} {C : Int → Int → Prop} {g : Int → Int → Int}
    (rule : ∀ (i j : Int) (t u : Tok) (s : Shared) (Q : Value → Shared → Prop) (E : Value → Shared → Prop), C i j → Q (.int (g i j) s.toks) { s with toks := s.toks + 1 } → wpAny (model X.prog X.w) X.A (f (.int i t) (.int j u)) Q E s) :
    OpR X f (rI C fun i j => .int (g i j)) := by
  intro pins s σ H x y v u Q I rx ry h
  obtain ⟨i, j, rfl, rfl, hc, q⟩ := h
  obtain ⟨t, rfl⟩ := rx
  obtain ⟨t', rfl⟩ := ry
  exact rule i j t t' s _ _ hc ⟨.int (g i j), H, I.tok _, ⟨_, rfl⟩, q⟩
theorem opI0 {f : Value → Value → Sem Value} {g : Int → Int → Int}
    (rule : ∀ (i j : Int) (t u : Tok) (s : Shared) (Q : Value → Shared → Prop) (E : Value → Shared → Prop), Q (.int (g i j) s.toks) { s with toks := s.toks + 1 } → wpAny (model X.prog X.w) X.A (f (.int i t) (.int j u)) Q E s) :
    OpR X f (rI0 fun i j => .int (g i j)) := by
  intro pins s σ H x y v u Q I rx ry h
  obtain ⟨i, j, rfl, rfl, q⟩ := h
  obtain ⟨t, rfl⟩ := rx
  obtain ⟨t', rfl⟩ := ry
  exact rule i j t t' s _ _ ⟨.int (g i j), H, I.tok _, ⟨_, rfl⟩, q⟩
theorem opB0 {f : Value → Value → Sem Value} {g : Int → Int → Bool}
    (rule : ∀ (i j : Int) (t u : Tok) (s : Shared) (Q : Value → Shared → Prop) (E : Value → Shared → Prop), Q (.bool (g i j)) s → wpAny (model X.prog X.w) X.A (f (.int i t) (.int j u)) Q E s) :
    OpR X f (rI0 fun i j => .bl (g i j)) := by
  intro pins s σ H x y v u Q I rx ry h
  obtain ⟨i, j, rfl, rfl, q⟩ := h
  obtain ⟨t, rfl⟩ := rx
  obtain ⟨t', rfl⟩ := ry
  exact rule i j t t' s _ _ ⟨.bl (g i j), H, I, rfl, q⟩

def CDiv (i j : Int) : Prop := 0 < j ∧ j < 1073741824
def CDivN (i j : Int) : Prop := j ≠ 0 ∧ j.natAbs < 1073741824
def CPow (i j : Int) : Prop := 0 ≤ j ∧ j ≤ 1000000 ∧ i.natAbs < 2 ^ 64
def CMul (i j : Int) : Prop := (-(2 ^ 64) < i ∧ i < 2 ^ 64) ∨ (-(2 ^ 64) < j ∧ j < 2 ^ 64)
theorem CMul.ok {i j : Int} (h : CMul i j) : IntMulOk i j := by
  rcases h with ⟨h1, h2⟩ | ⟨h1, h2⟩
  · exact .of_left (intBits_le_64 h1 h2)
  · exact .of_right (intBits_le_64 h1 h2)
theorem two_pow_nn (k : Nat) : (0 : Int) ≤ 2 ^ k := by
  rw [two_pow_cast]
  exact Int.natCast_nonneg _

theorem op_add : OpR X (binaryOp .Add) (rI0 fun i j => .int (i + j)) := opI0 fun _ _ _ _ _ _ _ q => add_int q
theorem op_sub : OpR X (binaryOp .Sub) (rI0 fun i j => .int (i - j)) := opI0 fun _ _ _ _ _ _ _ q => sub_int q
theorem op_mul : OpR X (binaryOp .Mult) (rI CMul fun i j => .int (i * j)) := opI fun _ _ _ _ _ _ _ hc q => mul_int q hc.ok
/-- // by a positive divisor -/
theorem op_fdiv : OpR X (binaryOp .FloorDiv) (rI CDiv fun i j => .int (i / j)) := opI fun i j _ _ _ _ _ hc q => by
  have h1 : (0 : Int) < j := hc.1
  have h2 : j < 1073741824 := hc.2
  exact floordiv_int (by omega) (by rw [Int.fdiv_eq_ediv_of_nonneg i (by omega)]; exact q) (.inl (PyProof.noPylong_small (by omega)))
theorem op_fdivN : OpR X (binaryOp .FloorDiv) (rI CDivN fun i j => .int (i.fdiv j)) := opI fun _ _ _ _ _ _ _ hc q => floordiv_int hc.1 q (.inl (PyProof.noPylong_small hc.2))
/-- % by a positive divisor of any size -/
theorem op_mod : OpR X (binaryOp .Mod) (rI (fun _ j => 0 < j) fun i j => .int (i % j)) := opI fun i j _ _ _ _ _ hc q => by
  have h1 : (0 : Int) < j := hc
  exact mod_int' (by omega) (by rw [Int.fmod_eq_emod_of_nonneg i (by omega)]; exact q)
theorem op_modN : OpR X (binaryOp .Mod) (rI (fun _ j => j ≠ 0) fun i j => .int (i.fmod j)) := opI fun _ _ _ _ _ _ _ hc q => mod_int' hc q
theorem op_pow : OpR X (binaryOp .Pow) (rI CPow fun i j => .int (i ^ j.toNat)) := opI fun _ _ _ _ _ _ _ hc q => pow_int_small hc.1 hc.2.1 hc.2.2 q
theorem op_shl : OpR X (binaryOp .LShift) (rI CPow fun i j => .int (i * 2 ^ j.toNat)) := opI fun _ _ _ _ _ _ _ hc q => lshift_int_small hc.1 hc.2.1 hc.2.2 q
theorem op_shr : OpR X (binaryOp .RShift) (rI (fun _ j => 0 ≤ j) fun i j => .int (i / 2 ^ j.toNat)) := opI fun i j _ _ _ _ _ hc q =>
  rshift_int hc (by rw [Int.fdiv_eq_ediv_of_nonneg i (two_pow_nn _)]; exact q)
theorem op_and : OpR X (binaryOp .BitAnd) (rI0 fun i j => .int (Builtin.bitAnd i j)) := opI0 fun _ _ _ _ _ _ _ q => and_int q
theorem op_or : OpR X (binaryOp .BitOr) (rI0 fun i j => .int (Builtin.bitOr i j)) := opI0 fun _ _ _ _ _ _ _ q => or_int q
theorem op_xor : OpR X (binaryOp .BitXor) (rI0 fun i j => .int (Builtin.bitXor i j)) := opI0 fun _ _ _ _ _ _ _ q => xor_int q

theorem iop_add : OpR X (inplaceOp .Add) (rI0 fun i j => .int (i + j)) := opI0 fun _ _ _ _ _ _ _ q => iadd_int q
theorem iop_sub : OpR X (inplaceOp .Sub) (rI0 fun i j => .int (i - j)) := opI0 fun _ _ _ _ _ _ _ q => isub_int q
theorem iop_mul : OpR X (inplaceOp .Mult) (rI CMul fun i j => .int (i * j)) := opI fun _ _ _ _ _ _ _ hc q => imul_int q hc.ok
theorem iop_fdiv : OpR X (inplaceOp .FloorDiv) (rI CDiv fun i j => .int (i / j)) := opI fun i j _ _ _ _ _ hc q => by
  have h1 : (0 : Int) < j := hc.1
  have h2 : j < 1073741824 := hc.2
  exact ifloordiv_int (by omega) (by rw [Int.fdiv_eq_ediv_of_nonneg i (by omega)]; exact q) (.inl (PyProof.noPylong_small (by omega)))
theorem iop_mod : OpR X (inplaceOp .Mod) (rI (fun _ j => 0 < j) fun i j => .int (i % j)) := opI fun i j _ _ _ _ _ hc q => by
  have h1 : (0 : Int) < j := hc
  exact imod_int (by omega) (by rw [Int.fmod_eq_emod_of_nonneg i (by omega)]; exact q)
theorem iop_shl : OpR X (inplaceOp .LShift) (rI CPow fun i j => .int (i * 2 ^ j.toNat)) := opI fun _ _ _ _ _ _ _ hc q => ilshift_int_small hc.1 hc.2.1 hc.2.2 q
theorem iop_shr : OpR X (inplaceOp .RShift) (rI (fun _ j => 0 ≤ j) fun i j => .int (i / 2 ^ j.toNat)) := opI fun i j _ _ _ _ _ hc q =>
  irshift_int hc (by rw [Int.fdiv_eq_ediv_of_nonneg i (two_pow_nn _)]; exact q)
theorem iop_and : OpR X (inplaceOp .BitAnd) (rI0 fun i j => .int (Builtin.bitAnd i j)) := opI0 fun _ _ _ _ _ _ _ q => iand_int q
theorem iop_or : OpR X (inplaceOp .BitOr) (rI0 fun i j => .int (Builtin.bitOr i j)) := opI0 fun _ _ _ _ _ _ _ q => ior_int q
theorem iop_xor : OpR X (inplaceOp .BitXor) (rI0 fun i j => .int (Builtin.bitXor i j)) := opI0 fun _ _ _ _ _ _ _ q => ixor_int q

theorem unI {f : Value → Sem Value} {g : Int → Int}
    (rule : ∀ (i : Int) (t : Tok) (s : Shared) (Q : Value → Shared → Prop) (E : Value → Shared → Prop), Q (.int (g i) s.toks) { s with toks := s.toks + 1 } → wpAny (model X.prog X.w) X.A (f (.int i t)) Q E s) :
    UnR X f (rU fun i => .int (g i)) := by
  intro pins s σ H x v Q I rx h
  obtain ⟨i, rfl, q⟩ := h
  obtain ⟨t, rfl⟩ := rx
  exact rule i t s _ _ ⟨.int (g i), H, I.tok _, ⟨_, rfl⟩, q⟩
theorem un_neg : UnR X (unaryOp .USub) (rU fun i => .int (-i)) := unI fun _ _ _ _ _ q => neg_int q
theorem un_inv : UnR X (unaryOp .Invert) (rU fun i => .int (Builtin.bitNot i)) := unI fun _ _ _ _ _ q => invert_int q

/-! ### bools among ints: n += (a < b) -/
theorem op_add_ib : OpR X (binaryOp .Add) (fun x y H Q => ∃ i k, x = .int i ∧ y = .bl k ∧ Q (.int (i + b2i k)) H) := by
  intro pins s σ H x y v u Q I rx ry h
  obtain ⟨i, k, rfl, rfl, q⟩ := h
  obtain ⟨t, rfl⟩ := rx
  cases ry
  exact add_int_bool ⟨.int (i + b2i k), H, I.tok _, ⟨_, rfl⟩, q⟩
end

/-! ### comparisons -/
/-- the scalars that == tells apart as data does -/
def scal : V → V → Bool
  | .non, .non => true | .non, .int _ => true | .int _, .non => true | .non, .bl _ => true | .bl _, .non => true | .non, .str _ => true | .str _, .non => true
  | .int _, .int _ => true | .bl _, .bl _ => true | .str _, .str _ => true | .byt _, .byt _ => true
  | .int _, .str _ => true | .str _, .int _ => true | .bl _, .str _ => true | .str _, .bl _ => true
  | _, _ => false
def rEq : R2 := fun x y H Q => scal x y = true ∧ Q (.bl (decide (x = y))) H
def rNe : R2 := fun x y H Q => scal x y = true ∧ Q (.bl (!decide (x = y))) H

theorem dec_int {i j : Int} : decide (V.int i = V.int j) = (i == j) := by
  rw [Bool.eq_iff_iff]
  simp
theorem dec_bl {i j : Bool} : decide (V.bl i = V.bl j) = (i == j) := by
  rw [Bool.eq_iff_iff]
  simp
theorem dec_str {i j : Str} : decide (V.str i = V.str j) = (i == j) := by
  rw [Bool.eq_iff_iff]
  simp
theorem dec_byt {i j : Array UInt8} : decide (V.byt i = V.byt j) = (i.toList == j.toList) := by
  rw [Bool.eq_iff_iff]
  cases i
  cases j
  simp

section
variable {X : Cx} {a b c : Expr} {ta tb tc : TE} {pos : Pos}
theorem fin_bl {pins : List (Addr × Obj)} {σ : St} {H : Hp} {s : Shared} {Q : VK} {k k' : Bool} (I : Inv X pins σ H s) (q : Q (.bl k) H) (e : k = k') : EP X pins σ Q (.bool k') s := by
  subst e
  exact ⟨.bl k, H, I, rfl, q⟩
theorem op_eq : OpR X (compareOp .Eq) rEq := by
  intro pins s σ H x y v u Q I rx ry h
  obtain ⟨hs, q⟩ := h
  cases x with
  | non =>
    cases rx
    cases y with
    | non => cases ry; exact PySem.EqNone.eq_none_none (fin_bl I q (by simp))
    | bl j => cases ry; exact PySem.EqNone.eq_none_bool (fin_bl I q (by simp))
    | int j => obtain ⟨t', rfl⟩ := ry; exact PySem.EqNone.eq_none_int (fin_bl I q (by simp))
    | str j => obtain ⟨t', rfl⟩ := ry; exact PySem.EqNone.eq_none_str (fin_bl I q (by simp))
    | _ => exact absurd (show false = true from hs) Bool.false_ne_true
  | bl i =>
    cases rx
    cases y with
    | non => cases ry; exact PySem.EqNone.eq_bool_none (fin_bl I q (by simp))
    | bl j => cases ry; exact eq_bool (fin_bl I q dec_bl)
    | str j => obtain ⟨t', rfl⟩ := ry; exact PySem.EqMixed.eq_bool_str (fin_bl I q (by simp))
    | _ => exact absurd (show false = true from hs) Bool.false_ne_true
  | int i =>
    obtain ⟨t, rfl⟩ := rx
    cases y with
    | non => cases ry; exact PySem.EqNone.eq_int_none (fin_bl I q (by simp))
    | int j => obtain ⟨t', rfl⟩ := ry; exact eq_int (fin_bl I q dec_int)
    | str j => obtain ⟨t', rfl⟩ := ry; exact PySem.EqMixed.eq_int_str (fin_bl I q (by simp))
    | _ => exact absurd (show false = true from hs) Bool.false_ne_true
  | str i =>
    obtain ⟨t, rfl⟩ := rx
    cases y with
    | non => cases ry; exact PySem.EqNone.eq_str_none (fin_bl I q (by simp))
    | bl j => cases ry; exact PySem.EqMixed.eq_str_bool (fin_bl I q (by simp))
    | int j => obtain ⟨t', rfl⟩ := ry; exact PySem.EqMixed.eq_str_int (fin_bl I q (by simp))
    | str j => obtain ⟨t', rfl⟩ := ry; exact eq_str (fin_bl I q dec_str)
    | _ => exact absurd (show false = true from hs) Bool.false_ne_true
  | byt i =>
    obtain ⟨t, rfl⟩ := rx
    cases y with
    | byt j => obtain ⟨t', rfl⟩ := ry; exact PySem.W.eq_bytes (fin_bl I q dec_byt)
    | _ => exact absurd (show false = true from hs) Bool.false_ne_true
  | _ => cases y <;> exact absurd (show false = true from hs) Bool.false_ne_true
theorem op_ne : OpR X (compareOp .NotEq) rNe := by
  intro pins s σ H x y v u Q I rx ry h
  obtain ⟨hs, q⟩ := h
  cases x with
  | non =>
    cases rx
    cases y with
    | non => cases ry; exact PySem.EqNone.ne_none_none (fin_bl I q (by simp))
    | bl j => cases ry; exact PySem.EqNone.ne_none_bool (fin_bl I q (by simp))
    | int j => obtain ⟨t', rfl⟩ := ry; exact PySem.EqNone.ne_none_int (fin_bl I q (by simp))
    | str j => obtain ⟨t', rfl⟩ := ry; exact PySem.EqNone.ne_none_str (fin_bl I q (by simp))
    | _ => exact absurd (show false = true from hs) Bool.false_ne_true
  | bl i =>
    cases rx
    cases y with
    | non => cases ry; exact PySem.EqNone.ne_bool_none (fin_bl I q (by simp))
    | bl j => cases ry; exact ne_bool (fin_bl I q (congrArg not dec_bl))
    | str j => obtain ⟨t', rfl⟩ := ry; exact PySem.EqMixed.ne_bool_str (fin_bl I q (by simp))
    | _ => exact absurd (show false = true from hs) Bool.false_ne_true
  | int i =>
    obtain ⟨t, rfl⟩ := rx
    cases y with
    | non => cases ry; exact PySem.EqNone.ne_int_none (fin_bl I q (by simp))
    | int j => obtain ⟨t', rfl⟩ := ry; exact ne_int (fin_bl I q (congrArg not dec_int))
    | str j => obtain ⟨t', rfl⟩ := ry; exact PySem.EqMixed.ne_int_str (fin_bl I q (by simp))
    | _ => exact absurd (show false = true from hs) Bool.false_ne_true
  | str i =>
    obtain ⟨t, rfl⟩ := rx
    cases y with
    | non => cases ry; exact PySem.EqNone.ne_str_none (fin_bl I q (by simp))
    | bl j => cases ry; exact PySem.EqMixed.ne_str_bool (fin_bl I q (by simp))
    | int j => obtain ⟨t', rfl⟩ := ry; exact PySem.EqMixed.ne_str_int (fin_bl I q (by simp))
    | str j => obtain ⟨t', rfl⟩ := ry; exact ne_str (fin_bl I q (congrArg not dec_str))
    | _ => exact absurd (show false = true from hs) Bool.false_ne_true
  | byt i =>
    obtain ⟨t, rfl⟩ := rx
    cases y with
    | byt j => obtain ⟨t', rfl⟩ := ry; exact PySem.W.ne_bytes (fin_bl I q (congrArg not dec_byt))
    | _ => exact absurd (show false = true from hs) Bool.false_ne_true
  | _ => cases y <;> exact absurd (show false = true from hs) Bool.false_ne_true

theorem op_lt : OpR X (compareOp .Lt) (rI0 fun i j => .bl (decide (i < j))) := opB0 fun _ _ _ _ _ _ _ q => lt_int q
theorem op_le : OpR X (compareOp .LtE) (rI0 fun i j => .bl (decide (i ≤ j))) := opB0 fun _ _ _ _ _ _ _ q => le_int q
theorem op_gt : OpR X (compareOp .Gt) (rI0 fun i j => .bl (decide (j < i))) := opB0 fun _ _ _ _ _ _ _ q => gt_int q
theorem op_ge : OpR X (compareOp .GtE) (rI0 fun i j => .bl (decide (j ≤ i))) := opB0 fun _ _ _ _ _ _ _ q => ge_int q
theorem op_lt_str : OpR X (compareOp .Lt) (fun x y H Q => ∃ i j, x = .str i ∧ y = .str j ∧ Q (.bl (decide (i.cps.toList < j.cps.toList))) H) := by
  intro pins s σ H x y v u Q I rx ry h
  obtain ⟨i, j, rfl, rfl, q⟩ := h
  obtain ⟨t, rfl⟩ := rx
  obtain ⟨t', rfl⟩ := ry
  exact lt_str (fin_bl I q rfl)
/-- the one string within the other -/
theorem op_in_str : OpR X (compareOp .In) (fun x y H Q => ∃ i j, x = .str i ∧ y = .str j ∧ Q (.bl (!(Builtin.Str.occurrences j i 0 j.length 1).isEmpty)) H) := by
  intro pins s σ H x y v u Q I rx ry h
  obtain ⟨i, j, rfl, rfl, q⟩ := h
  obtain ⟨t, rfl⟩ := rx
  obtain ⟨t', rfl⟩ := ry
  exact in_str (fin_bl I q rfl)

/-- is None, is not None: the right side a value none -/
theorem op_isN : OpR X (compareOp .Is) (fun x y H Q => y = .non ∧ Q (.bl (decide (x = .non))) H) := by
  intro pins s σ H x y v u Q I rx ry h
  obtain ⟨rfl, q⟩ := h
  cases ry
  refine is_none_gen (fin_bl I q ?_)
  cases x <;> first
    | (cases rx; rfl)
    | (obtain ⟨t, rfl⟩ := rx; rfl)
theorem op_notN : OpR X (compareOp .IsNot) (fun x y H Q => y = .non ∧ Q (.bl (!decide (x = .non))) H) := by
  intro pins s σ H x y v u Q I rx ry h
  obtain ⟨rfl, q⟩ := h
  cases ry
  refine isnot_none_gen (fin_bl I q ?_)
  cases x <;> first
    | (cases rx; rfl)
    | (obtain ⟨t, rfl⟩ := rx; rfl)

theorem op_notin_str : OpR X (compareOp .NotIn) (fun x y H Q => ∃ i j, x = .str i ∧ y = .str j ∧ Q (.bl (!(!(Builtin.Str.occurrences j i 0 j.length 1).isEmpty))) H) := by
  intro pins s σ H x y v u Q I rx ry h
  obtain ⟨i, j, rfl, rfl, q⟩ := h
  obtain ⟨t, rfl⟩ := rx
  obtain ⟨t', rfl⟩ := ry
  exact notIn_str (fin_bl I q rfl)
/-- is, is not of two objects that are tracked lists or instances -/
def isObj : HO → Bool
  | .lst _ => true
  | .ins _ _ _ => true
  | _ => false
theorem obj_there {pins : List (Addr × Obj)} {s : Shared} {σ : St} {H : Hp} {a : Addr} {o : HO} (I : Inv X pins σ H s) (h : H a = some o) (p : isObj o = true) : ∃ ob, s.heap.get? a = some ob ∧ ob.cls ≠ .type "tuple" := by
  cases o with
  | lst xs =>
    obtain ⟨_, its, n, _, e⟩ : xs.length ≤ sizeLine ∧ ∃ (its : List Value) (n : Nat), Vals xs its ∧ s.heap.get? a = some { cls := .type "list", data := .seq its.toArray n } := I.hok a _ h
    exact ⟨_, e, (by show Value.type "list" ≠ .type "tuple"; decide +kernel)⟩
  | ins C dx fs =>
    have x := I.hok a _ h
    obtain ⟨_, _, _, e, _⟩ := x
    exact ⟨_, e, (by show Value.ref C ≠ .type "tuple"; exact fun z => by cases z)⟩
  | _ => exact absurd (show false = true from p) Bool.false_ne_true
theorem op_is_ref : OpR X (compareOp .Is) (fun x y H Q => ∃ a b oa ob, x = .ref a ∧ y = .ref b ∧ H a = some oa ∧ isObj oa = true ∧ H b = some ob ∧ isObj ob = true ∧ Q (.bl (decide (a = b))) H) := by
  intro pins s σ H x y v u Q I rx ry h
  obtain ⟨a, b, oa, ob, rfl, rfl, ha, pa, hb, pb, q⟩ := h
  cases rx
  cases ry
  obtain ⟨o1, e1, n1⟩ := obj_there I ha pa
  obtain ⟨o2, e2, _⟩ := obj_there I hb pb
  by_cases z : a = b
  · subst z
    exact wpAny_is_ref_self (fin_bl I q (by simp))
  · exact wpAny_is_ref_other z e1 e2 n1 (fin_bl I q (by simp [z]))
theorem op_isnot_ref : OpR X (compareOp .IsNot) (fun x y H Q => ∃ a b oa ob, x = .ref a ∧ y = .ref b ∧ H a = some oa ∧ isObj oa = true ∧ H b = some ob ∧ isObj ob = true ∧ Q (.bl (!decide (a = b))) H) := by
  intro pins s σ H x y v u Q I rx ry h
  obtain ⟨a, b, oa, ob, rfl, rfl, ha, pa, hb, pb, q⟩ := h
  cases rx
  cases ry
  obtain ⟨o1, e1, n1⟩ := obj_there I ha pa
  obtain ⟨o2, e2, _⟩ := obj_there I hb pb
  by_cases z : a = b
  · subst z
    exact wpAny_isNot_ref_self (fin_bl I q (by simp))
  · exact wpAny_isNot_ref_other z e1 e2 n1 (fin_bl I q (by simp [z]))

/-- two rules for one operation: by cases -/
theorem OpR.or {f : Value → Value → Sem Value} {r r' : R2} (h : OpR X f r) (h' : OpR X f r') : OpR X f (fun x y H Q => r x y H Q ∨ r' x y H Q) := by
  intro pins s σ H x y v u Q I rx ry q
  rcases q with q | q
  · exact h pins s σ H x y v u Q I rx ry q
  · exact h' pins s σ H x y v u Q I rx ry q

theorem nomark (b : Expr) {op : CmpOp} (h : op ≠ .In := by decide) (h2 : op ≠ .NotIn := by decide) : behindInMarks op b = false := by
  have e1 : (op == CmpOp.In) = false := by cases op <;> first | rfl | exact absurd rfl h
  have e2 : (op == CmpOp.NotIn) = false := by cases op <;> first | rfl | exact absurd rfl h2
  cases b <;> simp [behindInMarks, e1, e2]
/-- a comparison as a value; hm: nomark b, or (for in, not in) by with_unfolding_all rfl -/
theorem pe_cmpR {op : CmpOp} {r : R2} (ho : OpR X (compareOp op) r) (ha : PE X a ta) (hb : PE X b tb) (hm : behindInMarks op b = false) : PE X (.Compare a [op] [b] pos) (tOp r ta tb) := by
  intro pins s σ H Q I h
  exact wpAny_Compare1 (binT ha hb I h fun v u s2 x y H2 I2 rx ry q => ho pins s2 σ H2 x y v u Q I2 rx ry q) hm
/-- a reading of a value as a test -/
def tTest (t : TE) : TT := fun σ H Q => t σ H fun x H' => ∃ k, x = .bl k ∧ Q k H'
theorem pt_cmpR {op : CmpOp} {r : R2} (ho : OpR X (compareOp op) r) (ha : PE X a ta) (hb : PE X b tb) (hm : behindInMarks op b = false) : PT X (.Compare a [op] [b] pos) (tTest (tOp r ta tb)) := by
  intro pins s σ H Q I h
  refine wpAny_isTrue_Compare1 (thn (ha pins s σ H _ I h) fun v s1 ⟨x, H1, I1, r1, q1⟩ => thn (hb pins s1 σ H1 _ I1 q1) fun u s2 ⟨y, H2, I2, r2, q2⟩ =>
    thn (ho pins s2 σ H2 x y v u _ I2 r1 r2 q2) fun c s3 ⟨z, H3, I3, r3, k, e, q3⟩ => ?_) hm
  subst e
  cases r3
  exact wpAny_truthy_bool ⟨H3, I3, q3⟩
/-- a op1 b op2 c -/
def tChain (r r' : R2) (ta tb tc : TE) : TE := fun σ H Q => ta σ H fun x H1 => tb σ H1 fun y H2 => r x y H2 fun z H3 => ∃ k, z = .bl k ∧
  (if k = true then tc σ H3 fun w' H4 => r' y w' H4 Q else Q (.bl false) H3)
theorem pe_chain {op op' : CmpOp} {r r' : R2} (ho : OpR X (compareOp op) r) (ho' : OpR X (compareOp op') r') (ha : PE X a ta) (hb : PE X b tb) (hc : PE X c tc)
    (hm : lastMarks [op, op'] [b, c] = false := by with_unfolding_all rfl) : PE X (.Compare a [op, op'] [b, c] pos) (tChain r r' ta tb tc) := by
  intro pins s σ H Q I h
  refine Compare_chain (thn (ha pins s σ H _ I h) fun v s1 ⟨x, H1, I1, r1, q1⟩ => chain_link (thn (hb pins s1 σ H1 _ I1 q1) fun u s2 ⟨y, H2, I2, r2, q2⟩ =>
    thn (ho pins s2 σ H2 x y v u _ I2 r1 r2 q2) fun d s3 ⟨z, H3, I3, r3, k, e, q3⟩ => ?_)) hm
  subst e
  cases r3
  refine wpAny_truthy_bool ?_
  cases k with
  | false => exact ite_ff ⟨.bl false, H3, I3, rfl, q3⟩
  | true => exact ite_tt (chain_last (thn (hc pins s3 σ H3 _ I3 q3) fun w' s4 ⟨z', H4, I4, r4, q4⟩ => ho' pins s4 σ H4 y z' u w' Q I4 r2 r4 q4))
theorem pt_chain {op op' : CmpOp} {r r' : R2} (ho : OpR X (compareOp op) r) (ho' : OpR X (compareOp op') r') (ha : PE X a ta) (hb : PE X b tb) (hc : PE X c tc)
    (hm : lastMarks [op, op'] [b, c] = false := by with_unfolding_all rfl) : PT X (.Compare a [op, op'] [b, c] pos) (tTest (tChain r r' ta tb tc)) := by
  intro pins s σ H Q I h
  refine isTrue_chain (thn (ha pins s σ H _ I h) fun v s1 ⟨x, H1, I1, r1, q1⟩ => test_link (thn (hb pins s1 σ H1 _ I1 q1) fun u s2 ⟨y, H2, I2, r2, q2⟩ =>
    thn (ho pins s2 σ H2 x y v u _ I2 r1 r2 q2) fun d s3 ⟨z, H3, I3, r3, k, e, q3⟩ => ?_)) hm
  subst e
  cases r3
  refine wpAny_truthy_bool ?_
  cases k with
  | false =>
    obtain ⟨k', e', q'⟩ := q3
    cases e'
    exact ite_ff ⟨H3, I3, q'⟩
  | true =>
    refine ite_tt (test_last (thn (hc pins s3 σ H3 _ I3 q3) fun w' s4 ⟨z', H4, I4, r4, q4⟩ => thn (ho' pins s4 σ H4 y z' u w' _ I4 r2 r4 q4) fun d' s5 ⟨z2, H5, I5, r5, k2, e2, q5⟩ => ?_))
    subst e2
    cases r5
    exact wpAny_truthy_bool ⟨H5, I5, q5⟩

/-! ### truth -/
/-- a value's truth by the abstract heap -/
def TruV (K : PySem.W.Frag) (x : V) (H : Hp) (k : Bool) : Prop :=
  match x with
  | .non => k = false
  | .bl b => k = b
  | .int i => k = (i != 0)
  | .str y => y.length ≤ sizeLine ∧ k = ((y.length : Int) != 0)
  | .byt y => y.size ≤ sizeLine ∧ k = ((y.size : Int) != 0)
  | .ref p => (∃ xs, SqL K H p xs ∧ k = !xs.isEmpty) ∨ (∃ xs, SqT K H p xs ∧ k = !xs.isEmpty) ∨ ∃ kvs, H p = some (.dK kvs) ∧ k = !kvs.isEmpty
  | _ => False
theorem isEmpty_kv {κ : Type} {kvs : List (κ × V)} {vs : List (κ × Value)} (r : KV kvs vs) : (!vs.isEmpty) = !kvs.isEmpty := by
  cases r <;> rfl
theorem isEmpty_of {xs : List V} {its : List Value} (r : Vals xs its) : (!its.toArray.isEmpty) = !xs.isEmpty := by
  cases r <;> simp
theorem line63 : (sizeLine : Nat) < 2 ^ 63 := by rw [sizeLine_eq]; decide
theorem tru_ok : TruR X (fun x H Q => ∃ k, TruV X.K x H k ∧ Q k H) := by
  intro pins s σ H x v Q I rx h
  obtain ⟨k, e, q⟩ := h
  have hl := line63
  have hs : sizeLine = 16777216 := sizeLine_eq
  cases x with
  | non =>
    cases rx
    have e' : k = false := e
    subst e'
    exact truthy_none ⟨H, I, q⟩
  | bl b =>
    cases rx
    have e' : k = b := e
    subst e'
    exact wpAny_truthy_bool ⟨H, I, q⟩
  | int i =>
    obtain ⟨t, rfl⟩ := rx
    have e' : k = (i != 0) := e
    subst e'
    exact PySem.P.truthy_int ⟨H, I, q⟩
  | str y =>
    obtain ⟨t, rfl⟩ := rx
    obtain ⟨hy, e'⟩ : y.length ≤ sizeLine ∧ k = ((y.length : Int) != 0) := e
    subst e'
    exact PySem.P.truthy_str (by omega) ⟨H, I.tok _, q⟩
  | byt y =>
    obtain ⟨t, rfl⟩ := rx
    obtain ⟨hy, e'⟩ : y.size ≤ sizeLine ∧ k = ((y.size : Int) != 0) := e
    subst e'
    exact PySem.W.truthy_bytes (by omega) ⟨H, I.tok _, q⟩
  | ref p =>
    cases rx
    have e' : (∃ xs, SqL X.K H p xs ∧ k = !xs.isEmpty) ∨ (∃ xs, SqT X.K H p xs ∧ k = !xs.isEmpty) ∨ ∃ kvs, H p = some (.dK kvs) ∧ k = !kvs.isEmpty := e
    rcases e' with ⟨xs, hx, e'⟩ | ⟨xs, hx, e'⟩ | ⟨kvs, hx, e'⟩
    · subst e'
      obtain ⟨its, r, pl, hz⟩ := I.list hx
      have hlen := r.length
      exact wpAny_truthy_list pl.isList (by simp only [List.size_toArray]; omega) ⟨H, I.tok _, by rw [isEmpty_of r]; exact q⟩
    · subst e'
      obtain ⟨its, r, pl, hz⟩ := I.tuple hx
      have hlen := r.length
      exact truthy_tuple pl (by simp only [List.size_toArray]; omega) ⟨H, I.tok _, by rw [isEmpty_of r]; exact q⟩
    · subst e'
      obtain ⟨hz, hS, vs, r, m⟩ : kvs.length ≤ sizeLine ∧ (p == sysModules) = false ∧ ∃ vs, KV kvs vs ∧ s.heap.DictOf (mixKind X.prog X.w) p vs := I.hok p _ hx
      have hlen : kvs.length = vs.length := Paired.length r
      exact wpAny_truthy_dict hS m (by omega) ⟨H, I.tok _, by rw [isEmpty_kv r]; exact q⟩
  | _ => exact (show False from e).elim
/-- any expression whose test is its value's truth (a name, a call, a subscript, a field ..: he by fun _ => rfl) -/
theorem pt_truth (ha : PE X a ta) (he : ∀ whole, isTrue a X.env whole = (do let v ← whole; standAt a.pos; holding [v] (truthy v))) :
    PT X a (fun σ H Q => ta σ H fun x H' => ∃ k, TruV X.K x H' k ∧ Q k H') := by
  intro pins s σ H Q I h
  exact isTrue_plain (thn (ha pins s σ H _ I h) fun v s1 ⟨x, H1, I1, r1, q1⟩ => tru_ok pins s1 σ H1 x v Q I1 r1 q1) (he _)

/-! ### strs and bytes -/
theorem pe_byt {x : List UInt8} {k : Nat} : PE X (.Constant (.bytes x) k pos) (fun _ H Q => Q (.byt x.toArray) H) := fun _ _ _ H _ I h => PySem.W.Constant_bytes ⟨.byt x.toArray, H, I.tok _, ⟨_, rfl⟩, h⟩
theorem op_add_str : OpR X (binaryOp .Add) (fun x y H Q => ∃ i j, x = .str i ∧ y = .str j ∧ i.length + j.length ≤ sizeLine ∧ Q (.str (i ++ j)) H) := by
  intro pins s σ H x y v u Q I rx ry h
  obtain ⟨i, j, rfl, rfl, hz, q⟩ := h
  obtain ⟨t, rfl⟩ := rx
  obtain ⟨t', rfl⟩ := ry
  exact add_str (fun t' tk => ⟨.str (i ++ j), H, I.tok _, ⟨_, rfl⟩, q⟩) hz
theorem iop_add_str : OpR X (inplaceOp .Add) (fun x y H Q => ∃ i j, x = .str i ∧ y = .str j ∧ i.length + j.length ≤ sizeLine ∧ Q (.str (i ++ j)) H) := by
  intro pins s σ H x y v u Q I rx ry h
  obtain ⟨i, j, rfl, rfl, hz, q⟩ := h
  obtain ⟨t, rfl⟩ := rx
  obtain ⟨t', rfl⟩ := ry
  exact iadd_str (fun t' tk => ⟨.str (i ++ j), H, I.tok _, ⟨_, rfl⟩, q⟩) hz
theorem op_add_byt : OpR X (binaryOp .Add) (fun x y H Q => ∃ i j, x = .byt i ∧ y = .byt j ∧ i.size + j.size ≤ 16777216 ∧ Q (.byt (i ++ j)) H) := by
  intro pins s σ H x y v u Q I rx ry h
  obtain ⟨i, j, rfl, rfl, hz, q⟩ := h
  obtain ⟨t, rfl⟩ := rx
  obtain ⟨t', rfl⟩ := ry
  exact PySem.W.KBy.add_bytes hz (fun t' tk => ⟨.byt (i ++ j), H, I.tok _, ⟨_, rfl⟩, q⟩)

def PlainIxT (b : Expr) : Prop := ∀ o i, subscripted b false o i = operate [o, i] (getItem o i)
/-- s[i], 0 ≤ i < len -/
theorem pe_item_str (ha : PE X a ta) (hb : PE X b tb) (hs : PlainIxT b) :
    PE X (.Subscript a b pos) (tOp (fun x y H Q => ∃ z i c, x = .str z ∧ y = .int i ∧ 0 ≤ i ∧ i < 2 ^ 63 ∧ i < z.length ∧ z.cps[i.toNat]? = some c ∧ Q (.str ⟨#[c]⟩) H) ta tb) := by
  intro pins s σ H Q I h
  refine Subscript_ (binT ha hb I h fun v u s2 x y H2 I2 rx ry q => ?_)
  obtain ⟨z, i, c, rfl, rfl, h0, h63, h1, hc, q⟩ := q
  obtain ⟨t, rfl⟩ := rx
  obtain ⟨t', rfl⟩ := ry
  have e : seqIndex? i z.length = some i.toNat := PySem.StrLaws.seqIndex_nonneg h0 h1
  exact tail_any (typeIs_str s2 z t) slot_str_getitem.lookup (getItem_str (c := c) (by
    have e1 : decide (i < -(2 ^ 63 : Int)) = false := decide_eq_false (by omega)
    have e2 : decide (i ≥ 2 ^ 63) = false := decide_eq_false (by omega)
    rw [e1, e2] <;> rfl) (by rw [e]; exact hc) ⟨.str ⟨#[c]⟩, H2, I2.tok _, ⟨_, rfl⟩, q⟩) (hs _ _)
/-- b[i], 0 ≤ i < len -/
theorem pe_item_byt (ha : PE X a ta) (hb : PE X b tb) (hs : PlainIxT b) :
    PE X (.Subscript a b pos) (tOp (fun x y H Q => ∃ (z : List UInt8) (i : Int), x = .byt z.toArray ∧ y = .int i ∧ z.length ≤ sizeLine ∧ 0 ≤ i ∧ i < z.length ∧ Q (.int ((z.getD i.toNat 0).toNat : Nat)) H) ta tb) := by
  intro pins s σ H Q I h
  refine Subscript_ (binT ha hb I h fun v u s2 x y H2 I2 rx ry q => ?_)
  obtain ⟨z, i, rfl, rfl, hz, h0, h1, q⟩ := q
  obtain ⟨t, rfl⟩ := rx
  obtain ⟨t', rfl⟩ := ry
  have hl : sizeLine = 16777216 := sizeLine_eq
  exact tail_any (PySem.W.typeIs_bytes s2 z.toArray t) PySem.W.FB.slot_bytes_getitem.lookup (PySem.W.getItem_bytes (by omega) h0 h1 ⟨.int ((z.getD i.toNat 0).toNat : Nat), H2, I2.tok _, ⟨_, rfl⟩, q⟩) (hs _ _)

/-! ### scalar builtins, by CallR -/
theorem vals1 {x : V} {us : List Value} (r : Vals [x] us) : ∃ u, us = [u] ∧ RelV x u := by
  cases r with
  | cons r1 r2 => cases r2; exact ⟨_, rfl, r1⟩
theorem vals2 {x y : V} {us : List Value} (r : Vals [x, y] us) : ∃ u w', us = [u, w'] ∧ RelV x u ∧ RelV y w' := by
  cases r with
  | cons r1 r2 =>
    cases r2 with
    | cons r3 r4 => cases r4; exact ⟨_, _, rfl, r1, r3⟩
theorem call_abs : CallR X (.builtin "abs") (fun xs H Q => ∃ i, xs = [.int i] ∧ Q (.int (if i < 0 then -i else i)) H) := by
  intro pins s σ H xs us Q I r h
  obtain ⟨i, rfl, q⟩ := h
  obtain ⟨u, rfl, t, rfl⟩ := vals1 r
  exact call_abs_int fun u tk => ⟨.int (if i < 0 then -i else i), H, I.tok _, ⟨_, rfl⟩, q⟩
theorem call_max2 (hc : X.calm = true) : CallR X (.builtin "max") (fun xs H Q => ∃ i j, xs = [.int i, .int j] ∧ Q (.int (if j > i then j else i)) H) := by
  intro pins s σ H xs us Q I r h
  obtain ⟨i, j, rfl, q⟩ := h
  obtain ⟨u, w', rfl, ⟨t, rfl⟩, ⟨t', rfl⟩⟩ := vals2 r
  refine max_two_ints (I.ok.hd hc) fun h' tk k => ⟨_, H, I.kept k, ?_, q⟩
  by_cases hj : j > i
  · rw [if_pos hj, if_pos hj]; exact ⟨_, rfl⟩
  · rw [if_neg hj, if_neg hj]; exact ⟨_, rfl⟩
theorem call_min2 (hc : X.calm = true) : CallR X (.builtin "min") (fun xs H Q => ∃ i j, xs = [.int i, .int j] ∧ Q (.int (if j < i then j else i)) H) := by
  intro pins s σ H xs us Q I r h
  obtain ⟨i, j, rfl, q⟩ := h
  obtain ⟨u, w', rfl, ⟨t, rfl⟩, ⟨t', rfl⟩⟩ := vals2 r
  refine min_two_ints (I.ok.hd hc) fun h' tk k => ⟨_, H, I.kept k, ?_, q⟩
  by_cases hj : j < i
  · rw [if_pos hj, if_pos hj]; exact ⟨_, rfl⟩
  · rw [if_neg hj, if_neg hj]; exact ⟨_, rfl⟩
theorem call_int1 : CallR X (.type "int") (fun xs H Q => (∃ i, xs = [.int i] ∧ Q (.int i) H) ∨ ∃ k, xs = [.bl k] ∧ Q (.int (if k then 1 else 0)) H) := by
  intro pins s σ H xs us Q I r h
  rcases h with ⟨i, rfl, q⟩ | ⟨k, rfl, q⟩
  · obtain ⟨u, rfl, t, rfl⟩ := vals1 r
    exact call_int_int ⟨.int i, H, I, ⟨_, rfl⟩, q⟩
  · obtain ⟨u, rfl, r1⟩ := vals1 r
    cases r1
    exact call_int_bool ⟨.int (if k then 1 else 0), H, I.tok _, ⟨_, rfl⟩, q⟩
theorem call_bool1 : CallR X (.type "bool") (fun xs H Q => (∃ i, xs = [.int i] ∧ Q (.bl (i != 0)) H) ∨ ∃ k, xs = [.bl k] ∧ Q (.bl k) H) := by
  intro pins s σ H xs us Q I r h
  rcases h with ⟨i, rfl, q⟩ | ⟨k, rfl, q⟩
  · obtain ⟨u, rfl, t, rfl⟩ := vals1 r
    exact call_bool_int ⟨.bl (i != 0), H, I, rfl, q⟩
  · obtain ⟨u, rfl, r1⟩ := vals1 r
    cases r1
    exact call_bool_bool ⟨.bl k, H, I, rfl, q⟩
theorem call_str_int : CallR X (.type "str") (fun xs H Q => ∃ i, xs = [.int i] ∧ i.natAbs.log2 < 1920 ∧ Q (.str (toString i)) H) := by
  intro pins s σ H xs us Q I r h
  obtain ⟨i, rfl, hz, q⟩ := h
  obtain ⟨u, rfl, t, rfl⟩ := vals1 r
  exact PySem.P.str_of_int hz ⟨.str _, H, I.tok _, ⟨_, rfl⟩, q⟩
theorem call_ord : CallR X (.builtin "ord") (fun xs H Q => ∃ x, xs = [.str x] ∧ x.length = 1 ∧ Q (.int (x.cps.getD 0 0 : Nat)) H) := by
  intro pins s σ H xs us Q I r h
  obtain ⟨x, rfl, hz, q⟩ := h
  obtain ⟨u, rfl, t, rfl⟩ := vals1 r
  exact ord_of_one hz ⟨.int _, H, I.tok _, ⟨_, rfl⟩, q⟩
theorem call_chr : CallR X (.builtin "chr") (fun xs H Q => ∃ i, xs = [.int i] ∧ 0 ≤ i ∧ i ≤ 1114111 ∧ Q (.str ⟨#[i.toNat]⟩) H) := by
  intro pins s σ H xs us Q I r h
  obtain ⟨i, rfl, h0, h1, q⟩ := h
  obtain ⟨u, rfl, t, rfl⟩ := vals1 r
  exact chr_of_range h0 h1 ⟨.str _, H, I.tok _, ⟨_, rfl⟩, q⟩
/-- len of a str, a bytes, a list, a tuple -/
def LenV (K : PySem.W.Frag) (x : V) (H : Hp) (n : Nat) : Prop :=
  match x with
  | .str y => y.length ≤ sizeLine ∧ n = y.length
  | .byt y => y.size ≤ sizeLine ∧ n = y.size
  | .ref p => (∃ xs, SqL K H p xs ∧ n = xs.length) ∨ ∃ xs, SqT K H p xs ∧ n = xs.length
  | _ => False
theorem call_len : CallR X (.builtin "len") (fun xs H Q => ∃ x n, xs = [x] ∧ LenV X.K x H n ∧ Q (.int n) H) := by
  intro pins s σ H xs us Q I r h
  obtain ⟨x, n, rfl, e, q⟩ := h
  obtain ⟨u, rfl, rx⟩ := vals1 r
  have hl := line63
  have hs : sizeLine = 16777216 := sizeLine_eq
  cases x with
  | str y =>
    obtain ⟨t, rfl⟩ := rx
    obtain ⟨hy, e'⟩ : y.length ≤ sizeLine ∧ n = y.length := e
    subst e'
    exact len_str (by omega) ⟨.int _, H, I.tok _, ⟨_, rfl⟩, q⟩
  | byt y =>
    obtain ⟨t, rfl⟩ := rx
    obtain ⟨hy, e'⟩ : y.size ≤ sizeLine ∧ n = y.size := e
    subst e'
    exact PySem.W.len_bytes (by omega) ⟨.int _, H, I.tok _, ⟨_, rfl⟩, q⟩
  | ref p =>
    cases rx
    have e' : (∃ xs, SqL X.K H p xs ∧ n = xs.length) ∨ ∃ xs, SqT X.K H p xs ∧ n = xs.length := e
    rcases e' with ⟨xs, hx, e'⟩ | ⟨xs, hx, e'⟩
    · subst e'
      obtain ⟨its, r', pl, hz⟩ := I.list hx
      have hlen := r'.length
      exact Calls.call_len_list pl.isList (by simp only [List.size_toArray]; omega) ⟨.int xs.length, H, I.tok _, ⟨_, by simp only [List.size_toArray]; rw [hlen]⟩, q⟩
    · subst e'
      obtain ⟨its, r', pl, hz⟩ := I.tuple hx
      have hlen := r'.length
      exact len_tuple pl (by simp only [List.size_toArray]; omega) ⟨.int xs.length, H, I.tok _, ⟨_, by simp only [List.size_toArray]; rw [hlen]⟩, q⟩
  | _ => exact (show False from e).elim
/-- divmod: a new tuple -/
theorem call_divmod : CallR X (.builtin "divmod") (fun xs H Q => ∃ i j, xs = [.int i, .int j] ∧ CDiv i j ∧ ∀ p, H p = none → Q (.ref p) (upd H p (.tup [.int (i / j), .int (i % j)]))) := by
  intro pins s σ H xs us Q I r h
  obtain ⟨i, j, rfl, ⟨h1, h2⟩, q⟩ := h
  obtain ⟨u, w', rfl, ⟨t, rfl⟩, ⟨t', rfl⟩⟩ := vals2 r
  refine divmod_int (by omega) ?_ (.inl (PyProof.noPylong_small (by omega)))
  rw [Int.fdiv_eq_ediv_of_nonneg i (by omega), Int.fmod_eq_emod_of_nonneg i (by omega)]
  have hn : H s.heap.objs.size = none := I.hok.fresh (Nat.le_refl _)
  refine ⟨.ref s.heap.objs.size, _, ?_, rfl, q _ hn⟩
  refine I.laid (fun b o e => Heap.get?_push_of_some _ e) (Nat.le_refl _) ⟨by simp only [List.length_cons, List.length_nil]; rw [sizeLine_eq]; decide, [.int (i / j) s.toks, .int (i % j) (s.toks + 1)], .cons ⟨_, rfl⟩ (.cons ⟨_, rfl⟩ .nil), ?_⟩
  exact ⟨_, Heap.get?_push_size s.heap rfl, rfl, 0, rfl⟩
end
end L2

namespace L2
open PySem PySem.Spec PyProof.Rows

/-! ### an instance, its attributes a map -/
structure ObjM (h : Heap) (x dx C : Addr) (mA : Str → Option Value) : Prop where
  obj : h.get? x = some (PySem.W.instObj C dx)
  ns : h.Ns1 dx mA
  ne : dx ≠ x

theorem lookIn_ns {h : Heap} {dx : Addr} {mA : Str → Option Value} (n : h.Ns1 dx mA) : ∃ od, h.get? dx = some od ∧ ∀ name, PySem.W.lookIn name od = some (mA name) := by
  obtain ⟨o, es, ep, ho, hd, hk, _, hm⟩ := n
  refine ⟨o, ho, fun name => ?_⟩
  have e := hm name
  unfold nsFind findBy at e
  rw [← Array.find?_toList] at e
  unfold PySem.W.lookIn
  rw [hd]
  dsimp only
  split
  · rename_i y q
    rw [q] at e
    exact congrArg some e
  · rename_i q
    rw [q] at e
    have a : es.toList.any (·.refKey) = false := by
      rw [List.any_eq_false]
      intro y hy
      obtain ⟨z, t, hkey⟩ := hk y (Array.mem_toList_iff.mp hy)
      simp [DictEntry.refKey, hkey]
    have a' : ¬ es.toList.any (·.refKey) = true := by rw [a]; exact Bool.false_ne_true
    rw [if_neg a']
    exact congrArg some e

theorem ObjM.look {h : Heap} {x dx C : Addr} {mA : Str → Option Value} (I : ObjM h x dx C mA) : ∃ od, PySem.W.InstAt h x (PySem.W.instObj C dx) C (some od) ∧ ∀ name, PySem.W.lookIn name od = some (mA name) :=
  let ⟨od, ho, hl⟩ := lookIn_ns I.ns
  ⟨od, ⟨I.obj, rfl, rfl, ho⟩, hl⟩

section
variable {prog : Program} {w : World} {A : Around} {E : Value → Shared → Prop} {s : Shared} {K : PySem.W.Frag} {x dx C f : Addr} {mA : Str → Option Value} {name : Str} {v : Value}

theorem get_map {expr : Bool} {Q : Value → Shared → Prop} (X : K.In s.heap) (I : ObjM s.heap x dx C mA) (hg : PySem.W.plainGet K C name = true) (hh : PySem.W.hasDictIn K C = true)
    (ha : PySem.W.findIn K (.ref C) name = some none) (hv : mA name = some v) (hv' : PySem.W.handedIn v = true) (h : Q v { s with toks := s.toks + 1 }) :
    wpAny (model prog w) A (getAttr (.ref x) name expr) Q E s := by
  obtain ⟨od, J, hl⟩ := I.look
  exact PySem.W.get_value X J (PySem.W.plainGet_of hg).1 (PySem.W.findObj_own hh ha rfl (by rw [hl, hv])) hv' h

theorem get_const {expr : Bool} {a : Value} {Q : Value → Shared → Prop} (X : K.In s.heap) (I : ObjM s.heap x dx C mA) (hg : PySem.W.plainGet K C name = true) (hh : PySem.W.hasDictIn K C = true)
    (ha : PySem.W.findIn K (.ref C) name = some (some a)) (hn : PySem.W.specialIn K a "__get__" = some none) (hc : PySem.W.copiedNames.contains name = false) (hv : mA name = none) (hv' : PySem.W.handedIn a = true)
    (h : Q a { s with toks := s.toks + 1 }) : wpAny (model prog w) A (getAttr (.ref x) name expr) Q E s := by
  obtain ⟨od, J, hl⟩ := I.look
  exact PySem.W.get_value X J (PySem.W.plainGet_of hg).1 (PySem.W.findObj_cls hh ha hn hv' hc (by rw [hl, hv])) hv' h

theorem get_meth {pl : Sem Bool} {Q : Value × List Value → Shared → Prop} (X : K.In s.heap) (I : ObjM s.heap x dx C mA) (hg : PySem.W.plainGet K C name = true)
    (hf : PySem.W.findIn K (.ref C) name = some (some (.ref f))) (ht : PySem.W.isFn K (.ref f) = true) (hv : mA name = none) (h : Q (.ref f, [.ref x]) s) :
    wpAny (model prog w) A (getMethod (.ref x) name pl) Q E s := by
  obtain ⟨od, J, hl⟩ := I.look
  exact PySem.W.method_fn X J (PySem.W.plainGet_of hg).1 (PySem.W.plainGet_of hg).2 hf (beq_iff_eq.mp ht) (by show (PySem.W.lookIn name od).map (·.isSome) = some false; rw [hl, hv]; rfl) h

theorem set_map {ns : List Str} {Q : Unit → Shared → Prop} (X : K.In s.heap) (I : ObjM s.heap x dx C mA)
    (hs : PySem.W.findIn K (.ref C) "__setattr__" = some (some (.builtin "object.__setattr__"))) (hp : PySem.W.plainOver K C = true) (ht : PySem.W.takerIn K C name = some none) (hh : PySem.W.hasDictIn K C = true)
    (hw : PySem.Within mA ns) (hsz : ns.length ≤ sizeLine)
    (h : ∀ h', ObjM h' x dx C (fun y => if y = name then some v else mA y) → Heap.SameBut dx s.heap h' → Q () { s with heap := h', toks := s.toks + 2 }) :
    wpAny (model prog w) A (setAttr (.ref x) name v) Q E s := by
  obtain ⟨od, J, hl⟩ := I.look
  refine PySem.W.set_plain X J hs (PySem.W.osa_open (s := { s with toks := s.toks + 1 }) (r := none) X J hp ht fun b => ?_)
  obtain ⟨cd, hc, hd'⟩ := PySem.W.any_some hh
  have hx : s.heap.get? x = some ⟨.ref C, some dx, .plain, #[]⟩ := I.obj
  refine wpAny_bind (wpAny_pure (wpAny_bind (wpAny_bind (wpAny_loadPart hx (wpAny_bind (PySem.W.Looks.here (s := { s with toks := s.toks + 1 }) (PySem.W.looks_clsIn X hc) ?_))))))
  rw [hd']
  refine wpAny_pure (a := some dx) (wpAny_bind (wpAny_pure (wpAny_bind ?_)))
  refine wpAny_nsSet1 (s := { s with toks := s.toks + 1 }) I.ns fun h' hn2 hs2 => ?_
  obtain ⟨oD, esD, epD, hoD, hdD, hcD⟩ := hn2.count (PySem.Within.cons name v hw)
  refine wpAny_bind (wpAny_lookBehind hoD (by rw [hdD]; exact pastItsLine_dict (Nat.le_trans hcD (by rw [List.length_cons]; omega))) ?_)
  exact wpAny_pure (h _ ⟨(hs2.2 _ (Ne.symm I.ne)).trans I.obj, hn2, I.ne⟩ hs2)

/-- C(..): the dict at the heap's end, the instance behind it; then its __init__ -/
theorem make_map {R : Result → Shared → Prop} {vs : List Value} {kw : List (Str × Value)} (X : K.In s.heap) (hm : PySem.W.makesIn K C = true)
    (hi : PySem.W.findIn K (.ref C) "__init__" = some (some (.ref f))) (hf : PySem.W.typeIn K (.ref f) = some (.type "function"))
    (h : codeAny (model prog w) (A.under (.builtin "type.__call__" ⟨.ref C :: vs, kw⟩)) (.call (.ref f) ⟨.ref (s.heap.objs.size + 1) :: vs, kw⟩) (PySem.W.InitBack (s.heap.objs.size + 1) R)
      { s with heap := (s.heap.push PySem.W.emptyDict).push (PySem.W.instObj C s.heap.objs.size) }) :
    codeAny (model prog w) A (.call (.ref C) ⟨vs, kw⟩) R s := by
  obtain ⟨hh, g, d, t, os⟩ := s
  exact PySem.W.make_core (PySem.W.makes_of X hm) (PySem.W.looks_findIn X hi) (fun self => PySem.W.bind_fn X self hf) (.inl rfl) h
/-- C() where there is no __init__ but object's -/
theorem make_map0 {R : Result → Shared → Prop} (X : K.In s.heap) (hm : PySem.W.makesIn K C = true)
    (hi : PySem.W.findIn K (.ref C) "__init__" = some (some (.builtin "object.__init__")))
    (hb : ∀ self, PySem.W.Looks (model prog w) s.heap (bindSpecial (.builtin "object.__init__") self) (.builtin "object.__init__", [self]))
    (h : codeAny (model prog w) (A.under (.builtin "type.__call__" ⟨[.ref C], []⟩)) (.call (.builtin "object.__init__") ⟨[.ref (s.heap.objs.size + 1)], []⟩) (PySem.W.InitBack (s.heap.objs.size + 1) R)
      { s with heap := (s.heap.push PySem.W.emptyDict).push (PySem.W.instObj C s.heap.objs.size) }) :
    codeAny (model prog w) A (.call (.ref C) ⟨[], []⟩) R s := by
  obtain ⟨hh, g, d, t, os⟩ := s
  exact PySem.W.make_core (PySem.W.makes_of X hm) (PySem.W.looks_findIn X hi) hb (.inr ⟨rfl, rfl⟩) h
end

/-! ### the attributes as a list of pairs -/
def putF (f : Str) (v : V) : List (Str × V) → List (Str × V)
  | [] => [(f, v)]
  | (g, x) :: r => if g = f then (g, v) :: r else (g, x) :: putF f v r
theorem lookup_putF (f g : Str) (v : V) : ∀ fs : List (Str × V), (putF f v fs).lookup g = if g = f then some v else fs.lookup g
  | [] => by
    show List.lookup g [(f, v)] = _
    by_cases h : g = f
    · have hb : (g == f) = true := beq_iff_eq.mpr h
      simp only [List.lookup, hb, if_pos h]
    · have hb : (g == f) = false := beq_eq_false_iff_ne.mpr h
      simp only [List.lookup, hb, if_neg h]
  | (k, x) :: r => by
    have ih := lookup_putF f g v r
    rw [show putF f v ((k, x) :: r) = (if k = f then (k, v) :: r else (k, x) :: putF f v r) from rfl]
    by_cases hk : k = f
    · rw [if_pos hk]
      by_cases h : g = k
      · have hb : (g == k) = true := beq_iff_eq.mpr h
        simp only [List.lookup, hb, if_pos (h.trans hk)]
      · have hb : (g == k) = false := beq_eq_false_iff_ne.mpr h
        simp only [List.lookup, hb, if_neg (fun e : g = f => h (e.trans hk.symm))]
    · rw [if_neg hk]
      by_cases h : g = k
      · have hb : (g == k) = true := beq_iff_eq.mpr h
        simp only [List.lookup, hb, if_neg (fun e : g = f => hk (h.symm.trans e))]
      · have hb : (g == k) = false := beq_eq_false_iff_ne.mpr h
        simp only [List.lookup, hb]
        exact ih
theorem keys_putF (f : Str) (v : V) : ∀ fs : List (Str × V), f ∈ (putF f v fs).map (·.1) ∧ ∀ g, g ∈ fs.map (·.1) → g ∈ (putF f v fs).map (·.1)
  | [] => ⟨by simp [putF], fun g h => by simp at h⟩
  | (k, x) :: r => by
    obtain ⟨i1, i2⟩ := keys_putF f v r
    rw [show putF f v ((k, x) :: r) = (if k = f then (k, v) :: r else (k, x) :: putF f v r) from rfl]
    by_cases hk : k = f
    · rw [if_pos hk]
      subst hk
      exact ⟨by simp, fun g h => by simpa using h⟩
    · rw [if_neg hk]
      refine ⟨?_, fun g h => ?_⟩
      · rw [List.map_cons]
        exact List.mem_cons_of_mem _ i1
      · rw [List.map_cons] at h ⊢
        rcases List.mem_cons.mp h with e | e
        · exact List.mem_cons.mpr (.inl e)
        · exact List.mem_cons_of_mem _ (i2 g e)
theorem length_putF (f : Str) (v : V) : ∀ fs : List (Str × V), (putF f v fs).length ≤ fs.length + 1
  | [] => by simp [putF]
  | (k, x) :: r => by
    have ih := length_putF f v r
    rw [show putF f v ((k, x) :: r) = (if k = f then (k, v) :: r else (k, x) :: putF f v r) from rfl]
    by_cases hk : k = f
    · rw [if_pos hk, List.length_cons, List.length_cons]; omega
    · rw [if_neg hk, List.length_cons, List.length_cons]; omega

theorem RelO.some_of {v : V} {o : Option Value} (r : RelO (some v) o) : ∃ u, o = some u ∧ RelV v u := by
  cases o with
  | none => exact (show False from r).elim
  | some u => exact ⟨u, rfl, r⟩
theorem RelO.none_of {o : Option Value} (r : RelO none o) : o = none := by
  cases o with
  | none => rfl
  | some u => exact (show False from r).elim
theorem handed_of {v : V} {u : Value} (r : RelV v u) : PySem.W.handedIn u = true := by
  cases v with
  | non => cases (show u = Value.none from r); rfl
  | bl b => cases (show u = Value.bool b from r); rfl
  | int i => obtain ⟨t, e⟩ := (show ∃ t, u = Value.int i t from r); cases e; rfl
  | str x => obtain ⟨t, e⟩ := (show ∃ t, u = Value.str x t from r); cases e; rfl
  | byt b => obtain ⟨t, e⟩ := (show ∃ t, u = Value.bytes b t from r); cases e; rfl
  | flt b => obtain ⟨t, e⟩ := (show ∃ t, u = Value.float b t from r); cases e; rfl
  | ref a => cases (show u = Value.ref a from r); rfl
  | ty n => cases (show u = Value.type n from r); rfl

section
variable {P : Program} {w : World} {H H' : Hp} {h h' : Heap} {a C dx : Addr} {fs fs' : List (Str × V)}
theorem ins_get (hok : HOk P w H h) (e : H a = some (.ins C dx fs)) : ∃ mA, ObjM h a dx C mA ∧ (∀ f, RelO (fs.lookup f) (mA f)) ∧ PySem.Within mA (fs.map (·.1)) ∧ fs.length ≤ 1000 ∧ H dx = some (.own a) := by
  obtain ⟨d, z, ne, ob, mA, n, r, q⟩ := (show ObjOk P w H h a (.ins C dx fs) from hok a _ e)
  exact ⟨mA, ⟨ob, n, ne⟩, r, q, z, d⟩
end

/-! ### what of the text a class must have -/
structure Cls (K : PySem.W.Frag) (C : Addr) : Prop where
  pg : PySem.W.plainGet K C Str.empty = true
  hd : PySem.W.hasDictIn K C = true
  po : PySem.W.plainOver K C = true
  sa : PySem.W.findIn K (.ref C) "__setattr__" = some (some (.builtin "object.__setattr__"))
theorem Cls.get {K : PySem.W.Frag} {C : Addr} (c : Cls K C) (f : Str) : PySem.W.plainGet K C f = true := c.pg
/-- no class of it has the name -/
def NoAttr (K : PySem.W.Frag) (C : Addr) (f : Str) : Prop := PySem.W.findIn K (.ref C) f = some none
theorem NoAttr.taker {K : PySem.W.Frag} {C : Addr} {f : Str} (n : NoAttr K C f) : PySem.W.takerIn K C f = some none := by
  unfold PySem.W.takerIn
  rw [show PySem.W.findIn K (.ref C) f = some none from n]
  rfl
/-- a constant of the class -/
structure Con (K : PySem.W.Frag) (C : Addr) (f : Str) (v : V) (u : Value) : Prop where
  at_ : PySem.W.findIn K (.ref C) f = some (some u)
  rel : RelV v u
  get : PySem.W.specialIn K u "__get__" = some none
  cp : PySem.W.copiedNames.contains f = false
/-- a method: a plain def of the class or of one above it -/
structure Meth (K : PySem.W.Frag) (C : Addr) (m : Str) (f : Addr) : Prop where
  at_ : PySem.W.findIn K (.ref C) m = some (some (.ref f))
  fn : PySem.W.isFn K (.ref f) = true
  kp : PySem.W.keepIn K (.ref f) = true

section
variable {X : Cx} {pins : List (Addr × Obj)} {σ : St} {H : Hp} {s : Shared} {a C dx : Addr} {fs : List (Str × V)} {f : Str} {v : V} {A : Around} {E : Value → Shared → Prop}

theorem getattr_ok {b : Bool} {Q : Value → Shared → Prop} (I : Inv X pins σ H s) (e : H a = some (.ins C dx fs)) (c : Cls X.K C) (n : NoAttr X.K C f) (l : fs.lookup f = some v)
    (h : ∀ u s', Inv X pins σ H s' → RelV v u → Q u s') : wpAny (model X.prog X.w) A (getAttr (.ref a) f b) Q E s := by
  obtain ⟨mA, O, r, _, _, _⟩ := ins_get I.hok e
  obtain ⟨u, hu, ru⟩ := RelO.some_of (v := v) (o := mA f) (by rw [← l]; exact r f)
  exact get_map I.kIn O (c.get f) c.hd n hu (handed_of ru) (h u _ (I.tok _) ru)

theorem getcon_ok {b : Bool} {u : Value} {Q : Value → Shared → Prop} (I : Inv X pins σ H s) (e : H a = some (.ins C dx fs)) (c : Cls X.K C) (k : Con X.K C f v u) (l : fs.lookup f = none)
    (h : ∀ s', Inv X pins σ H s' → Q u s') : wpAny (model X.prog X.w) A (getAttr (.ref a) f b) Q E s := by
  obtain ⟨mA, O, r, _, _, _⟩ := ins_get I.hok e
  have hn : mA f = none := RelO.none_of (by rw [← l]; exact r f)
  exact get_const I.kIn O (c.get f) c.hd k.at_ k.get k.cp hn (handed_of k.rel) (h _ (I.tok _))

theorem getmeth_ok {m : Str} {g : Addr} {pl : Sem Bool} {Q : Value × List Value → Shared → Prop} (I : Inv X pins σ H s) (e : H a = some (.ins C dx fs)) (c : Cls X.K C) (k : Meth X.K C m g) (l : fs.lookup m = none)
    (h : Q (.ref g, [.ref a]) s) : wpAny (model X.prog X.w) A (getMethod (.ref a) m pl) Q E s := by
  obtain ⟨mA, O, r, _, _, _⟩ := ins_get I.hok e
  have hn : mA m = none := RelO.none_of (by rw [← l]; exact r m)
  exact get_meth I.kIn O (c.get m) k.at_ k.fn hn h

theorem setattr_ok {y : V} {u : Value} {Q : Unit → Shared → Prop} (I : Inv X pins σ H s) (e : H a = some (.ins C dx fs)) (c : Cls X.K C) (n : NoAttr X.K C f) (hl : fs.length < 1000) (ry : RelV y u)
    (h : ∀ s', Inv X pins σ (upd H a (.ins C dx (putF f y fs))) s' → Q () s') : wpAny (model X.prog X.w) A (setAttr (.ref a) f u) Q E s := by
  obtain ⟨mA, O, r, wi, _, ho⟩ := ins_get I.hok e
  have hz : (fs.map (·.1)).length ≤ sizeLine := by rw [List.length_map, sizeLine_eq]; omega
  refine set_map I.kIn O c.sa c.po n.taker c.hd wi hz fun h' O' sb => h _ ?_
  have hd : ∃ o, h'.get? dx = some o := let ⟨o, _, _, e', _⟩ := O'.ns; ⟨o, e'⟩
  refine I.write (x := a) (e := dx) (by rw [e]; exact True.intro) (.inr ho) (fun b q hb z => (sb.2 b hb).trans z) hd ?_
  refine ⟨by rw [upd_ne O.ne]; exact ho, ?_, O.ne, O'.obj, _, O'.ns, fun g => ?_, fun g hg => ?_⟩
  · have := length_putF f y fs; omega
  · show RelO ((putF f y fs).lookup g) (if g = f then some u else mA g)
    rw [lookup_putF]
    by_cases q : g = f
    · rw [if_pos q, if_pos q]; exact ry
    · rw [if_neg q, if_neg q]; exact r g
  · by_cases q : g = f
    · rw [q]; exact (keys_putF f y fs).1
    · refine (keys_putF f y fs).2 g (wi g fun z => hg ?_)
      show (if g = f then some u else mA g) = none
      rw [if_neg q]; exact z

/-- a new instance, tracked, without attributes -/
theorem Inv.made (I : Inv X pins σ H s) : Inv X pins σ (upd (upd H s.heap.objs.size (.own (s.heap.objs.size + 1))) (s.heap.objs.size + 1) (.ins C s.heap.objs.size []))
    { s with heap := (s.heap.push PySem.W.emptyDict).push (PySem.W.instObj C s.heap.objs.size) } := by
  have e1 : (s.heap.push PySem.W.emptyDict).get? s.heap.objs.size = some PySem.W.emptyDict := Heap.get?_push_size s.heap rfl
  have e2 : ((s.heap.push PySem.W.emptyDict).push (PySem.W.instObj C s.heap.objs.size)).get? (s.heap.objs.size + 1) = some (PySem.W.instObj C s.heap.objs.size) := by
    have := Heap.get?_push_size (s.heap.push PySem.W.emptyDict) (o := PySem.W.instObj C s.heap.objs.size) rfl
    rwa [Heap.size_push] at this
  have e3 : (s.heap.push PySem.W.emptyDict).Ns s.heap.objs.size (fun _ => none) := ⟨PySem.W.emptyDict, #[], _, e1, rfl, (fun e he => absurd he (by simp)), fun _ => rfl⟩
  have I1 := I.laid (a := s.heap.objs.size) (o := .own (s.heap.objs.size + 1)) (h' := s.heap.push PySem.W.emptyDict) (t' := s.toks) (fun b u q => Heap.get?_push_of_some _ q) (Nat.le_refl _) ⟨_, e1⟩
  refine I1.laid (a := s.heap.objs.size + 1) (o := .ins C s.heap.objs.size []) (t' := s.toks) (fun b u q => Heap.get?_push_of_some _ q) (Nat.le_of_eq (Heap.size_push _ _)) ?_
  have ne : s.heap.objs.size ≠ s.heap.objs.size + 1 := Nat.ne_of_lt (Nat.lt_succ_self _)
  refine ⟨by rw [upd_ne ne, upd_same], Nat.zero_le _, ne, e2, fun _ => none, (Heap.Ns1.of_empty e3).at fun o q => Heap.get?_push_of_some _ q, fun _ => True.intro, fun y hy => absurd rfl hy⟩

/-- e.f where nothing but the object is asked: through attributeBase (super) and the last hold -/
theorem attr_of {prog : Program} {w : World} {env : Env} {e : Expr} {f : Str} {pos : Pos} {s : Shared} {Q : Value → Shared → Prop} (hb : attributeBase e f env (eval e env) = eval e env)
    (h : wpAny (model prog w) A (eval e env) (fun o s₁ => wpAny (model prog w) A (getAttr o f true) Q E s₁) E s) : wpAny (model prog w) A (eval (.Attribute e f pos) env) Q E s :=
  Attribute_any_ h (by rw [arm_eval_Attribute, hb])
end

/-! ### readings and rules -/
/-- e.f, an attribute of the instance -/
def tFld (K : PySem.W.Frag) (ta : TE) (f : Str) : TE := fun σ H Q => ta σ H fun x H1 => ∃ a C dx fs v, x = .ref a ∧ H1 a = some (.ins C dx fs) ∧ Cls K C ∧ NoAttr K C f ∧ fs.lookup f = some v ∧ Q v H1
/-- e.f, a constant of the class -/
def tCon (K : PySem.W.Frag) (ta : TE) (f : Str) : TE := fun σ H Q => ta σ H fun x H1 => ∃ a C dx fs v u, x = .ref a ∧ H1 a = some (.ins C dx fs) ∧ Cls K C ∧ Con K C f v u ∧ fs.lookup f = none ∧ Q v H1
/-- e.f = value -/
def sFld (K : PySem.W.Frag) (ta tv : TE) (f : Str) : TS := fun D σ H => tv σ H fun y H1 => ta σ H1 fun x H2 => ∃ a C dx fs, x = .ref a ∧ H2 a = some (.ins C dx fs) ∧ Cls K C ∧ NoAttr K C f ∧ fs.length < 1000 ∧
  D.nx σ (upd H2 a (.ins C dx (putF f y fs)))
/-- an augmented operator on two values -/
def InOp (X : Cx) (op : Operator) (rd : V → V → Hp → VK → Prop) : Prop :=
  ∀ (pins : List (Addr × Obj)) (s : Shared) (σ : St) (H : Hp) (x y : V) (u v : Value) (Q : VK), Inv X pins σ H s → RelV x u → RelV y v → rd x y H Q → wpAny (model X.prog X.w) X.A (inplaceOp op u v) (EP X pins σ Q) X.xe s
/-- e.f op= value -/
def sFldAug (K : PySem.W.Frag) (ta tv : TE) (rd : V → V → Hp → VK → Prop) (f : Str) : TS := fun D σ H => ta σ H fun x H1 => ∃ a C dx fs v, x = .ref a ∧ H1 a = some (.ins C dx fs) ∧ Cls K C ∧ NoAttr K C f ∧ fs.lookup f = some v ∧
  tv σ H1 fun y H2 => rd v y H2 fun z H3 => ∃ dx' fs', H3 a = some (.ins C dx' fs') ∧ fs'.length < 1000 ∧ D.nx σ (upd H3 a (.ins C dx' (putF f z fs')))

section
variable {X : Cx} {o e value : Expr} {f : Str} {pos pos' tpos : Pos} {ta tv : TE}
theorem pe_fld (he : PE X e ta) (hb : attributeBase e f X.env (eval e X.env) = eval e X.env) : PE X (.Attribute e f pos) (tFld X.K ta f) := by
  intro pins s σ H Q I h
  refine attr_of hb (thn (he pins s σ H _ I h) fun u s1 ⟨x, H1, I1, rx, a, C, dx, fs, v, ex, ea, c, n, l, q⟩ => ?_)
  subst ex
  obtain rfl : u = Value.ref a := rx
  exact getattr_ok I1 ea c n l fun u' s2 I2 ru => ⟨v, H1, I2, ru, q⟩
theorem pe_con (he : PE X e ta) (hb : attributeBase e f X.env (eval e X.env) = eval e X.env) : PE X (.Attribute e f pos) (tCon X.K ta f) := by
  intro pins s σ H Q I h
  refine attr_of hb (thn (he pins s σ H _ I h) fun u s1 ⟨x, H1, I1, rx, a, C, dx, fs, v, u0, ex, ea, c, k, l, q⟩ => ?_)
  subst ex
  obtain rfl : u = Value.ref a := rx
  exact getcon_ok I1 ea c k l fun s2 I2 => ⟨v, H1, I2, k.rel, q⟩
theorem ps_fld (ha : PE X o ta) (hv : PE X value tv) (hs : swapsWith value (some (.Attribute o f pos')) pos.line X.env = pure false) : PS X (.Assign [.Attribute o f pos'] value pos) (sFld X.K ta tv f) := by
  intro pins s σ H D I h
  refine plainObj_wpAny_Assign_Attribute (thn (hv pins s σ H _ I h) fun u s1 ⟨y, H1, I1, ry, q⟩ => thn (ha pins s1 σ H1 _ I1 q) fun ov s2 ⟨x, H2, I2, rx, a, C, dx, fs, ex, ea, c, n, l, q2⟩ => ?_) hs
  subst ex
  obtain rfl : ov = Value.ref a := rx
  exact setattr_ok I2 ea c n l ry fun s3 I3 => ⟨σ, _, I3, q2⟩
theorem ps_fldaug {op : Operator} {rd : V → V → Hp → VK → Prop} (ha : PE X o ta) (hv : PE X value tv) (hop : InOp X op rd) : PS X (.AugAssign (.Attribute o f tpos) op value pos) (sFldAug X.K ta tv rd f) := by
  intro pins s σ H D I h
  refine wpAny_AugAssign_AttributeAny (thn (ha pins s σ H _ I h) fun ov s1 ⟨x, H1, I1, rx, a, C, dx, fs, v, ex, ea, c, n, l, q⟩ => ?_)
  subst ex
  obtain rfl : ov = Value.ref a := rx
  refine getattr_ok I1 ea c n l fun u s2 I2 ru => thn (hv pins s2 σ H1 _ I2 q) fun w3 s3 ⟨y, H2, I3, ry, q3⟩ => thn (hop pins s3 σ H2 v y u w3 _ I3 ru ry q3) fun w4 s4 ⟨z, H3, I4, rz, dx', fs', ea', l', q4⟩ => ?_
  exact setattr_ok I4 ea' c n l' rz fun s5 I5 => ⟨σ, _, I5, q4⟩
def rAdd : V → V → Hp → VK → Prop := fun x y H Q => ∃ i j, x = .int i ∧ y = .int j ∧ Q (.int (i + j)) H
def rSub : V → V → Hp → VK → Prop := fun x y H Q => ∃ i j, x = .int i ∧ y = .int j ∧ Q (.int (i - j)) H
theorem in_add : InOp X .Add rAdd := by
  rintro pins s σ H x y u v Q I rx ry ⟨i, j, rfl, rfl, q⟩
  obtain ⟨t, rfl⟩ := (show ∃ t, u = Value.int i t from rx)
  obtain ⟨t', rfl⟩ := (show ∃ t', v = Value.int j t' from ry)
  exact PyProof.Rows.iadd_int ⟨.int (i + j), H, I.tok _, ⟨_, rfl⟩, q⟩
theorem in_sub : InOp X .Sub rSub := by
  rintro pins s σ H x y u v Q I rx ry ⟨i, j, rfl, rfl, q⟩
  obtain ⟨t, rfl⟩ := (show ∃ t, u = Value.int i t from rx)
  obtain ⟨t', rfl⟩ := (show ∃ t', v = Value.int j t' from ry)
  exact PyProof.Rows.isub_int ⟨.int (i - j), H, I.tok _, ⟨_, rfl⟩, q⟩

/-- what is between an instance and its method: the tree of a method call -/
theorem methcall_of {pl : Sem Bool} {m : Str} {apos : Pos} {args : List Expr} {pins : List (Addr × Obj)} {s : Shared} {σ : St} {H : Hp} {Q : Value → Shared → Prop} {te : TE} (he : PE X e te) (I : Inv X pins σ H s)
    (h : te σ H fun x H1 => ∃ a C dx fs g, x = .ref a ∧ H1 a = some (.ins C dx fs) ∧ Cls X.K C ∧ Meth X.K C m g ∧ fs.lookup m = none ∧
      ∀ s1, Inv X pins σ H1 s1 → wpAny (model X.prog X.w) X.A (callWith pos (.ref g) [.ref a] (backTo pos (starEach args X.env)) (backToKw pos (keywordEach [] X.env))) Q X.xe s1)
    (ht : eval (.Call (.Attribute e m apos) args [] pos) X.env = (do
      let ov ← eval e X.env
      standAt apos.atName
      let (f, first) ← holding [ov] (getMethod ov m pl)
      callWith pos f first (backTo pos (starEach args X.env)) (backToKw pos (keywordEach [] X.env)))) :
    wpAny (model X.prog X.w) X.A (eval (.Call (.Attribute e m apos) args [] pos) X.env) Q X.xe s := by
  refine PySem.W.methodCall_KW (pl := pl) (thn (he pins s σ H _ I h) fun u s1 ⟨x, H1, I1, rx, a, C, dx, fs, g, ex, ea, c, k, l, q⟩ => ?_) ht
  subst ex
  obtain rfl : u = Value.ref a := rx
  exact getmeth_ok I1 ea c k l (q s1 I1)
end

/-! ### isinstance -/
section
variable {X : Cx} {pins : List (Addr × Obj)} {σ : St} {H : Hp} {s : Shared} {A : Around} {E : Value → Shared → Prop} {Q : Value → Shared → Prop} {c : Value} {b : Bool}
/-- the type of a value, as the fragment's deciders take it; for an instance its class -/
inductive TyOf (K : PySem.W.Frag) (H : Hp) : V → Value → Prop where
  | non : TyOf K H .non (.type "NoneType")
  | bl (x : Bool) : TyOf K H (.bl x) (.type "bool")
  | int (i : Int) : TyOf K H (.int i) (.type "int")
  | str (x : Str) : TyOf K H (.str x) (.type "str")
  | flt (x : UInt64) : TyOf K H (.flt x) (.type "float")
  | lst {a : Addr} {xs : List V} (e : H a = some (.lst xs)) : TyOf K H (.ref a) (.type "list")
  | frz {a : Addr} {o : Obj} {xs : List V} (e : H a = some (.frz o (.lst xs))) : TyOf K H (.ref a) (.type "list")
  | tup {a : Addr} {xs : List V} (e : H a = some (.tup xs)) : TyOf K H (.ref a) (.type "tuple")
  | dK {a : Addr} {kvs : List (Key × V)} (e : H a = some (.dK kvs)) : TyOf K H (.ref a) (.type "dict")
  | dT {a : Addr} {kvs : List (List Key × V)} (e : H a = some (.dT kvs)) : TyOf K H (.ref a) (.type "dict")
  | ins {a C dx : Addr} {fs : List (Str × V)} (e : H a = some (.ins C dx fs)) (cl : Cls K C) (ha : PySem.W.findIn K (.ref C) "__class__" = some (some (.builtin "object.__class__")))
      (hn : PySem.W.specialIn K (.builtin "object.__class__") "__get__" = some (some (.builtin "getset_descriptor.__get__"))) (htk : PySem.W.takesIn K (.builtin "object.__class__") = some true)
      (hm : PySem.W.mroIn K C (.type "object") = some true) : TyOf K H (.ref a) (.ref C)
/-- isinstance(x, c) for one class c, a built-in or an own one: kitOne's answer -/
theorem isinst_ok {x : V} {u t : Value} (I : Inv X pins σ H s) (rx : RelV x u) (ty : TyOf X.K H x t) (e : PySem.W.kitOne X.K t c = some b) (h : ∀ tk, Q (.bool b) { s with toks := tk }) :
    wpAny (model X.prog X.w) A (call (.builtin "isinstance") [u, c]) Q E s := by
  cases ty with
  | non => cases (show u = Value.none from rx); exact PySem.W.kia_one PySem.W.kitx_none I.kIn True.intro e (fun z => nomatch z) h
  | bl y => cases (show u = Value.bool y from rx); exact PySem.W.kia_one PySem.W.kitx_bool I.kIn True.intro e (fun z => nomatch z) h
  | int i => obtain ⟨t, q⟩ := (show ∃ t, u = Value.int i t from rx); cases q; exact PySem.W.kia_one PySem.W.kitx_int I.kIn True.intro e (fun z => nomatch z) h
  | str y => obtain ⟨t, q⟩ := (show ∃ t, u = Value.str y t from rx); cases q; exact PySem.W.kia_one PySem.W.kitx_str I.kIn True.intro e (fun z => nomatch z) h
  | flt y => obtain ⟨t, q⟩ := (show ∃ t, u = Value.float y t from rx); cases q; exact PySem.W.kia_one PySem.W.kitx_float I.kIn True.intro e (fun z => nomatch z) h
  | @lst a xs ea =>
    cases (show u = Value.ref a from rx)
    obtain ⟨_, _, n, _, h1⟩ := (show ObjOk X.prog X.w H s.heap a (.lst xs) from I.hok a _ ea)
    exact PySem.W.kia_one PySem.W.kitx_list I.kIn ⟨_, h1, rfl⟩ e (fun z => nomatch z) h
  | @frz a ob xs ea =>
    cases (show u = Value.ref a from rx)
    obtain ⟨_, _, _, n, _, h1⟩ := (show ObjOk X.prog X.w H s.heap a (.frz ob (.lst xs)) from I.hok a _ ea)
    exact PySem.W.kia_one PySem.W.kitx_list I.kIn ⟨_, h1, rfl⟩ e (fun z => nomatch z) h
  | @tup a xs ea =>
    cases (show u = Value.ref a from rx)
    obtain ⟨_, _, _, p⟩ := (show ObjOk X.prog X.w H s.heap a (.tup xs) from I.hok a _ ea)
    obtain ⟨o, h1, h2, _⟩ := p
    exact PySem.W.kia_one PySem.W.kitx_tuple I.kIn ⟨o, h1, h2⟩ e (fun z => nomatch z) h
  | @dK a kvs ea =>
    cases (show u = Value.ref a from rx)
    obtain ⟨_, _, vs, _, p⟩ := (show ObjOk X.prog X.w H s.heap a (.dK kvs) from I.hok a _ ea)
    obtain ⟨o, es, ep, h1, h2, _⟩ := p
    exact PySem.W.kia_one PySem.W.kitx_dict I.kIn ⟨o, h1, h2.1⟩ e (fun z => nomatch z) h
  | @dT a kvs ea =>
    cases (show u = Value.ref a from rx)
    obtain ⟨_, _, xs, _, o, es, ep, h1, h2, _⟩ := (show ObjOk X.prog X.w H s.heap a (.dT kvs) from I.hok a _ ea)
    exact PySem.W.kia_one PySem.W.kitx_dict I.kIn ⟨o, h1, h2.1⟩ e (fun z => nomatch z) h
  | @ins a C dx fs ea cl ha hn htk hm =>
    cases (show u = Value.ref a from rx)
    obtain ⟨mA, O, _⟩ := ins_get I.hok ea
    obtain ⟨od, J, _⟩ := O.look
    exact PySem.W.kia_one (PySem.W.kitx_own (cl.get _) cl.hd ha hn htk hm) I.kIn J e (fun z => nomatch z) h
end
end L2

namespace L2
open PySem PySem.Spec PyProof.Rows

/-! ### room -/
structure Room (k : Nat) (A : Around) : Prop where
  hd : A.handled = none
  dp : A.depth + 3 * k + 5 < recursionLimit
  un : A.units + 16 * k + 200 < cLine
theorem Room.mono {j k : Nat} {A : Around} (r : Room k A) (h : j ≤ k) : Room j A := ⟨r.hd, by have := r.dp; omega, by have := r.un; omega⟩
theorem Room.deeper {k : Nat} {A : Around} (r : Room (k + 1) A) (env : Env) : Room k (A.deeper env) :=
  ⟨r.hd, by have := r.dp; show A.depth + 1 + 3 * k + 5 < _; omega, by have := r.un; show A.units + 3 + 16 * k + 200 < _; omega⟩
theorem Room.in1 {k : Nat} {A : Around} (r : Room (k + 1) A) : Room k A.in1 :=
  ⟨r.hd, by have := r.dp; show A.depth + 3 * k + 5 < _; omega, by have := r.un; show A.units + 1 + 16 * k + 200 < _; omega⟩
theorem make_depth {A : Around} {C : Addr} {us : List Value} {kw : List (Str × Value)} : (A.under (.builtin "type.__call__" ⟨.ref C :: us, kw⟩)).depth = A.depth + 1 := by
  first | rfl | simp [Around.under, Code.weight, Code.isCreation, Code.isGuard, Code.isCaller, Code.frames, Code.isFrame, guardIds]
theorem make_units {A : Around} {C : Addr} {us : List Value} {kw : List (Str × Value)} : (A.under (.builtin "type.__call__" ⟨.ref C :: us, kw⟩)).units = A.units + 1 := by
  first | rfl | simp [Around.under, Code.cUnits, Code.frames, Code.isFrame]
theorem Room.make {k : Nat} {A : Around} (r : Room (k + 1) A) (C : Addr) (us : List Value) (kw : List (Str × Value)) : Room k (A.under (.builtin "type.__call__" ⟨.ref C :: us, kw⟩)) :=
  ⟨r.hd, by have := r.dp; rw [make_depth]; omega, by have := r.un; rw [make_units]; omega⟩
theorem Room.depth {k : Nat} {A : Around} (r : Room k A) : A.depth < recursionLimit := by have := r.dp; omega
theorem Room.units {k : Nat} {A : Around} (r : Room k A) : A.units + 64 < cLine := by have := r.un; omega
theorem Room.units0 {k : Nat} {A : Around} (r : Room k A) : A.units < cLine := by have := r.un; omega

/-! ### argument lists and displays -/
def tNil : TA := fun _ H Q => Q [] H
def tCons (ta : TE) (tr : TA) : TA := fun σ H Q => ta σ H fun x H1 => tr σ H1 fun xs H2 => Q (x :: xs) H2
section
variable {X : Cx} {e : Expr} {es : List Expr} {te : TE} {t : TA} {pos : Pos}
theorem pa_nil : PA X [] tNil := fun _ _ _ _ H Q I h => Calls.spliced_nil ⟨[], H, I, .nil, h⟩
theorem pa_cons (ha : PE X e te) (hr : PA X es t) (hs : starEach (e :: es) X.env = (false, eval e X.env) :: starEach es X.env := by rfl) : PA X (e :: es) (tCons te t) := by
  intro pos pins s σ H Q I h
  rw [hs]
  show wpAny _ _ (spliced ((false, eval e X.env) :: backTo pos (starEach es X.env))) _ _ s
  refine Calls.spliced_cons (thn (ha pins s σ H _ I h) fun u s1 ⟨x, H1, I1, r1, q1⟩ => ?_)
  exact thn (hr pos pins s1 σ H1 _ I1 q1) fun us s2 ⟨xs, H2, I2, r2, q2⟩ => ⟨x :: xs, H2, I2, .cons r1 r2, q2⟩

/-- a tuple, a list of written items -/
def tTup (t : TA) : TE := fun σ H Q => t σ H fun xs H1 => xs.length ≤ sizeLine ∧ ∀ p, H1 p = none → Q (.ref p) (upd H1 p (.tup xs))
def tLst (t : TA) : TE := fun σ H Q => t σ H fun xs H1 => xs.length ≤ sizeLine ∧ ∀ p, H1 p = none → Q (.ref p) (upd H1 p (.lst xs))
theorem pe_tup {x1} (h : PA X es t) : PE X (.Tuple es x1 pos) (tTup t) := by
  intro pins s σ H Q I hq
  refine wpAny_Tuple_spliced (thn (h pos pins s σ H _ I hq) fun us s1 ⟨xs, H1, I1, r, z, q⟩ => ⟨by rw [← r.length]; exact z, ?_⟩)
  have hf : H1 s1.heap.objs.size = none := I1.hok.fresh (Nat.le_refl _)
  refine ⟨.ref s1.heap.objs.size, upd H1 s1.heap.objs.size (.tup xs), I1.laid (t' := s1.toks) (fun b u e => Heap.get?_push_of_some _ e) (Nat.le_refl _) ?_, rfl, q _ hf⟩
  exact ⟨z, us, r, ⟨_, Heap.get?_push_size _ rfl, rfl, _, rfl⟩⟩
theorem pe_lst (h : PA X es t) : PE X (.List es pos) (tLst t) := by
  intro pins s σ H Q I hq
  refine wpAny_List_spliced (thn (h pos pins s σ H _ I hq) fun us s1 ⟨xs, H1, I1, r, z, q⟩ => ⟨by rw [← r.length]; exact z, ?_⟩)
  have hf : H1 s1.heap.objs.size = none := I1.hok.fresh (Nat.le_refl _)
  refine ⟨.ref s1.heap.objs.size, upd H1 s1.heap.objs.size (.lst xs), I1.laid (t' := s1.toks) (fun b u e => Heap.get?_push_of_some _ e) (Nat.le_refl _) ?_, rfl, q _ hf⟩
  exact ⟨z, us, 0, r, Heap.get?_push_size _ rfl⟩
end

/-! ### what a def promises -/
/-- a def's promise: the bound arguments in the parameters' order, the heap, the wanted end, the wanted exception -/
abbrev Sp := List V → Hp → VK → XK → Prop
/-- how an exception lies behind a call (file 08 gives it): the callers' frames, abstract heap and state ahead of the call, the wish, the exception, the state -/
abbrev CXT := List Env → Hp → Shared → XK → Value → Shared → Prop

/-- the state at a call -/
structure Env0 (P : Program) (w : World) (K : PySem.W.Frag) (mg : Str → Option Value) (base : Heap) (A : Around) (outer : List Env) (s : Shared) (H : Hp) : Prop where
  frames : A.frames = some outer
  mod : Mod K mg base
  bs : ∀ b o, base.get? b = some o → s.heap.get? b = some o ∧ H b = none
  bsz : base.objs.size ≤ s.heap.objs.size
  funs : s.heap.FunFrames base outer
  frf : ∀ b ∈ frs outer, H b = none
  hok : HOk P w H s.heap
  bare : AllBare s.gens
/-- a call's end -/
def CE (outer : List Env) (P : Program) (w : World) (H : Hp) (s : Shared) (Q : VK) (u : Value) (s' : Shared) : Prop :=
  ∃ v H', s'.os = s.os ∧ AllBare s'.gens ∧ Un (frs outer) [] H H' s.heap s'.heap ∧ HOk P w H' s'.heap ∧ RelV v u ∧ Q v H'
def CR (CX : CXT) (outer : List Env) (P : Program) (w : World) (H : Hp) (s : Shared) (Q : VK) (E : XK) (r : Result) (s' : Shared) : Prop :=
  match r with
  | .ok (.ret u) => CE outer P w H s Q u s'
  | .ok _ => False
  | .error e => CX outer H s E e s'
structure FnOk (P : Program) (w : World) (K : PySem.W.Frag) (mg : Str → Option Value) (base : Heap) (CX : CXT) (k : Nat) (f : Addr) (fd : FuncData) (ps : List Str) (sp : Sp) : Prop where
  len : ∀ vs H Q E, sp vs H Q E → vs.length = ps.length
  run : ∀ (A : Around) (outer : List Env) (s : Shared) (H : Hp) (args : Args) (us : List Value) (vs : List V) (Q : VK) (E : XK), Room k A → Env0 P w K mg base A outer s H → BindsTo s fd args (ps.zip us) → Vals vs us → sp vs H Q E →
    codeAny (model P w) A (.call (.ref f) args) (CR CX outer P w H s Q E) s
theorem FnOk.mono {P : Program} {w : World} {K : PySem.W.Frag} {mg : Str → Option Value} {base : Heap} {CX : CXT} {j k : Nat} {f : Addr} {fd : FuncData} {ps : List Str} {sp : Sp} (F : FnOk P w K mg base CX j f fd ps sp) (h : j ≤ k) :
    FnOk P w K mg base CX k f fd ps sp := ⟨F.len, fun A outer s H args us vs Q E hr => F.run A outer s H args us vs Q E (hr.mono h)⟩
/-- a weaker promise -/
theorem FnOk.imp {P : Program} {w : World} {K : PySem.W.Frag} {mg : Str → Option Value} {base : Heap} {CX : CXT} {k : Nat} {f : Addr} {fd : FuncData} {ps : List Str} {sp sp' : Sp} (F : FnOk P w K mg base CX k f fd ps sp)
    (h : ∀ vs H Q E, sp' vs H Q E → sp vs H Q E) : FnOk P w K mg base CX k f fd ps sp' :=
  ⟨fun vs H Q E q => F.len vs H Q E (h _ _ _ _ q), fun A outer s H args us vs Q E hr he hb hv hs => F.run A outer s H args us vs Q E hr he hb hv (h _ _ _ _ hs)⟩

theorem Env0.make {P : Program} {w : World} {K : PySem.W.Frag} {mg : Str → Option Value} {base : Heap} {A : Around} {outer : List Env} {s : Shared} {H : Hp} (e : Env0 P w K mg base A outer s H) (C : Addr) (us : List Value) (kw : List (Str × Value)) :
    Env0 P w K mg base (A.under (.builtin "type.__call__" ⟨.ref C :: us, kw⟩)) outer s H := ⟨by first | exact e.frames | (simpa [Around.under, Code.envs, Code.isFrame, pushEnvs] using e.frames), e.mod, e.bs, e.bsz, e.funs, e.frf, e.hok, e.bare⟩
theorem Env0.in1 {P : Program} {w : World} {K : PySem.W.Frag} {mg : Str → Option Value} {base : Heap} {A : Around} {outer : List Env} {s : Shared} {H : Hp} (e : Env0 P w K mg base A outer s H) :
    Env0 P w K mg base A.in1 outer s H := ⟨e.frames, e.mod, e.bs, e.bsz, e.funs, e.frf, e.hok, e.bare⟩

section
variable {X : Cx} {pins : List (Addr × Obj)} {σ : St} {H : Hp} {s s' : Shared}
/-- from a body: what a callee wants -/
theorem Inv.env0 (I : Inv X pins σ H s) : Env0 X.prog X.w X.K X.mg X.base X.A X.stack s H :=
  ⟨I.ok.frames, I.ok.mod, I.bs, Nat.le_trans I.ok.bsz I.sz, I.stack, I.stkFree, I.hok, I.bare⟩
/-- behind a call -/
theorem Inv.after {Q : VK} {u : Value} (I : Inv X pins σ H s) (h : CE X.stack X.prog X.w H s Q u s') : EP X pins σ Q u s' := by
  obtain ⟨v, H', os, bare, un, hok, r, q⟩ := h
  obtain ⟨hh, g, d, t, os'⟩ := s'
  obtain rfl : os' = s.os := os
  exact ⟨v, H', I.call (h' := hh) (g' := g) (d' := d) (t' := t) (ch := []) un hok bare (fun b z => absurd z (by simp)), r, q⟩
end

/-! ### calls -/
/-- f(..): the written arguments, then the defaults dvs; E: what is wanted of an exception -/
def tCall (sp : Sp) (dvs : List V) (E : XK) (t : TA) : TE := fun σ H Q => t σ H fun vs H1 => sp (vs ++ dvs) H1 Q E
/-- o.m(..) of an instance of the class at C -/
def tMeth (C : Addr) (m : Str) (sp : Sp) (dvs : List V) (E : XK) (ta : TE) (t : TA) : TE := fun σ H Q => ta σ H fun x H1 => ∃ a dx fs, x = .ref a ∧ H1 a = some (.ins C dx fs) ∧ fs.lookup m = none ∧
  t σ H1 fun vs H2 => sp (x :: (vs ++ dvs)) H2 Q E
/-- C(..): a new instance and its dict, then __init__ -/
def tMake (C : Addr) (sp : Sp) (dvs : List V) (E : XK) (t : TA) : TE := fun σ H Q => t σ H fun vs H1 => ∀ x dx, H1 x = none → H1 dx = none → dx ≠ x →
  sp (.ref x :: (vs ++ dvs)) (upd (upd H1 dx (.own x)) x (.ins C dx [])) (fun v H2 => v = .non ∧ Q (.ref x) H2) E

/-- how the parameters are bound: us the positional arguments, kw the keywords' values by name, ds the defaults that fill up -/
def Binds (K : PySem.W.Frag) (fd : FuncData) (ps : List Str) (ds : List Value) : Prop :=
  ∀ (s : Shared) (us : List Value), K.In s.heap → (us ++ ds).length = ps.length → BindsTo s fd ⟨us, []⟩ (ps.zip (us ++ ds))
/-- every parameter is given -/
theorem Binds.all {K : PySem.W.Frag} {fd : FuncData} {ps : List Str} (h : ∀ us : List Value, us.length = ps.length → bindArgs fd ⟨us, []⟩ = pure (ps.zip us)) : Binds K fd ps [] := fun s us _ hl => by
  rw [List.append_nil] at hl ⊢
  exact .of_eq (h us hl)

/-- an exception of a callee reaches what this body wants of exceptions -/
def Passes (CX : CXT) (X : Cx) (E : XK) : Prop := ∀ (pins : List (Addr × Obj)) (σ : St) (H : Hp) (s : Shared) (e : Value) (s' : Shared), Inv X pins σ H s → CX X.stack H s E e s' → X.xe e s'

section
variable {X : Cx} {CX : CXT} {k : Nat} {f C : Addr} {fd : FuncData} {ps : List Str} {sp : Sp} {dvs : List V} {ds : List Value} {E : XK} {x m : Str} {p pos apos : Pos} {e o : Expr} {es : List Expr} {ta : TE} {t : TA}

/-- the callee runs -/
theorem run_fn {pins : List (Addr × Obj)} {σ : St} {H : Hp} {s : Shared} {Q : VK} {us : List Value} {vs : List V} (F : FnOk X.prog X.w X.K X.mg X.base CX k f fd ps sp) (hr : Room k X.A) (hb : Binds X.K fd ps ds) (hd : Vals dvs ds) (hx : Passes CX X E)
    (I : Inv X pins σ H s) (r : Vals vs us) (h : sp (vs ++ dvs) H Q E) : wpAny (model X.prog X.w) X.A (call (.ref f) us) (EP X pins σ Q) X.xe s := by
  have r2 : Vals (vs ++ dvs) (us ++ ds) := r.append hd
  have hl : (us ++ ds).length = ps.length := by rw [← r2.length]; exact F.len _ _ _ _ h
  refine wpAny_call (codeAny_mono (F.run X.A X.stack s H ⟨us, []⟩ (us ++ ds) (vs ++ dvs) Q E hr I.env0 (hb s us I.kIn hl) r2 h) fun r s' hq => ?_)
  cases r with
  | error e => exact hx pins σ H s e s' I hq
  | ok fl =>
    cases fl with
    | ret u => exact I.after hq
    | next => exact False.elim hq
    | brk => exact False.elim hq
    | cont => exact False.elim hq

theorem pe_call (F : FnOk X.prog X.w X.K X.mg X.base CX k f fd ps sp) (hr : Room k X.A) (hg : Gl X x) (hm : X.mg x = some (.ref f)) (hk : PySem.W.keepIn X.K (.ref f) = true) (hb : Binds X.K fd ps ds) (hd : Vals dvs ds) (hx : Passes CX X E)
    (ha : PA X (e :: es) t) (hdb : (x == ("__debug__" : Str)) = false := by decide) (he : starEach (e :: es) X.env = (false, eval e X.env) :: starEach es X.env := by rfl) (hpl : (backTo pos (starEach es X.env)).any (·.1) = false := by rfl) :
    PE X (.Call (.Name x p) (e :: es) [] pos) (tCall sp dvs E t) := by
  intro pins s σ H Q I h
  refine wpAny_Call_Name_kw (ld_glob I hg hm ?_ hdb)
  refine PySem.W.callWith_K (h₀ := X.base) I.ok.mod.kin hk (thn (ha pos pins s σ H _ I h) fun us s1 ⟨vs, H1, I1, r, q⟩ => ⟨I1.kIn, ?_⟩) he hpl
  exact run_fn F hr hb hd hx I1 r q
theorem pe_call0 (F : FnOk X.prog X.w X.K X.mg X.base CX k f fd ps sp) (hr : Room k X.A) (hg : Gl X x) (hm : X.mg x = some (.ref f)) (hk : PySem.W.keepIn X.K (.ref f) = true) (hb : Binds X.K fd ps ds) (hd : Vals dvs ds) (hx : Passes CX X E)
    (hdb : (x == ("__debug__" : Str)) = false := by decide) : PE X (.Call (.Name x p) [] [] pos) (tCall sp dvs E tNil) := by
  intro pins s σ H Q I h
  refine wpAny_Call_Name_kw (ld_glob I hg hm ?_ hdb)
  exact PySem.W.callWith_K0 I.kIn hk (run_fn (us := []) F hr hb hd hx I .nil h)

/-- o.m(e, ..) -/
theorem pe_meth {pl : Sem Bool} (he : PE X o ta) (c : Cls X.K C) (hm : Meth X.K C m f) (F : FnOk X.prog X.w X.K X.mg X.base CX k f fd ps sp) (hr : Room k X.A) (hb : Binds X.K fd ps ds) (hd : Vals dvs ds) (hx : Passes CX X E) (ha : PA X (e :: es) t)
    (hst : starEach (e :: es) X.env = (false, eval e X.env) :: starEach es X.env := by rfl) (hpl : (backTo pos (starEach es X.env)).any (·.1) = false := by rfl)
    (ht : eval (.Call (.Attribute o m apos) (e :: es) [] pos) X.env = (do
      let ov ← eval o X.env
      standAt apos.atName
      let (f, first) ← holding [ov] (getMethod ov m pl)
      callWith pos f first (backTo pos (starEach (e :: es) X.env)) (backToKw pos (keywordEach [] X.env))) := by rfl) :
    PE X (.Call (.Attribute o m apos) (e :: es) [] pos) (tMeth C m sp dvs E ta t) := by
  intro pins s σ H Q I h
  refine PySem.W.methodCall_KW (pl := pl) (thn (he pins s σ H _ I h) fun u s1 ⟨x, H1, I1, rx, a, dx, fs, ex, ea, l, q⟩ => ?_) ht
  subst ex
  obtain rfl : u = Value.ref a := rx
  refine getmeth_ok I1 ea c hm l ?_
  refine PySem.W.callWith_K (first := [.ref a]) (h₀ := X.base) I.ok.mod.kin hm.kp (thn (ha pos pins s1 σ H1 _ I1 q) fun us s2 ⟨vs, H2, I2, r, q2⟩ => ⟨I2.kIn, ?_⟩) hst hpl
  exact run_fn (us := .ref a :: us) (vs := .ref a :: vs) F hr hb hd hx I2 (.cons rfl r) q2
/-- o.m() -/
theorem pe_meth0 {pl : Sem Bool} (he : PE X o ta) (c : Cls X.K C) (hm : Meth X.K C m f) (F : FnOk X.prog X.w X.K X.mg X.base CX k f fd ps sp) (hr : Room k X.A) (hb : Binds X.K fd ps ds) (hd : Vals dvs ds) (hx : Passes CX X E)
    (ht : eval (.Call (.Attribute o m apos) [] [] pos) X.env = (do
      let ov ← eval o X.env
      standAt apos.atName
      let (f, first) ← holding [ov] (getMethod ov m pl)
      callWith pos f first (backTo pos (starEach [] X.env)) (backToKw pos (keywordEach [] X.env))) := by rfl) :
    PE X (.Call (.Attribute o m apos) [] [] pos) (tMeth C m sp dvs E ta tNil) := by
  intro pins s σ H Q I h
  refine PySem.W.methodCall_KW (pl := pl) (thn (he pins s σ H _ I h) fun u s1 ⟨x, H1, I1, rx, a, dx, fs, ex, ea, l, q⟩ => ?_) ht
  subst ex
  obtain rfl : u = Value.ref a := rx
  refine getmeth_ok I1 ea c hm l ?_
  exact PySem.W.callWith_K0 (first := [.ref a]) I1.kIn hm.kp (run_fn (us := [.ref a]) (vs := [.ref a]) F hr hb hd hx I1 (.cons rfl .nil) q)

/-- what a class must have to be made -/
structure Mk (K : PySem.W.Frag) (C f : Addr) : Prop where
  makes : PySem.W.makesIn K C = true
  init : PySem.W.findIn K (.ref C) "__init__" = some (some (.ref f))
  fn : PySem.W.isFn K (.ref f) = true
  kp : PySem.W.keepIn K (.ref C) = true

theorem run_make {pins : List (Addr × Obj)} {σ : St} {H : Hp} {s : Shared} {Q : VK} {us : List Value} {vs : List V} (M : Mk X.K C f) (F : FnOk X.prog X.w X.K X.mg X.base CX k f fd ps sp) (hr : Room (k + 1) X.A) (hb : Binds X.K fd ps ds) (hd : Vals dvs ds)
    (hx : Passes CX X E) (I : Inv X pins σ H s) (r : Vals vs us)
    (h : ∀ x dx, H x = none → H dx = none → dx ≠ x → sp (.ref x :: (vs ++ dvs)) (upd (upd H dx (.own x)) x (.ins C dx [])) (fun v H2 => v = .non ∧ Q (.ref x) H2) E) :
    wpAny (model X.prog X.w) X.A (call (.ref C) us) (EP X pins σ Q) X.xe s := by
  have hq := h (s.heap.objs.size + 1) s.heap.objs.size (I.hok.fresh (Nat.le_succ _)) (I.hok.fresh (Nat.le_refl _)) (Nat.ne_of_lt (Nat.lt_succ_self _))
  have I2 := Inv.made (C := C) I
  have r2 : Vals (V.ref (s.heap.objs.size + 1) :: (vs ++ dvs)) (Value.ref (s.heap.objs.size + 1) :: (us ++ ds)) := .cons rfl (r.append hd)
  have hl : (Value.ref (s.heap.objs.size + 1) :: us ++ ds).length = ps.length := by
    have e := r2.length
    rw [F.len _ _ _ _ hq] at e
    exact e.symm
  refine wpAny_call (make_map (f := f) I.kIn M.makes M.init (beq_iff_eq.mp M.fn) (codeAny_mono (F.run _ X.stack _ _ ⟨Value.ref (s.heap.objs.size + 1) :: us, []⟩ (Value.ref (s.heap.objs.size + 1) :: (us ++ ds)) _ _ E (hr.make C us [])
    (I2.env0.make C us []) (hb _ (Value.ref (s.heap.objs.size + 1) :: us) I2.kIn hl) r2 hq) fun r s' hq' => ?_))
  cases r with
  | error e => exact hx pins σ _ _ e s' I2 hq'
  | ok fl =>
    cases fl with
    | ret u =>
      obtain ⟨v, H', I3, rv, ev, q3⟩ := I2.after hq'
      subst ev
      exact ⟨rv, ⟨V.ref (s.heap.objs.size + 1), H', I3, rfl, q3⟩⟩
    | next => exact False.elim hq'
    | brk => exact False.elim hq'
    | cont => exact False.elim hq'
theorem pe_make (M : Mk X.K C f) (F : FnOk X.prog X.w X.K X.mg X.base CX k f fd ps sp) (hr : Room (k + 1) X.A) (hg : Gl X x) (hm : X.mg x = some (.ref C)) (hb : Binds X.K fd ps ds) (hd : Vals dvs ds) (hx : Passes CX X E)
    (ha : PA X (e :: es) t) (hdb : (x == ("__debug__" : Str)) = false := by decide) (he : starEach (e :: es) X.env = (false, eval e X.env) :: starEach es X.env := by rfl) (hpl : (backTo pos (starEach es X.env)).any (·.1) = false := by rfl) :
    PE X (.Call (.Name x p) (e :: es) [] pos) (tMake C sp dvs E t) := by
  intro pins s σ H Q I h
  refine wpAny_Call_Name_kw (ld_glob I hg hm ?_ hdb)
  refine PySem.W.callWith_K (h₀ := X.base) I.ok.mod.kin M.kp (thn (ha pos pins s σ H _ I h) fun us s1 ⟨vs, H1, I1, r, q⟩ => ⟨I1.kIn, ?_⟩) he hpl
  exact run_make M F hr hb hd hx I1 r q
theorem pe_make0 (M : Mk X.K C f) (F : FnOk X.prog X.w X.K X.mg X.base CX k f fd ps sp) (hr : Room (k + 1) X.A) (hg : Gl X x) (hm : X.mg x = some (.ref C)) (hb : Binds X.K fd ps ds) (hd : Vals dvs ds) (hx : Passes CX X E)
    (hdb : (x == ("__debug__" : Str)) = false := by decide) : PE X (.Call (.Name x p) [] [] pos) (tMake C sp dvs E tNil) := by
  intro pins s σ H Q I h
  refine wpAny_Call_Name_kw (ld_glob I hg hm ?_ hdb)
  exact PySem.W.callWith_K0 I.kIn M.kp (run_make (us := []) M F hr hb hd hx I .nil h)
end

/-! ### keywords -/
/-- the values of the keywords, from the left -/
def PK (X : Cx) (kws : List Keyword) (t : TA) : Prop :=
  ∀ (pos : Pos) (pins : List (Addr × Obj)) (s : Shared) (σ : St) (H : Hp) (Q : List V → Hp → Prop), Inv X pins σ H s → t σ H Q → wpAny (model X.prog X.w) X.A (evalAll ((backToKw pos (keywordEach kws X.env)).map (·.2))) (AP X pins σ Q) X.xe s
section
variable {X : Cx} {CX : CXT} {k : Nat} {f C : Addr} {fd : FuncData} {ps ks : List Str} {sp : Sp} {E : XK} {x m : Str} {p pos apos kpos : Pos} {e o : Expr} {es : List Expr} {kws : List Keyword} {te ta : TE} {t tk : TA} {nm : Option Str}
theorem pk_nil : PK X [] tNil := fun _ _ _ _ H Q I h => wpAny_evalAll_nil ⟨[], H, I, .nil, h⟩
theorem pk_cons (ha : PE X e te) (hr : PK X kws t) : PK X (⟨nm, e, kpos⟩ :: kws) (tCons te t) := by
  intro pos pins s σ H Q I h
  show wpAny _ _ (evalAll ((do let v ← eval e X.env; standAt pos; pure v) :: (backToKw pos (keywordEach kws X.env)).map (·.2))) _ _ s
  refine wpAny_evalAll_cons (wpAny_bind (thn (ha pins s σ H _ I h) fun u s1 ⟨x, H1, I1, r1, q1⟩ => wpAny_bind (wpAny_standAt (wpAny_pure ?_))))
  exact thn (hr pos pins s1 σ H1 _ I1 q1) fun us s2 ⟨xs, H2, I2, r2, q2⟩ => ⟨x :: xs, H2, I2, .cons r1 r2, q2⟩

/-- how a call with keywords binds: g puts the positional values us and the keywords' values ws (names ks) in the parameters' order, defaults among them -/
structure KBinds (K : PySem.W.Frag) (fd : FuncData) (ps ks : List Str) (g : List Value → List Value → List Value) (gV : List V → List V → List V) : Prop where
  to : ∀ (s : Shared) (us ws : List Value), K.In s.heap → (g us ws).length = ps.length → BindsTo s fd ⟨us, ks.zip ws⟩ (ps.zip (g us ws))
  rel : ∀ {vs : List V} {us : List Value} {zs : List V} {ws : List Value}, Vals vs us → Vals zs ws → Vals (gV vs zs) (g us ws)
def tCallK (sp : Sp) (gV : List V → List V → List V) (E : XK) (t tk : TA) : TE := fun σ H Q => t σ H fun vs H1 => tk σ H1 fun zs H2 => sp (gV vs zs) H2 Q E
variable {g : List Value → List Value → List Value} {gV : List V → List V → List V}
theorem run_fnk {pins : List (Addr × Obj)} {σ : St} {H : Hp} {s : Shared} {Q : VK} {us ws : List Value} {vs zs : List V} (F : FnOk X.prog X.w X.K X.mg X.base CX k f fd ps sp) (hr : Room k X.A) (hb : KBinds X.K fd ps ks g gV) (hx : Passes CX X E)
    (I : Inv X pins σ H s) (r : Vals vs us) (rz : Vals zs ws) (h : sp (gV vs zs) H Q E) : wpAny (model X.prog X.w) X.A (call (.ref f) us (ks.zip ws)) (EP X pins σ Q) X.xe s := by
  have r2 := hb.rel r rz
  have hl : (g us ws).length = ps.length := by rw [← r2.length]; exact F.len _ _ _ _ h
  refine wpAny_call (codeAny_mono (F.run X.A X.stack s H ⟨us, ks.zip ws⟩ (g us ws) (gV vs zs) Q E hr I.env0 (hb.to s us ws I.kIn hl) r2 h) fun r s' hq => ?_)
  cases r with
  | error e => exact hx pins σ H s e s' I hq
  | ok fl =>
    cases fl with
    | ret u => exact I.after hq
    | next => exact False.elim hq
    | brk => exact False.elim hq
    | cont => exact False.elim hq
/-- f(e, .., k = v, ..) -/
theorem pe_callK (F : FnOk X.prog X.w X.K X.mg X.base CX k f fd ps sp) (hr : Room k X.A) (hg : Gl X x) (hm : X.mg x = some (.ref f)) (hk : PySem.W.keepIn X.K (.ref f) = true) (hb : KBinds X.K fd ps ks g gV) (hx : Passes CX X E)
    (ha : PA X (e :: es) t) (hkw : PK X kws tk) (hall : (backToKw pos (keywordEach kws X.env)).all (·.1.isSome) = true := by rfl) (hks : (backToKw pos (keywordEach kws X.env)).filterMap (·.1) = ks := by rfl)
    (hdb : (x == ("__debug__" : Str)) = false := by decide) (he : starEach (e :: es) X.env = (false, eval e X.env) :: starEach es X.env := by rfl)
    (hpl : ((backTo pos (starEach (e :: es) X.env)).any (·.1) || (backToKw pos (keywordEach kws X.env)).any (·.1.isNone)) = false := by rfl) :
    PE X (.Call (.Name x p) (e :: es) kws pos) (tCallK sp gV E t tk) := by
  intro pins s σ H Q I h
  refine wpAny_Call_Name_kw (ld_glob I hg hm ?_ hdb)
  refine PySem.W.callWith_KW (h₀ := X.base) I.ok.mod.kin hk hall (thn (ha pos pins s σ H _ I h) fun us s1 ⟨vs, H1, I1, r, q⟩ => ?_) hpl he
  refine thn (hkw pos pins s1 σ H1 _ I1 q) fun ws s2 ⟨zs, H2, I2, rz, q2⟩ => ⟨I2.kIn, ?_⟩
  rw [hks]
  exact run_fnk F hr hb hx I2 r rz q2
end

/-! ### a def's body keeps its promise -/
/-- names: the parameters first -/
structure FnScope (N P : List Str) (sc : Scope) : Prop where
  kind : sc.kind = .function
  co : sc.isCoroutine = false
  gen : sc.isGenerator = false
  nd : N.Nodup
  pre : N.take P.length = P
  par : ∀ x ∈ P, sc.names.lookup x = some .local ∨ sc.names.lookup x = some .cell
  nofree : ∀ y ∈ sc.names, y.2 ≠ .free

theorem bindL_out {kindOf : Str → Option NameKind} {x : Str} : ∀ {binds : List (Str × Value)} {m : Str → Option Value}, (∀ v, (x, v) ∉ binds) → bindL kindOf binds m x = m x
  | [], _, _ => rfl
  | (n, v) :: r, m, h => by
    unfold bindL
    rw [bindL_out fun w hw => h w (List.mem_cons_of_mem _ hw)]
    split
    · have : x ≠ n := by rintro rfl; exact h v List.mem_cons_self
      simp [this]
    · rfl
theorem bindC_out {kindOf : Str → Option NameKind} {x : Str} : ∀ {binds : List (Str × Value)} {m : Str → Option Value}, (∀ v, (x, v) ∉ binds) → bindC kindOf binds m x = m x
  | [], _, _ => rfl
  | (n, v) :: r, m, h => by
    unfold bindC
    rw [bindC_out fun w hw => h w (List.mem_cons_of_mem _ hw)]
    split
    · rfl
    · have : x ≠ n := by rintro rfl; exact h v List.mem_cons_self
      simp [this]
theorem bindL_get {kindOf : Str → Option NameKind} {x : Str} {v : Value} : ∀ {P : List Str} {vs : List Value} {i : Nat} {m : Str → Option Value}, P.Nodup → P[i]? = some x → vs[i]? = some v → kindOf x = some .local →
    bindL kindOf (P.zip vs) m x = some v
  | [], _, _, _, _, h, _, _ => by simp at h
  | _ :: _, [], _, _, _, _, h, _ => by simp at h
  | p :: P, w :: vs, 0, m, nd, h1, h2, hk => by
    simp at h1 h2; subst h1; subst h2
    show bindL kindOf ((p, w) :: P.zip vs) m p = _
    unfold bindL
    rw [bindL_out fun v hv => (List.nodup_cons.mp nd).1 (List.of_mem_zip hv).1, if_pos hk]
    simp
  | p :: P, w :: vs, i + 1, m, nd, h1, h2, hk => by
    show bindL kindOf ((p, w) :: P.zip vs) m x = _
    unfold bindL
    exact bindL_get (i := i) (List.nodup_cons.mp nd).2 (by simpa using h1) (by simpa using h2) hk
theorem bindC_get {kindOf : Str → Option NameKind} {x : Str} {v : Value} : ∀ {P : List Str} {vs : List Value} {i : Nat} {m : Str → Option Value}, P.Nodup → P[i]? = some x → vs[i]? = some v → kindOf x ≠ some .local →
    bindC kindOf (P.zip vs) m x = some v
  | [], _, _, _, _, h, _, _ => by simp at h
  | _ :: _, [], _, _, _, _, h, _ => by simp at h
  | p :: P, w :: vs, 0, m, nd, h1, h2, hk => by
    simp at h1 h2; subst h1; subst h2
    show bindC kindOf ((p, w) :: P.zip vs) m p = _
    unfold bindC
    rw [bindC_out fun v hv => (List.nodup_cons.mp nd).1 (List.of_mem_zip hv).1, if_neg hk]
    simp
  | p :: P, w :: vs, i + 1, m, nd, h1, h2, hk => by
    show bindC kindOf ((p, w) :: P.zip vs) m x = _
    unfold bindC
    exact bindC_get (i := i) (List.nodup_cons.mp nd).2 (by simpa using h1) (by simpa using h2) hk

/-- the names' values at the entry -/
def start (N : List Str) (vs : List V) : St := vs.map some ++ List.replicate (N.length - vs.length) none

/-- the context of a def's body, at its entry; an exception leaves the frame, then lies as CX says -/
def cxOf (CX : CXT) (P : Program) (w : World) (K : PySem.W.Frag) (mg : Str → Option Value) (base : Heap) (N : List Str) (qual : Str) (scope : Scope) (f : Addr) (cd : Value) (A : Around) (outer : List Env) (s : Shared) (H : Hp) (E : XK) : Cx where
  prog := P
  w := w
  K := K
  mg := mg
  base := base
  A := A.deeper (envOfC qual scope s.heap.objs.size f cd)
  N := N
  s₀ := s
  H₀ := H
  env := envOfC qual scope s.heap.objs.size f cd
  outer := outer
  stack := envOfC qual scope s.heap.objs.size f cd :: outer
  ex := []
  calm := true
  fn := fun _ => true
  pn := []
  xe := fun e s' => wpAny (model P w) (A.deeper (envOfC qual scope s.heap.objs.size f cd)) (leaving (envOfC qual scope s.heap.objs.size f cd) e) (fun _ s'' => CX outer H s E e s'') (fun e' s'' => CX outer H s E e' s'') s'

theorem cell_has {sc : Scope} {n : Nat} {x : Str} (h : sc.names.lookup x = some .cell) : ∃ c, (cellsFrom n sc.names []).lookup x = some c := by
  have q := PySem.W.cellsFrom_some sc.names n [] (.inl h)
  exact Option.isSome_iff_exists.mp q

theorem inv_start {CX : CXT} {P : Program} {w : World} {K : PySem.W.Frag} {mg : Str → Option Value} {base : Heap} {N ps : List Str} {qual : Str} {scope : Scope} {f : Addr} {cd : Value} {A : Around} {outer : List Env} {s s1 : Shared} {H : Hp} {E : XK} {us : List Value} {vs : List V}
    (S : FnScope N ps scope) (hd : A.handled = none) (e0 : Env0 P w K mg base A outer s H) (hl : vs.length = ps.length) (r : Vals vs us)
    (x : InCallC s s.heap.objs.size (bindL (envOfC qual scope s.heap.objs.size f cd).kindOf (ps.zip us) fun _ => none) (cellsFrom (s.heap.objs.size + 1) scope.names []) (bindC (envOfC qual scope s.heap.objs.size f cd).kindOf (ps.zip us) fun _ => none) s1) :
    Inv (cxOf CX P w K mg base N qual scope f cd A outer s H E) [] (start N vs) H s1 := by
  have hpl : ps.length ≤ N.length := by have := congrArg List.length S.pre; rw [List.length_take] at this; omega
  obtain ⟨h1, tk, rfl, hk⟩ := x.done
  have noA : ∀ b : Addr, b ∉ (cxOf CX P w K mg base N qual scope f cd A outer s H E).ex := fun b z => absurd (show b ∈ ([] : List Addr) from z) (by simp)
  refine ⟨⟨e0.mod, S.kind, rfl, rfl, Nat.le_refl _, fun y z c h1 h2 => ?_, fun y hy => ?_, fun y c _ h => ?_, fun _ => hd, Around.frames_deeper e0.frames, .inr ⟨rfl, rfl⟩, fun b z => absurd z (noA b), e0.bs, e0.bsz, fun b _ _ => noA b, fun b z => absurd z (noA b), e0.funs, e0.frf⟩,
    rfl, e0.bare, Un.kept hk, ⟨_, x.toInCall.ns, fun i y v h1 h2 h3 => ?_⟩, fun y c h => ⟨_, x.cell y c h⟩, e0.hok.fresh (Nat.le_refl _), fun y c h => ?_, fun p hp => absurd (show p ∈ ([] : List (Addr × Obj)) from hp) (by simp), e0.hok.kept hk, ?_⟩
  · exact name_of_addr x.apart (PySem.mem_of_lookup h1) (PySem.mem_of_lookup h2)
  · have hy : scope.names.lookup y = some .cell ∨ scope.names.lookup y = some .free := hy
    rcases hy with hy | hy
    · exact cell_has hy
    · exact absurd rfl (S.nofree _ (PySem.mem_of_lookup hy))
  · exact Nat.le_of_lt (x.above y c (PySem.mem_of_lookup h))
  · have hi : i < vs.length := by
      unfold start at h2
      by_cases hi : i < vs.length
      · exact hi
      · rw [List.getElem?_append_right (by simpa using hi)] at h2
        rw [List.getElem?_replicate] at h2
        split at h2 <;> cases h2
    have ha : vs[i]? = some v := by
      unfold start at h2
      rw [List.getElem?_append_left (by simpa using hi), List.getElem?_map] at h2
      cases e : vs[i]? with
      | none => rw [e] at h2; cases h2
      | some a => rw [e] at h2; cases h2; rfl
    obtain ⟨u, hu, rv⟩ := r.get ha
    have hp : ps[i]? = some y := by
      rw [← S.pre, List.getElem?_take_of_lt (by omega)]; exact h1
    have ndP : ps.Nodup := by rw [← S.pre]; exact S.nd.sublist (List.take_sublist _ _)
    refine ⟨u, rv, ?_⟩
    rcases S.par y (List.mem_of_getElem? hp) with k | k
    · exact .inl ⟨k, bindL_get ndP hp hu k⟩
    · obtain ⟨c, e⟩ := cell_has (n := s.heap.objs.size + 1) k
      refine .inr ⟨.inl k, c, e, ?_⟩
      have q := x.cell y c e
      rw [bindC_get ndP hp hu (by show scope.names.lookup y ≠ _; rw [k]; decide)] at q
      exact q
  · exact e0.hok.fresh (Nat.le_of_lt (x.above y c (PySem.mem_of_lookup h)))
  · unfold start
    show _ = N.length
    rw [List.length_append, List.length_map, List.length_replicate]
    omega

/-- THE RULE: a def (or a method) of the text, by its body. The body's reading t is chosen for each entry; it is run at the parameters' values -/
theorem fn_of {CX : CXT} {P : Program} {w : World} {K : PySem.W.Frag} {mg : Str → Option Value} {base : Heap} {k : Nat} {f : Addr} {name qual : Str} {params : Arguments} {body : List Stmt} {scope : Scope} {dV kV doc pm cdv ct oc : Value} {an od : Option Addr}
    {osl : Array (Option Value)} {N ps : List Str} {sp : Sp} (lk : K.lookup f = some ⟨oc, od, .func (PySem.W.fnOf name qual params body scope dV kV doc pm an cdv ct), osl⟩) (hcd : PySem.W.codeIn K cdv qual = true) (S : FnScope N ps scope)
    (len : ∀ vs H Q E, sp vs H Q E → vs.length = ps.length)
    (hbody : ∀ (A : Around) (outer : List Env) (s : Shared) (H : Hp) (vs : List V) (Q : VK) (E : XK), Room k (A.deeper (envOfC qual scope s.heap.objs.size f cdv)) → sp vs H Q E →
      ∃ t, PSs (cxOf CX P w K mg base N qual scope f cdv A outer s H E) body t ∧ t { nx := fun _ H' => Q .non H', rt := Q } (start N vs) H) :
    FnOk P w K mg base CX (k + 1) f (PySem.W.fnOf name qual params body scope dV kV doc pm an cdv ct) ps sp := by
  refine ⟨len, fun A outer s H args us vs Q E hr e0 hb r hsp => ?_⟩
  have hl := len _ _ _ _ hsp
  have KX : K.In s.heap := e0.mod.kin.keeps fun b o e => (e0.bs b o e).1
  have lim : s.heap.NoLimit := e0.mod.nolimit.keeps fun b o e => (e0.bs b o e).1
  have hkind : ∀ y ∈ ps.zip us, scope.names.lookup y.1 = some .local ∨ (scope.names.lookup y.1 = some .cell ∧ ((cellsFrom (s.heap.objs.size + 1) scope.names []).lookup y.1).isSome = true) := fun ⟨n, v⟩ hy => by
    rcases S.par n (List.of_mem_zip hy).1 with q | q
    · exact .inl q
    · exact .inr ⟨q, PySem.W.cellsFrom_some _ _ _ (.inl q)⟩
  refine codeAny_call_function hr.depth (KX _ _ lk) rfl S.co S.gen rfl (PySem.W.codeRec_of KX hcd) (hb _ _ _ _ ?_)
  refine wpAny_newFunctionEnv_cells S.kind hkind fun env he s1 x => ?_
  subst he
  refine ⟨lim.keeps x.toInCall.keep, codeAny_func ?_⟩
  obtain ⟨t, ht, hq⟩ := hbody A outer s H vs Q E (hr.deeper _) hsp
  have I : Inv (cxOf CX P w K mg base N qual scope f cdv A outer s H E) [] (start N vs) H s1 := inv_start S hr.hd e0 hl r x
  refine wpAny_mono (ht [] s1 (start N vs) H _ I hq) (fun fl s' hs => ?_) fun e s' hs => hs
  have fin : ∀ {σ' : St} {H' : Hp} {v : V} {u : Value}, Inv (cxOf CX P w K mg base N qual scope f cdv A outer s H E) [] σ' H' s' → RelV v u → Q v H' → CE outer P w H s Q u s' :=
    fun {σ' H' v u} J rv q => ⟨v, H', J.os, J.bare, J.base, J.hok, rv, q⟩
  cases fl with
  | ret u =>
    obtain ⟨v, σ', H', J, rv, q⟩ := hs
    exact fin J rv q
  | next =>
    obtain ⟨σ', H', J, q⟩ := hs
    exact fin (v := V.non) (u := Value.none) J rfl q
  | brk =>
    obtain ⟨_, _, _, q⟩ := hs
    exact False.elim q
  | cont =>
    obtain ⟨_, _, _, q⟩ := hs
    exact False.elim q
end L2

namespace L2
open PySem PySem.Spec PyProof.Rows
section
variable {X : Cx} {x : Str} {p pos : Pos} {e : Expr} {es : List Expr} {t : TA} {id T : String} {r : List V → Hp → VK → Prop}

def tCB (r : List V → Hp → VK → Prop) (t : TA) : TE := fun σ H Q => t σ H fun vs H1 => r vs H1 Q
/-- f(e, ..), f a built-in function -/
theorem pe_callB (hc : CallR X (.builtin id) r) (hg : Gl X x) (hm : X.mg x = none) (hv : bootBuiltins x = some (.builtin id)) (ha : PA X (e :: es) t) (hn : x ≠ "__name__" := by decide) (hdb : (x == ("__debug__" : Str)) = false := by decide)
    (he : starEach (e :: es) X.env = (false, eval e X.env) :: starEach es X.env := by rfl) (hpl : (backTo pos (starEach es X.env)).any (·.1) = false := by rfl) : PE X (.Call (.Name x p) (e :: es) [] pos) (tCB r t) := by
  intro pins s σ H Q I h
  refine wpAny_Call_Name_kw (ld_blt I hg hm hv ?_ hn hdb)
  exact PyProof.Rows.callWith_builtin1 (thn (ha pos pins s σ H _ I h) fun us s1 ⟨vs, H1, I1, r1, q1⟩ => hc pins s1 σ H1 vs us Q I1 r1 q1) he hpl
/-- T(e, ..), T a built-in type -/
theorem pe_callTy (hc : CallR X (.type T) r) (hg : Gl X x) (hm : X.mg x = none) (hv : bootBuiltins x = some (.type T)) (ha : PA X (e :: es) t) (hn : x ≠ "__name__" := by decide) (hdb : (x == ("__debug__" : Str)) = false := by decide)
    (he : starEach (e :: es) X.env = (false, eval e X.env) :: starEach es X.env := by rfl) (hpl : (backTo pos (starEach es X.env)).any (·.1) = false := by rfl) : PE X (.Call (.Name x p) (e :: es) [] pos) (tCB r t) := by
  intro pins s σ H Q I h
  refine wpAny_Call_Name_kw (ld_blt I hg hm hv ?_ hn hdb)
  exact PyProof.Rows.callWith_type1 (thn (ha pos pins s σ H _ I h) fun us s1 ⟨vs, H1, I1, r1, q1⟩ => hc pins s1 σ H1 vs us Q I1 r1 q1) he hpl
/-- T() -/
theorem pe_callTy0 (hc : CallR X (.type T) r) (hg : Gl X x) (hm : X.mg x = none) (hv : bootBuiltins x = some (.type T)) (hn : x ≠ "__name__" := by decide) (hdb : (x == ("__debug__" : Str)) = false := by decide) :
    PE X (.Call (.Name x p) [] [] pos) (tCB r tNil) := by
  intro pins s σ H Q I h
  refine wpAny_Call_Name_kw (ld_blt I hg hm hv ?_ hn hdb)
  exact PyProof.Rows.callWith_type0 (hc pins s σ H [] [] Q I .nil h)
end
end L2

namespace L2
open PySem PySem.Spec PyProof.Rows

/-! ### lists of pairs as tables -/
section
variable {κ : Type} [DecidableEq κ]
def valV (kvs : List (κ × V)) (k : κ) : Option V := (kvs.find? fun kv => decide (kv.1 = k)).map (·.2)
/-- in its place, or at the end -/
def putK (kvs : List (κ × V)) (k : κ) (v : V) : List (κ × V) :=
  if (kvs.any fun kv => decide (kv.1 = k)) = true then kvs.map (fun kv => if kv.1 = k then (kv.1, v) else kv) else kvs ++ [(k, v)]
def dropK (kvs : List (κ × V)) (k : κ) : List (κ × V) := kvs.filter fun kv => decide (kv.1 ≠ k)

theorem valV_nil {k : κ} : valV ([] : List (κ × V)) k = none := rfl
theorem valV_pos {p : κ × V} {r : List (κ × V)} {k : κ} (e : p.1 = k) : valV (p :: r) k = some p.2 := by simp [valV, List.find?_cons, e]
theorem valV_neg {p : κ × V} {r : List (κ × V)} {k : κ} (e : ¬ p.1 = k) : valV (p :: r) k = valV r k := by simp [valV, List.find?_cons, e]
theorem valV_any (k : κ) : ∀ kvs : List (κ × V), (kvs.any fun kv => decide (kv.1 = k)) = (valV kvs k).isSome
  | [] => rfl
  | p :: r => by
    rw [List.any_cons]
    by_cases e : p.1 = k
    · simp only [valV_pos e, decide_eq_true e, Bool.true_or, Option.isSome_some]
    · rw [valV_neg e, decide_eq_false e, Bool.false_or]; exact valV_any k r
theorem valV_map (k j : κ) (y : V) : ∀ kvs : List (κ × V), valV (kvs.map fun kv => if kv.1 = k then (kv.1, y) else kv) j = (valV kvs j).map fun x => if j = k then y else x
  | [] => rfl
  | p :: r => by
    have ih := valV_map k j y r
    rw [List.map_cons]
    by_cases h : p.1 = k
    · rw [if_pos h]
      by_cases e : p.1 = j
      · rw [valV_pos (p := (p.1, y)) e, valV_pos e, Option.map_some, if_pos (e.symm.trans h)]
      · rw [valV_neg (p := (p.1, y)) e, valV_neg e, ih]
    · rw [if_neg h]
      by_cases e : p.1 = j
      · rw [valV_pos (p := p) e, valV_pos e, Option.map_some, if_neg (fun z => h (e.trans z))]
      · rw [valV_neg (p := p) e, valV_neg e, ih]
theorem valV_snoc (k j : κ) (y : V) : ∀ kvs : List (κ × V), valV kvs k = none → valV (kvs ++ [(k, y)]) j = if j = k then some y else valV kvs j
  | [], _ => by
    by_cases e : k = j
    · rw [if_pos e.symm]; exact valV_pos (p := (k, y)) e
    · rw [if_neg (fun z => e z.symm)]; exact valV_neg (p := (k, y)) e
  | p :: r, hn => by
    rw [List.cons_append]
    have hk : ¬ p.1 = k := fun z => by rw [valV_pos z] at hn; cases hn
    rw [valV_neg hk] at hn
    have ih := valV_snoc k j y r hn
    by_cases e : p.1 = j
    · rw [valV_pos e, valV_pos e, if_neg (fun z => hk (e.trans z))]
    · rw [valV_neg e, valV_neg e, ih]
theorem valV_put (kvs : List (κ × V)) (k j : κ) (y : V) : valV (putK kvs k y) j = if j = k then some y else valV kvs j := by
  unfold putK
  by_cases a : (kvs.any fun kv => decide (kv.1 = k)) = true
  · rw [if_pos a, valV_map]
    rw [valV_any] at a
    by_cases e : j = k
    · obtain ⟨x, hx⟩ := Option.isSome_iff_exists.mp a
      rw [if_pos e, e, hx, Option.map_some, if_pos rfl]
    · rw [if_neg e]
      cases valV kvs j with
      | none => rfl
      | some x => rw [Option.map_some, if_neg e]
  · rw [if_neg a]
    refine valV_snoc k j y kvs ?_
    rw [valV_any] at a
    cases q : valV kvs k with
    | none => rfl
    | some x => rw [q] at a; exact (a rfl).elim
theorem length_putK (kvs : List (κ × V)) (k : κ) (v : V) : (putK kvs k v).length ≤ kvs.length + 1 := by
  unfold putK
  split
  · rw [List.length_map]; omega
  · rw [List.length_append, List.length_cons, List.length_nil]; omega
theorem putK_new {kvs : List (κ × V)} {k : κ} (v : V) (h : valV kvs k = none) : putK kvs k v = kvs ++ [(k, v)] := by
  unfold putK
  rw [valV_any, h]
  exact if_neg (by decide)

theorem RelO.isSome_eq {o : Option V} {u : Option Value} (r : RelO o u) : o.isSome = u.isSome := by
  cases o with
  | none => cases u with
    | none => rfl
    | some _ => exact (show False from r).elim
  | some _ => cases u with
    | none => exact (show False from r).elim
    | some _ => rfl
theorem RelO.getD {o : Option V} {u : Option Value} {d : V} {d' : Value} (r : RelO o u) (rd : RelV d d') : RelV (o.getD d) (u.getD d') := by
  cases o with
  | none => cases u with
    | none => exact rd
    | some _ => exact (show False from r).elim
  | some _ => cases u with
    | none => exact (show False from r).elim
    | some _ => exact r

/-- raw tables of the same keys -/
theorem KV.val {kvs : List (κ × V)} {vs : List (κ × Value)} (r : KV kvs vs) (k : κ) : RelO (valV kvs k) (valueAt vs k) := by
  unfold KV at r
  induction r with
  | nil => exact True.intro
  | @cons p q ps qs h t ih =>
    obtain ⟨h1, h2⟩ := h
    by_cases e : p.1 = k
    · have e' : q.1 = k := h1.symm.trans e
      have b : valueAt (q :: qs) k = some q.2 := by simp [valueAt, List.find?_cons, e']
      rw [valV_pos e, b]; exact h2
    · have e' : ¬ q.1 = k := fun z => e (h1.trans z)
      have b : valueAt (q :: qs) k = valueAt qs k := by simp [valueAt, List.find?_cons, e']
      rw [valV_neg e, b]; exact ih
theorem KV.any {kvs : List (κ × V)} {vs : List (κ × Value)} (r : KV kvs vs) (k : κ) : (kvs.any fun kv => decide (kv.1 = k)) = vs.any fun kv => decide (kv.1 = k) := by
  unfold KV at r
  induction r with
  | nil => rfl
  | cons h t ih => rw [List.any_cons, List.any_cons, ih, h.1]
theorem KV.repl {kvs : List (κ × V)} {vs : List (κ × Value)} (r : KV kvs vs) (k : κ) {y : V} {u : Value} (ry : RelV y u) :
    KV (kvs.map fun kv => if kv.1 = k then (kv.1, y) else kv) (vs.map fun kv => if kv.1 = k then (kv.1, u) else kv) := by
  unfold KV at r ⊢
  induction r with
  | nil => exact .nil
  | @cons p q ps qs h t ih =>
    rw [List.map_cons, List.map_cons]
    refine .cons ?_ ih
    obtain ⟨h1, h2⟩ := h
    by_cases e : p.1 = k
    · rw [if_pos e, if_pos (h1.symm.trans e)]; exact ⟨h1, ry⟩
    · rw [if_neg e, if_neg (fun z => e (h1.trans z))]; exact ⟨h1, h2⟩
theorem KV.put {kvs : List (κ × V)} {vs : List (κ × Value)} (r : KV kvs vs) (k : κ) {y : V} {u : Value} (ry : RelV y u) : KV (putK kvs k y) (stored vs k u) := by
  unfold putK stored
  rw [r.any k]
  by_cases e : (vs.any fun kv => decide (kv.1 = k)) = true
  · rw [if_pos e, if_pos e]; exact r.repl k ry
  · rw [if_neg e, if_neg e]; exact Paired.snoc r ⟨rfl, ry⟩
theorem KV.drop {kvs : List (κ × V)} {vs : List (κ × Value)} (r : KV kvs vs) (k : κ) : KV (dropK kvs k) (without vs k) := by
  unfold KV at r ⊢
  unfold dropK without
  induction r with
  | nil => exact .nil
  | @cons p q ps qs h t ih =>
    obtain ⟨h1, h2⟩ := h
    rw [List.filter_cons, List.filter_cons]
    by_cases e : p.1 = k
    · have a : ¬ decide (p.1 ≠ k) = true := by simp [e]
      have b : ¬ decide (q.1 ≠ k) = true := by simp [h1.symm.trans e]
      rw [if_neg a, if_neg b]; exact ih
    · have e' : ¬ q.1 = k := fun z => e (h1.trans z)
      have a : decide (p.1 ≠ k) = true := by simp [e]
      have b : decide (q.1 ≠ k) = true := by simp [e']
      rw [if_pos a, if_pos b]; exact .cons ⟨h1, h2⟩ ih
theorem KV.keys {kvs : List (κ × V)} {vs : List (κ × Value)} (r : KV kvs vs) : kvs.map (·.1) = vs.map (·.1) := by
  unfold KV at r
  induction r with
  | nil => rfl
  | cons h t ih => rw [List.map_cons, List.map_cons, ih, h.1]
theorem KV.length {kvs : List (κ × V)} {vs : List (κ × Value)} (r : KV kvs vs) : kvs.length = vs.length := Paired.length r
theorem dropK_le (kvs : List (κ × V)) (k : κ) : (dropK kvs k).length ≤ kvs.length := List.length_filter_le _ _
end


/-! ### a tracked dict, its keys ints and texts or tuples of these -/
theorem kV_is {P : Program} {w : World} {k : Key} {u : Value} (r : RelV (kV k) u) : (mixKind P w).is k u = true := by
  cases k with
  | inl i => obtain ⟨t, e⟩ := (show ∃ t, u = Value.int i t from r); subst e; exact mixKind_int P w i t
  | inr x => obtain ⟨t, e⟩ := (show ∃ t, u = Value.str x t from r); subst e; exact mixKind_str P w x t
theorem kV_inj {a b : Key} (e : kV a = kV b) : a = b := by
  cases a with
  | inl i => cases b with
    | inl j => have e' : V.int i = V.int j := e; injection e' with e'; rw [e']
    | inr y => exact nomatch (show V.int i = V.str y from e)
  | inr x => cases b with
    | inl j => exact nomatch (show V.str x = V.int j from e)
    | inr y => have e' : V.str x = V.str y := e; injection e' with e'; rw [e']
theorem kVs_inj : ∀ {a b : List Key}, a.map kV = b.map kV → a = b
  | [], [], _ => rfl
  | [], _ :: _, e => by simp at e
  | _ :: _, [], e => by simp at e
  | x :: xs, y :: ys, e => by
    rw [List.map_cons, List.map_cons] at e
    injection e with e1 e2
    rw [kV_inj e1, kVs_inj e2]
theorem items_are {P : Program} {w : World} : ∀ {ks : List Key} {us : List Value}, Vals (ks.map kV) us → ItemsAre (mixKind P w) ks us
  | [], _, r => by rw [List.map_nil] at r; cases r; exact .nil
  | k :: ks, _, r => by
    rw [List.map_cons] at r
    cases r with
    | cons h t => exact .cons (kV_is h) (items_are t)

/-- raw entries of a dict with tuple keys -/
abbrev KT (H : Hp) : List (List Key × V) → List (List Key × Addr × Value) → Prop := Paired fun p q => p.1 = q.1 ∧ H q.2.1 = some (.tup (p.1.map kV)) ∧ RelV p.2 q.2.2
theorem KT.val {H : Hp} {kvs : List (List Key × V)} {xs : List (List Key × Addr × Value)} (r : KT H kvs xs) (k : List Key) : RelO (valV kvs k) ((atKey xs k).map (·.2)) := by
  induction r with
  | nil => exact True.intro
  | @cons p q ps qs h t ih =>
    obtain ⟨h1, _, h2⟩ := h
    by_cases e : p.1 = k
    · have e' : q.1 = k := h1.symm.trans e
      have b : atKey (q :: qs) k = some q.2 := by simp [atKey, List.find?_cons, e']
      rw [valV_pos e, b]; exact h2
    · have e' : ¬ q.1 = k := fun z => e (h1.trans z)
      have b : atKey (q :: qs) k = atKey qs k := by simp [atKey, List.find?_cons, e']
      rw [valV_neg e, b]; exact ih
theorem KT.repl {H : Hp} {kvs : List (List Key × V)} {xs : List (List Key × Addr × Value)} (r : KT H kvs xs) (k : List Key) {y : V} {u : Value} (ry : RelV y u) :
    KT H (kvs.map fun kv => if kv.1 = k then (kv.1, y) else kv) (xs.map (putAt k u)) := by
  induction r with
  | nil => exact .nil
  | @cons p q ps qs h t ih =>
    rw [List.map_cons, List.map_cons]
    refine .cons ?_ ih
    obtain ⟨h1, h2, h3⟩ := h
    unfold putAt
    by_cases e : p.1 = k
    · rw [if_pos e, if_pos (h1.symm.trans e)]; exact ⟨h1, h2, ry⟩
    · rw [if_neg e, if_neg (fun z => e (h1.trans z))]; exact ⟨h1, h2, h3⟩
theorem KT.put {H : Hp} {kvs : List (List Key × V)} {xs : List (List Key × Addr × Value)} (r : KT H kvs xs) (k : List Key) {b : Addr} {y : V} {u : Value} (hb : H b = some (.tup (k.map kV))) (ry : RelV y u) :
    KT H (putK kvs k y) (storedH xs k b u) := by
  have e : (kvs.any fun kv => decide (kv.1 = k)) = (atKey xs k).isSome := by
    rw [valV_any, (r.val k).isSome_eq, Option.isSome_map]
  unfold putK storedH
  rw [e]
  by_cases q : (atKey xs k).isSome = true
  · rw [if_pos q, if_pos q]; exact r.repl k ry
  · rw [if_neg q, if_neg q]; exact Paired.snoc r ⟨rfl, hb, ry⟩
theorem KT.keeps {H H' : Hp} {kvs : List (List Key × V)} {xs : List (List Key × Addr × Value)} (r : KT H kvs xs) (ht : ∀ b ys, H b = some (.tup ys) → H' b = some (.tup ys)) : KT H' kvs xs :=
  Paired.mapP r fun _ _ z => ⟨z.1, ht _ _ z.2.1, z.2.2⟩

section
variable {P : Program} {w : World} {H : Hp} {h : Heap} {a : Addr}
theorem rd_of {u : HO} (ok : HOk P w H h) (e : Rd H a u) : ObjOk P w H h a u := e.ok ok
theorem dk_rd {kvs : List (Key × V)} (ok : HOk P w H h) (e : Rd H a (.dK kvs)) : kvs.length ≤ sizeLine ∧ (a == sysModules) = false ∧ ∃ vs, KV kvs vs ∧ h.DictOf (mixKind P w) a vs :=
  show ObjOk P w H h a (.dK kvs) from rd_of ok e
theorem dk_of {kvs : List (Key × V)} (ok : HOk P w H h) (e : H a = some (.dK kvs)) : kvs.length ≤ sizeLine ∧ (a == sysModules) = false ∧ ∃ vs, KV kvs vs ∧ h.DictOf (mixKind P w) a vs := dk_rd ok (.inl e)
/-- a tracked tuple of ints and texts is a key -/
theorem key_of {ks : List Key} (ok : HOk P w H h) (e : H a = some (.tup (ks.map kV))) : (tupleKind (mixKind P w)).is h ks a := by
  obtain ⟨_, its, r, o, h1, h2, n, h3⟩ := (show ObjOk P w H h a (.tup (ks.map kV)) from ok a _ e)
  exact ⟨o, its.toArray, n, h1, h2, h3, by simpa using items_are r⟩
theorem dt_rd {kvs : List (List Key × V)} (ok : HOk P w H h) (e : Rd H a (.dT kvs)) : kvs.length ≤ sizeLine ∧ (a == sysModules) = false ∧
    ∃ xs, KT H kvs xs ∧ h.DictOfH (tupleKind (mixKind P w)) a xs := by
  obtain ⟨z, y, xs, r, o, es, ep, h1, h2, h3, h4, h5⟩ := (show ObjOk P w H h a (.dT kvs) from rd_of ok e)
  refine ⟨z, y, xs, r, o, es, ep, h1, h2, h3, h4, fun x hx => ?_, h5⟩
  have all : ∀ {l : List (List Key × V)} {m : List (List Key × Addr × Value)}, KT H l m → ∀ x ∈ m, (tupleKind (mixKind P w)).is h x.1 x.2.1 := by
    intro l m q
    induction q with
    | nil => intro x hx; exact nomatch hx
    | @cons p q ps qs hq t ih =>
      intro x hx
      rcases List.mem_cons.mp hx with e | hx
      · subst e
        exact key_of ok (by rw [← hq.1]; exact hq.2.1)
      · exact ih x hx
  exact all r x hx
theorem dt_of {kvs : List (List Key × V)} (ok : HOk P w H h) (e : H a = some (.dT kvs)) : kvs.length ≤ sizeLine ∧ (a == sysModules) = false ∧
    ∃ xs, KT H kvs xs ∧ h.DictOfH (tupleKind (mixKind P w)) a xs := dt_rd ok (.inl e)
end

/-- what the dict at a holds at the key y -/
def DGet (H : Hp) (a : Addr) (y : V) (r : Option V) : Prop :=
  (∃ kvs k, Rd H a (.dK kvs) ∧ y = kV k ∧ r = valV kvs k) ∨ ∃ kvs k b, Rd H a (.dT kvs) ∧ y = .ref b ∧ H b = some (.tup (k.map kV)) ∧ r = valV kvs k
/-- the heap behind a[y] = v -/
def DPut (H : Hp) (a : Addr) (y v : V) (H' : Hp) : Prop :=
  (∃ kvs k, H a = some (.dK kvs) ∧ y = kV k ∧ kvs.length < sizeLine ∧ H' = upd H a (.dK (putK kvs k v))) ∨
  ∃ kvs k b, H a = some (.dT kvs) ∧ y = .ref b ∧ H b = some (.tup (k.map kV)) ∧ kvs.length < sizeLine ∧ H' = upd H a (.dT (putK kvs k v))
theorem DGet.k {H : Hp} {a : Addr} {kvs : List (Key × V)} {k : Key} (e : H a = some (.dK kvs)) : DGet H a (kV k) (valV kvs k) := .inl ⟨kvs, k, .inl e, rfl, rfl⟩
theorem DGet.t {H : Hp} {a b : Addr} {kvs : List (List Key × V)} {k : List Key} (e : H a = some (.dT kvs)) (eb : H b = some (.tup (k.map kV))) : DGet H a (.ref b) (valV kvs k) := .inr ⟨kvs, k, b, .inl e, rfl, eb, rfl⟩
theorem DPut.k {H : Hp} {a : Addr} {kvs : List (Key × V)} {k : Key} {v : V} (e : H a = some (.dK kvs)) (hl : kvs.length < sizeLine) : DPut H a (kV k) v (upd H a (.dK (putK kvs k v))) := .inl ⟨kvs, k, e, rfl, hl, rfl⟩
theorem DPut.t {H : Hp} {a b : Addr} {kvs : List (List Key × V)} {k : List Key} {v : V} (e : H a = some (.dT kvs)) (eb : H b = some (.tup (k.map kV))) (hl : kvs.length < sizeLine) :
    DPut H a (.ref b) v (upd H a (.dT (putK kvs k v))) := .inr ⟨kvs, k, b, e, rfl, eb, hl, rfl⟩


section
variable {X : Cx} {pins : List (Addr × Obj)} {σ : St} {H : Hp} {s : Shared} {a : Addr} {y v : V} {u r : Value} {o : Option V} {A : Around} {E : Value → Shared → Prop}

theorem Inv.big (I : Inv X pins σ H s) : sysModules < s.heap.objs.size := by
  have h : mainGlobals < s.heap.objs.size := (I.mod.glob.keeps I.bk).lt
  exact Nat.lt_trans (by decide) h

/-- d[y], there -/
theorem d_getItem {Q : Value → Shared → Prop} (hu : A.units + 1 < cLine) (I : Inv X pins σ H s) (g : DGet H a y (some v)) (ry : RelV y u) (h : ∀ w' s', Inv X pins σ H s' → RelV v w' → Q w' s') :
    wpAny (model X.prog X.w) A (getItem (.ref a) u) Q E s := by
  rcases g with ⟨kvs, k, e, ey, l⟩ | ⟨kvs, k, b, e, ey, eb, l⟩
  · subst ey
    obtain ⟨z, hd, vs, rel, dd⟩ := dk_rd I.hok e
    obtain ⟨w', hw, rw'⟩ := RelO.some_of (v := v) (o := valueAt vs k) (by rw [l]; exact rel.val k)
    exact wpAny_getItem_of (kV_is ry) dd.mapOf hw (h w' _ (I.tok _) rw')
  · subst ey
    cases (show u = Value.ref b from ry)
    obtain ⟨z, hd, xs, rel, dd⟩ := dt_rd I.hok e
    obtain ⟨w', hw, rw'⟩ := RelO.some_of (v := v) (o := (atKey xs k).map (·.2)) (by rw [l]; exact rel.val k)
    obtain ⟨p, hp, hp2⟩ := Option.map_eq_some_iff.mp hw
    refine wpAny_getItem_heap (tupleKind_room_in1 hu) (key_of I.hok eb) dd hp ?_
    rw [hp2]
    exact h w' _ (I.tok _) rw'
/-- y in d -/
theorem d_in {Q : Value → Shared → Prop} (hu : A.units + 1 < cLine) (I : Inv X pins σ H s) (g : DGet H a y o) (ry : RelV y u) (h : ∀ s', Inv X pins σ H s' → Q (.bool o.isSome) s') :
    wpAny (model X.prog X.w) A (compareOp .In u (.ref a)) Q E s := by
  rcases g with ⟨kvs, k, e, ey, l⟩ | ⟨kvs, k, b, e, ey, eb, l⟩
  · subst ey
    obtain ⟨z, hd, vs, rel, dd⟩ := dk_rd I.hok e
    refine wpAny_in_of (kV_is ry) hd dd.mapOf ?_
    rw [← (rel.val k).isSome_eq, ← l]
    exact h _ (I.tok _)
  · subst ey
    cases (show u = Value.ref b from ry)
    obtain ⟨z, hd, xs, rel, dd⟩ := dt_rd I.hok e
    refine wpAny_in_heap (tupleKind_room_in1 hu) (key_of I.hok eb) hd dd ?_
    have q := (rel.val k).isSome_eq
    rw [Option.isSome_map] at q
    rw [← q, ← l]
    exact h _ (I.tok _)
theorem d_notIn {Q : Value → Shared → Prop} (hu : A.units + 1 < cLine) (I : Inv X pins σ H s) (g : DGet H a y o) (ry : RelV y u) (h : ∀ s', Inv X pins σ H s' → Q (.bool (!o.isSome)) s') :
    wpAny (model X.prog X.w) A (compareOp .NotIn u (.ref a)) Q E s := by
  rcases g with ⟨kvs, k, e, ey, l⟩ | ⟨kvs, k, b, e, ey, eb, l⟩
  · subst ey
    obtain ⟨z, hd, vs, rel, dd⟩ := dk_rd I.hok e
    refine wpAny_notIn_of (kV_is ry) hd dd.mapOf ?_
    rw [← (rel.val k).isSome_eq, ← l]
    exact h _ (I.tok _)
  · subst ey
    cases (show u = Value.ref b from ry)
    obtain ⟨z, hd, xs, rel, dd⟩ := dt_rd I.hok e
    refine wpAny_notIn_heap (tupleKind_room_in1 hu) (key_of I.hok eb) hd dd ?_
    have q := (rel.val k).isSome_eq
    rw [Option.isSome_map] at q
    rw [← q, ← l]
    exact h _ (I.tok _)
/-- a dict's object is replaced -/
theorem d_write {h' : Heap} {t' : Nat} {ob : HO} (I : Inv X pins σ H s) (mu : Mut (H a)) (hs : Heap.SameBut a s.heap h') (he : ∃ q, h'.get? a = some q) (new : ObjOk X.prog X.w (upd H a ob) h' a ob) :
    Inv X pins σ (upd H a ob) { s with heap := h', toks := t' } :=
  I.write (x := a) (e := a) mu (.inl rfl) (fun b q hb z => (hs.2 b hb).trans z) he new
theorem dk_new {P : Program} {w : World} {H' : Hp} {h' : Heap} {kvs : List (Key × V)} {vs : List (Key × Value)} (z : kvs.length ≤ sizeLine) (hd : (a == sysModules) = false) (rel : KV kvs vs) (dd : h'.DictOf (mixKind P w) a vs) :
    ObjOk P w H' h' a (.dK kvs) := ⟨z, hd, vs, rel, dd⟩
/-- d[y] = v -/
theorem d_setItem {H' : Hp} {Q : Unit → Shared → Prop} (hu : A.units + 1 < cLine) (I : Inv X pins σ H s) (g : DPut H a y v H') (ry : RelV y u) (rv : RelV v r) (h : ∀ s', Inv X pins σ H' s' → Q () s') :
    wpAny (model X.prog X.w) A (setItem (.ref a) u r) Q E s := by
  rcases g with ⟨kvs, k, e, ey, l, eH⟩ | ⟨kvs, k, b, e, ey, eb, l, eH⟩
  · subst ey eH
    obtain ⟨z, hd, vs, rel, dd⟩ := dk_of I.hok e
    have hz : vs.length ≤ sizeLine := by rw [← rel.length]; exact z
    have hl : (putK kvs k v).length ≤ sizeLine := by have := length_putK kvs k v; omega
    refine wpAny_setItem_pairs (hsz := hz) (kV_is ry) dd fun h' dd' hs => h _ ?_
    have he : ∃ q, h'.get? a = some q := let ⟨q, _, _, hq, _⟩ := dd'; ⟨q, hq⟩
    exact d_write I (by rw [e]; exact True.intro) hs he (dk_new hl hd (rel.put k rv) dd')
  · subst ey eH
    cases (show u = Value.ref b from ry)
    obtain ⟨z, hd, xs, rel, dd⟩ := dt_of I.hok e
    have hz : xs.length ≤ sizeLine := by rw [← Paired.length rel]; exact z
    have hl : (putK kvs k v).length ≤ sizeLine := by have := length_putK kvs k v; omega
    refine wpAny_setItem_heap (hsz := hz) (tupleKind_room_in1 hu) (key_of I.hok eb) dd fun h' dd' hs => h _ ?_
    obtain ⟨q, es, ep, hq, h2, h3, h4, _, h5⟩ := dd'
    refine d_write I (by rw [e]; exact True.intro) hs ⟨q, hq⟩ ⟨hl, hd, _, (rel.put k eb rv).keeps fun c ys ec => ?_, q, es, ep, hq, h2, h3, h4, h5⟩
    rw [upd_ne (ne_of ec e (fun z => nomatch z))]
    exact ec
end

section
variable {X : Cx} {pins : List (Addr × Obj)} {σ : St} {H : Hp} {s : Shared} {a : Addr} {kvs : List (Key × V)} {k : Key} {u : Value} {A : Around} {E : Value → Shared → Prop}
/-- del d[k] -/
theorem d_delItem {Q : Unit → Shared → Prop} (I : Inv X pins σ H s) (e : H a = some (.dK kvs)) (ry : RelV (kV k) u) (l : (valV kvs k).isSome = true) (h : ∀ s', Inv X pins σ (upd H a (.dK (dropK kvs k))) s' → Q () s') :
    wpAny (model X.prog X.w) A (delItem (.ref a) u) Q E s := by
  obtain ⟨z, hd, vs, rel, dd⟩ := dk_of I.hok e
  refine wpAny_delItem_slot dd.typeIs (by decide) PySem.F.slot_dict_delitem
    (call_meetsIn PySem.F.slot_dict_delitem dd.typeIs PySem.F.entry_dict_delitem (PySem.F.args_dict_delitem_2 _ _) (meets_dict_delitem_pairs (mixKind X.prog X.w) a (kV_is ry)) ⟨vs, dd, by rw [← rel.length]; exact z, by rw [← (rel.val k).isSome_eq]; exact l, fun h' dd' hs => h _ ?_⟩)
  have he : ∃ q, h'.get? a = some q := let ⟨q, _, _, hq, _⟩ := dd'; ⟨q, hq⟩
  exact d_write I (by rw [e]; exact True.intro) hs he (dk_new (Nat.le_trans (dropK_le kvs k) z) hd (rel.drop k) dd')
/-- d.pop(k[, x]), there -/
theorem d_pop {v : V} {more : List Value} {Q : Value → Shared → Prop} (I : Inv X pins σ H s) (e : H a = some (.dK kvs)) (ry : RelV (kV k) u) (l : valV kvs k = some v) (hm : more = [] ∨ ∃ x, more = [x])
    (h : ∀ w' s', Inv X pins σ (upd H a (.dK (dropK kvs k))) s' → RelV v w' → Q w' s') : wpAny (model X.prog X.w) A (call (.builtin "dict.pop") (.ref a :: u :: more)) Q E s := by
  obtain ⟨z, hd, vs, rel, dd⟩ := dk_of I.hok e
  obtain ⟨w', hw, rw'⟩ := RelO.some_of (v := v) (o := valueAt vs k) (by rw [← l]; exact rel.val k)
  have hp : (keyPart u).isSome = true := by
    cases k with
    | inl i => obtain ⟨t, q⟩ := (show ∃ t, u = Value.int i t from ry); subst q; rfl
    | inr x => obtain ⟨t, q⟩ := (show ∃ t, u = Value.str x t from ry); subst q; rfl
  have ha : argsOk "dict.pop" ⟨.ref a :: u :: more, []⟩ := by
    rcases hm with q | ⟨x, q⟩
    · subst q; exact PySem.F.args_dict_pop_2 _ _
    · subst q; exact PySem.F.args_dict_pop_3 _ _ _
  refine call_meetsIn PySem.F.slot_dict_pop dd.typeIs PySem.F.entry_dict_pop ha (meets_dict_pop_there (mixKind X.prog X.w) a (kV_is ry) more hm hp)
    ⟨vs, w', dd, by rw [← rel.length]; exact z, hw, fun h' dd' hs => h w' _ ?_ rw'⟩
  have he : ∃ q, h'.get? a = some q := let ⟨q, _, _, hq, _⟩ := dd'; ⟨q, hq⟩
  exact d_write I (by rw [e]; exact True.intro) hs he (dk_new (Nat.le_trans (dropK_le kvs k) z) hd (rel.drop k) dd')
/-- d.pop(k, x), not there -/
theorem d_popD {r : Value} {Q : Value → Shared → Prop} (I : Inv X pins σ H s) (e : H a = some (.dK kvs)) (ry : RelV (kV k) u) (l : valV kvs k = none) (h : ∀ s', Inv X pins σ H s' → Q r s') :
    wpAny (model X.prog X.w) A (call (.builtin "dict.pop") [.ref a, u, r]) Q E s := by
  obtain ⟨z, hd, vs, rel, dd⟩ := dk_of I.hok e
  have hn : valueAt vs k = none := RelO.none_of (by rw [← l]; exact rel.val k)
  have hp : (keyPart u).isSome = true := by
    cases k with
    | inl i => obtain ⟨t, q⟩ := (show ∃ t, u = Value.int i t from ry); subst q; rfl
    | inr x => obtain ⟨t, q⟩ := (show ∃ t, u = Value.str x t from ry); subst q; rfl
  exact call_meetsIn PySem.F.slot_dict_pop dd.typeIs PySem.F.entry_dict_pop (PySem.F.args_dict_pop_3 _ _ _) (meets_dict_pop_default (mixKind X.prog X.w) a (kV_is ry) hd hp r) ⟨vs, dd, hn, h _ (I.tok _)⟩
/-- d.clear() -/
theorem d_clear {Q : Value → Shared → Prop} (I : Inv X pins σ H s) (e : H a = some (.dK kvs)) (h : ∀ s', Inv X pins σ (upd H a (.dK [])) s' → Q .none s') : wpAny (model X.prog X.w) A (call (.builtin "dict.clear") [.ref a]) Q E s := by
  obtain ⟨z, hd, vs, rel, dd⟩ := dk_of I.hok e
  refine call_meetsIn PySem.F.slot_dict_clear dd.typeIs PySem.F.entry_dict_clear (PySem.F.args_dict_clear_1 _) (meets_dict_clear (mixKind X.prog X.w) a) ⟨vs, dd, by rw [← rel.length]; exact z, fun h' dd' hs => h _ ?_⟩
  have he : ∃ q, h'.get? a = some q := let ⟨q, _, _, hq, _⟩ := dd'; ⟨q, hq⟩
  exact d_write (t' := s.toks) I (by rw [e]; exact True.intro) hs he (dk_new (Nat.zero_le _) hd .nil dd')
/-- len(d) -/
theorem d_len {Q : Value → Shared → Prop} (I : Inv X pins σ H s) (e : Rd H a (.dK kvs)) (h : ∀ t s', Inv X pins σ H s' → Q (.int kvs.length t) s') : wpAny (model X.prog X.w) A (call (.builtin "len") [.ref a]) Q E s := by
  obtain ⟨z, hd, vs, rel, dd⟩ := dk_rd I.hok e
  refine call_len_dict hd dd (by rw [← rel.length]; rw [sizeLine_eq] at z; omega) ?_
  rw [← rel.length]
  exact h _ _ (I.tok _)
/-- if d -/
theorem d_truth {Q : Bool → Shared → Prop} (I : Inv X pins σ H s) (e : Rd H a (.dK kvs)) (h : ∀ s', Inv X pins σ H s' → Q (!kvs.isEmpty) s') : wpAny (model X.prog X.w) A (truthy (.ref a)) Q E s := by
  obtain ⟨z, hd, vs, rel, dd⟩ := dk_rd I.hok e
  refine wpAny_truthy_dict hd dd (by rw [← rel.length]; rw [sizeLine_eq] at z; omega) ?_
  have q : kvs.isEmpty = vs.isEmpty := by cases rel <;> rfl
  rw [← q]
  exact h _ (I.tok _)
end


/-! ### readings and rules -/
/-- the element of a subscription, not a slice -/
def NoSl (i : Expr) : Prop := ∀ ov iv, subscripted i false ov iv = operate [ov, iv] (getItem ov iv)
theorem subD_of {prog : Program} {w : World} {A : Around} {E : Value → Shared → Prop} {s : Shared} {env : Env} {value slice : Expr} {pos : Pos} {T id : String} {Q : Value → Shared → Prop}
    (hl : typeLookup (.type T) "__getitem__" = pure (some (.builtin id))) (hs : NoSl slice)
    (h : wpAny (model prog w) A (eval value env) (fun o s₁ => wpAny (model prog w) A (eval slice env) (fun i s₂ => s₂.TypeIs o T ∧ wpAny (model prog w) A (getItem o i) Q E s₂) E s₁) E s) :
    wpAny (model prog w) A (eval (.Subscript value slice pos) env) Q E s := by
  refine Subscript_ (wpAny_mono h (fun o s₁ h₁ => wpAny_mono h₁ (fun i s₂ h₂ => ?_) fun _ _ x => x) fun _ _ x => x)
  obtain ⟨hT, h₂⟩ := h₂
  unfold subscriptTail
  refine wpAny_bind ?_
  rw [getitemInPython_of_ne hT.not_modules]
  refine wpAny_bind (wpAny_specialOf hT hl ?_)
  have fin : wpAny (model prog w) A (subscripted slice false o i) (fun r s₃ => wpAny (model prog w) A (letTemporaryGo value o r >>= fun _ => pure r) Q E s₃) E s₂ := by
    rw [hs o i]
    exact wpAny_operating (wpAny_mono h₂ (fun r s₃ h₃ => wpAny_bind (wpAny_letTemporaryGo (wpAny_pure h₃))) fun _ _ x => x)
  first
    | exact wpAny_pure (wpAny_bind fin)
    | exact wpAny_bind (wpAny_pure (wpAny_bind fin))
    | exact wpAny_bind fin

theorem dict_typeIs {X : Cx} {pins : List (Addr × Obj)} {σ : St} {H : Hp} {s : Shared} {a : Addr} {y : V} {o : Option V} (I : Inv X pins σ H s) (g : DGet H a y o) : s.TypeIs (.ref a) "dict" := by
  rcases g with ⟨kvs, k, e, _, _⟩ | ⟨kvs, k, b, e, _, _, _⟩
  · obtain ⟨_, _, vs, _, dd⟩ := dk_rd I.hok e
    exact dd.typeIs
  · obtain ⟨_, _, xs, _, dd⟩ := dt_rd I.hok e
    exact dd.typeIs
theorem dict_noDict {X : Cx} {pins : List (Addr × Obj)} {σ : St} {H : Hp} {s : Shared} {a : Addr} {y : V} {o : Option V} (I : Inv X pins σ H s) (g : DGet H a y o) :
    ∀ b, Value.ref a = .ref b → ∃ ob, s.heap.get? b = some ob ∧ ob.dict = none := fun b q => by
  cases q
  rcases g with ⟨kvs, k, e, _, _⟩ | ⟨kvs, k, b, e, _, _, _⟩
  · obtain ⟨_, _, vs, _, ob, _, _, h1, h2, _⟩ := dk_rd I.hok e
    exact ⟨ob, h1, h2.2.1⟩
  · obtain ⟨_, _, xs, _, ob, _, _, h1, h2, _⟩ := dt_rd I.hok e
    exact ⟨ob, h1, h2.2.1⟩

/-- d[y] -/
def tDGet (td ty : TE) : TE := fun σ H Q => td σ H fun x H1 => ty σ H1 fun y H2 => ∃ a v, x = .ref a ∧ DGet H2 a y (some v) ∧ Q v H2
/-- y in d, y not in d -/
def tDIn (ty td : TE) : TE := fun σ H Q => ty σ H fun y H1 => td σ H1 fun x H2 => ∃ a o, x = .ref a ∧ DGet H2 a y o ∧ Q (.bl o.isSome) H2
def tDNotIn (ty td : TE) : TE := fun σ H Q => ty σ H fun y H1 => td σ H1 fun x H2 => ∃ a o, x = .ref a ∧ DGet H2 a y o ∧ Q (.bl (!o.isSome)) H2
/-- d[y] = v -/
def sDPut (td ty tv : TE) : TS := fun D σ H => tv σ H fun v H1 => td σ H1 fun x H2 => ty σ H2 fun y H3 => ∃ a H4, x = .ref a ∧ DPut H3 a y v H4 ∧ D.nx σ H4
/-- d[y] op= v -/
def sDAug (td ty tv : TE) (rd : V → V → Hp → VK → Prop) : TS := fun D σ H => td σ H fun x H1 => ty σ H1 fun y H2 => ∃ a v, x = .ref a ∧ DGet H2 a y (some v) ∧
  tv σ H2 fun y2 H3 => rd v y2 H3 fun z H4 => ∃ H5, DPut H4 a y z H5 ∧ D.nx σ H5
/-- del d[y] -/
def sDDel (td ty : TE) : TS := fun D σ H => td σ H fun x H1 => ty σ H1 fun y H2 => ∃ a kvs k, x = .ref a ∧ H2 a = some (.dK kvs) ∧ y = kV k ∧ (valV kvs k).isSome = true ∧ D.nx σ (upd H2 a (.dK (dropK kvs k)))

section
variable {X : Cx} {o i e value : Expr} {pos pos' tpos : Pos} {td ty tv : TE}
theorem pe_dget (hu : X.A.units + 1 < cLine) (ho : PE X o td) (hi : PE X i ty) (hs : NoSl i) : PE X (.Subscript o i pos) (tDGet td ty) := by
  intro pins s σ H Q I h
  refine subD_of PySem.F.slot_dict_getitem.lookup hs (thn (ho pins s σ H _ I h) fun u s1 ⟨x, H1, I1, rx, q1⟩ => thn (hi pins s1 σ H1 _ I1 q1) fun iv s2 ⟨y, H2, I2, ry, a, v, ex, g, q2⟩ => ?_)
  subst ex
  obtain rfl : u = Value.ref a := rx
  exact ⟨dict_typeIs I2 g, d_getItem hu I2 g ry fun w' s3 I3 rw' => ⟨v, H2, I3, rw', q2⟩⟩
theorem pc_din (hu : X.A.units + 1 < cLine) (hi : PE X i ty) (ho : PE X o td) : PC X .In i o (tDIn ty td) := by
  intro pins s σ H Q I h
  refine thn (hi pins s σ H _ I h) fun iv s1 ⟨y, H1, I1, ry, q1⟩ => thn (ho pins s1 σ H1 _ I1 q1) fun u s2 ⟨x, H2, I2, rx, a, ov, ex, g, q2⟩ => ?_
  subst ex
  obtain rfl : u = Value.ref a := rx
  exact d_in hu I2 g ry fun s3 I3 => ⟨.bl ov.isSome, H2, I3, rfl, q2⟩
theorem pc_dnotin (hu : X.A.units + 1 < cLine) (hi : PE X i ty) (ho : PE X o td) : PC X .NotIn i o (tDNotIn ty td) := by
  intro pins s σ H Q I h
  refine thn (hi pins s σ H _ I h) fun iv s1 ⟨y, H1, I1, ry, q1⟩ => thn (ho pins s1 σ H1 _ I1 q1) fun u s2 ⟨x, H2, I2, rx, a, ov, ex, g, q2⟩ => ?_
  subst ex
  obtain rfl : u = Value.ref a := rx
  exact d_notIn hu I2 g ry fun s3 I3 => ⟨.bl (!ov.isSome), H2, I3, rfl, q2⟩
theorem ps_dput (hu : X.A.units + 1 < cLine) (ho : PE X o td) (hi : PE X i ty) (hv : PE X value tv) (hs : swapsWith value (some (.Subscript o i pos')) pos.line X.env = pure false) :
    PS X (.Assign [.Subscript o i pos'] value pos) (sDPut td ty tv) := by
  intro pins s σ H D I h
  refine wpAny_Assign_Subscript (thn (hv pins s σ H _ I h) fun r s1 ⟨v, H1, I1, rv, q1⟩ => thn (ho pins s1 σ H1 _ I1 q1) fun u s2 ⟨x, H2, I2, rx, q2⟩ => thn (hi pins s2 σ H2 _ I2 q2) fun iv s3 ⟨y, H3, I3, ry, a, H4, ex, g, q3⟩ => ?_) hs
  subst ex
  obtain rfl : u = Value.ref a := rx
  exact d_setItem hu I3 g ry rv fun s4 I4 => ⟨σ, H4, I4, q3⟩
theorem ps_daug {op : Operator} {rd : V → V → Hp → VK → Prop} (hu : X.A.units + 1 < cLine) (ho : PE X o td) (hi : PE X i ty) (hv : PE X value tv) (hop : InOp X op rd)
    (ha : ∀ ov iv new, augStore i ov iv new = (do holding [new, ov, iv] (setItem ov iv new); release [new, ov, iv] []; pure .next)) : PS X (.AugAssign (.Subscript o i tpos) op value pos) (sDAug td ty tv rd) := by
  intro pins s σ H D I h
  refine wpAny_AugAssign_SubscriptAny (thn (ho pins s σ H _ I h) fun u s1 ⟨x, H1, I1, rx, q1⟩ => thn (hi pins s1 σ H1 _ I1 q1) fun iv s2 ⟨y, H2, I2, ry, a, v, ex, g, q2⟩ => ?_) ha
  subst ex
  obtain rfl : u = Value.ref a := rx
  refine d_getItem hu I2 g ry fun w' s3 I3 rw' => thn (hv pins s3 σ H2 _ I3 q2) fun w2 s4 ⟨y2, H3, I4, ry2, q3⟩ => thn (hop pins s4 σ H3 v y2 w' w2 _ I4 rw' ry2 q3) fun w3 s5 ⟨z, H4, I5, rz, H5, g5, q4⟩ => ?_
  exact d_setItem hu I5 g5 ry rz fun s6 I6 => ⟨σ, H5, I6, q4⟩
theorem ps_ddel (ho : PE X o td) (hi : PE X i ty) : PS X (.Delete [.Subscript o i tpos] pos) (sDDel td ty) := by
  intro pins s σ H D I h
  refine wpAny_Delete (wpAny_deleteEach_cons (wpAny_delete_Subscript (thn (ho pins s σ H _ I h) fun u s1 ⟨x, H1, I1, rx, q1⟩ => thn (hi pins s1 σ H1 _ I1 q1) fun iv s2 ⟨y, H2, I2, ry, a, kvs, k, ex, e, ey, l, q2⟩ => ?_)))
  subst ex ey
  obtain rfl : u = Value.ref a := rx
  exact d_delItem I2 e ry l fun s3 I3 => wpAny_deleteEach_nil ⟨σ, _, I3, q2⟩
end


/-! ### displays -/
theorem dk_empty {P : Program} {w : World} {H : Hp} (h : Heap) (hb : sysModules < h.objs.size) : ObjOk P w H (h.push { cls := .type "dict", data := .dict #[] }) h.objs.size (.dK []) :=
  ⟨Nat.zero_le _, beq_eq_false_iff_ne.mpr (Ne.symm (Nat.ne_of_lt hb)), [], .nil, Heap.DictOf.new h⟩
theorem dt_empty {P : Program} {w : World} {H : Hp} (h : Heap) (hb : sysModules < h.objs.size) : ObjOk P w H (h.push { cls := .type "dict", data := .dict #[] }) h.objs.size (.dT []) :=
  ⟨Nat.zero_le _, beq_eq_false_iff_ne.mpr (Ne.symm (Nat.ne_of_lt hb)), [], .nil, _, #[], 0, Heap.get?_push_size _ rfl, ⟨rfl, rfl, rfl⟩, rfl, rfl, List.nodup_nil⟩
/-- {}, to be a dict of the kind that is wanted -/
def tDNewK : TE := fun _ H Q => ∀ p, H p = none → Q (.ref p) (upd H p (.dK []))
def tDNewT : TE := fun _ H Q => ∀ p, H p = none → Q (.ref p) (upd H p (.dT []))
section
variable {X : Cx} {pos : Pos}
theorem pe_dnewK : PE X (.Dict [] [] pos) tDNewK := fun pins s σ H Q I h =>
  wpAny_Dict_empty ⟨.ref s.heap.objs.size, _, I.laid (a := s.heap.objs.size) (o := .dK []) (t' := s.toks) (fun _ _ q => Heap.get?_push_of_some _ q) (Nat.le_refl _) (dk_empty s.heap I.big), rfl, h _ (I.hok.fresh (Nat.le_refl _))⟩
theorem pe_dnewT : PE X (.Dict [] [] pos) tDNewT := fun pins s σ H Q I h =>
  wpAny_Dict_empty ⟨.ref s.heap.objs.size, _, I.laid (a := s.heap.objs.size) (o := .dT []) (t' := s.toks) (fun _ _ q => Heap.get?_push_of_some _ q) (Nat.le_refl _) (dt_empty s.heap I.big), rfl, h _ (I.hok.fresh (Nat.le_refl _))⟩
end

/-- the pairs of a display, from the left -/
def tPairs : List (TE × TE) → St → Hp → (List (V × V) → Hp → Prop) → Prop
  | [], _, H, Q => Q [] H
  | (tk, tv) :: r, σ, H, Q => tk σ H fun x H1 => tv σ H1 fun y H2 => tPairs r σ H2 fun ps H3 => Q ((x, y) :: ps) H3
abbrev VV : List (V × V) → List (Value × Value) → Prop := Paired fun p q => RelV p.1 q.1 ∧ RelV p.2 q.2
def PPs (X : Cx) (pos : Pos) (keys : List (Option Expr)) (values : List Expr) (trs : List (TE × TE)) : Prop :=
  ∀ (pins : List (Addr × Obj)) (s : Shared) (σ : St) (H : Hp) (Q : List (V × V) → Hp → Prop), Inv X pins σ H s → tPairs trs σ H Q →
    wpAny (model X.prog X.w) X.A (evalPairs (pairTrees keys values X.env pos)) (fun vs s' => ∃ ps H', Inv X pins σ H' s' ∧ VV ps vs ∧ Q ps H') X.xe s
theorem pps_nil {X : Cx} {pos : Pos} : PPs X pos [] [] [] := fun pins s σ H Q I h => pairTrees_nil_walk ⟨[], H, I, .nil, h⟩
theorem pps_cons {X : Cx} {pos : Pos} {k v : Expr} {ks : List (Option Expr)} {vs : List Expr} {tk tv : TE} {trs : List (TE × TE)} (hk : PE X k tk) (hv : PE X v tv) (hr : PPs X pos ks vs trs) :
    PPs X pos (some k :: ks) (v :: vs) ((tk, tv) :: trs) := fun pins s σ H Q I h =>
  pairTrees_cons_walk (thn (hk pins s σ H _ I h) fun u s1 ⟨x, H1, I1, rx, q1⟩ => thn (hv pins s1 σ H1 _ I1 q1) fun w2 s2 ⟨y, H2, I2, ry, q2⟩ =>
    thn (hr pins s2 σ H2 _ I2 q2) fun ws s3 ⟨ps, H3, I3, rel, q3⟩ => ⟨(x, y) :: ps, H3, I3, .cons ⟨rx, ry⟩ rel, q3⟩)

def mergeK (kvs more : List (Key × V)) : List (Key × V) := more.foldl (fun acc kv => putK acc kv.1 kv.2) kvs
theorem KV.merge : ∀ {more : List (Key × V)} {rs : List (Key × Value)} {kvs : List (Key × V)} {vs : List (Key × Value)}, KV more rs → KV kvs vs → KV (mergeK kvs more) (merged vs rs) := by
  intro more rs kvs vs r
  unfold KV at r
  induction r generalizing kvs vs with
  | nil => intro q; exact q
  | @cons p q ps qs h t ih =>
    intro r0
    have e : KV (putK kvs p.1 p.2) (stored vs q.1 q.2) := by
      have := r0.put p.1 h.2
      rw [← h.1]; exact this
    exact ih e
theorem length_mergeK : ∀ (more kvs : List (Key × V)), (mergeK kvs more).length ≤ kvs.length + more.length
  | [], kvs => by show kvs.length ≤ kvs.length + 0; omega
  | p :: r, kvs => by
    have h1 := length_mergeK r (putK kvs p.1 p.2)
    have h2 := length_putK kvs p.1 p.2
    show (mergeK (putK kvs p.1 p.2) r).length ≤ _
    rw [List.length_cons]; omega
theorem carries_of {P : Program} {w : World} : ∀ {kvs : List (Key × V)} {ws : List (Value × Value)}, VV (kvs.map fun kv => (kV kv.1, kv.2)) ws → ∃ rs, Carries (mixKind P w) ws rs ∧ KV kvs rs
  | [], _, r => by rw [List.map_nil] at r; cases r; exact ⟨[], True.intro, .nil⟩
  | p :: kvs, _, r => by
    rw [List.map_cons] at r
    cases r with
    | @cons a b as bs h t =>
      obtain ⟨rs, c, q⟩ := carries_of (P := P) (w := w) t
      obtain ⟨b1, b2⟩ := b
      exact ⟨(p.1, b2) :: rs, ⟨kV_is h.1, rfl, c⟩, .cons ⟨rfl, h.2⟩ q⟩
/-- {k: v, ..} with keys ints and texts; the new dict stands empty while the pairs are made -/
def tDisp (trs : List (TE × TE)) : TE := fun σ H Q => ∀ p, H p = none → tPairs trs σ (upd H p (.dK [])) fun ps H2 => H2 p = some (.dK []) ∧ ∃ kvs : List (Key × V), ps = kvs.map (fun kv => (kV kv.1, kv.2)) ∧ kvs.length ≤ 15 ∧ Q (.ref p) (upd H2 p (.dK (mergeK [] kvs)))
theorem pe_disp {X : Cx} {pos : Pos} {keys : List (Option Expr)} {values : List Expr} {trs : List (TE × TE)} (h : PPs X pos keys values trs) (hall : keys.all (·.isSome) = true) (hl : keys.length = values.length) (h0 : keys ≠ [])
    (h15 : keys.length ≤ 15) : PE X (.Dict keys values pos) (tDisp trs) := by
  intro pins s σ H Q I q
  have hn := I.hok.fresh (Nat.le_refl s.heap.objs.size)
  have I1 := I.laid (a := s.heap.objs.size) (o := .dK []) (h' := s.heap.push { cls := .type "dict", data := .dict #[] }) (t' := s.toks) (fun _ _ q => Heap.get?_push_of_some _ q) (Nat.le_refl _) (dk_empty s.heap I.big)
  refine wpAny_Dict_walk (knd := mixKind X.prog X.w) hall hl h0 h15 (thn (h pins _ σ _ _ I1 (q _ hn)) fun ws s2 ⟨ps, H2, I2, rel, e, kvs, ep, lk, q2⟩ => ?_)
  subst ep
  obtain ⟨rs, c, rk⟩ := carries_of (P := X.prog) (w := X.w) rel
  obtain ⟨z, hd, vs0, r0, dd⟩ := dk_of I2.hok e
  cases r0
  refine ⟨rs, c, dd, fun h' dd' hs => ⟨.ref s.heap.objs.size, _, ?_, rfl, q2⟩⟩
  have hz : (mergeK [] kvs).length ≤ sizeLine := by
    have h1 := length_mergeK kvs []
    rw [List.length_nil] at h1
    rw [sizeLine_eq]; omega
  have he : ∃ q, h'.get? s.heap.objs.size = some q := let ⟨q, _, _, hq, _⟩ := dd'; ⟨q, hq⟩
  exact d_write I2 (by rw [e]; exact True.intro) hs he (dk_new hz hd (rk.merge .nil) dd')


/-! ### methods -/
/-- a method call o.m(e) of a built-in, with one argument: what must be seen of the text -/
structure M1 (X : Cx) (o : Expr) (m : Str) (apos : Pos) (e : Expr) (cpos : Pos) : Prop where
  base : attributeBase o m X.env (eval o X.env) = eval o X.env
  few : ((backTo cpos (starEach [e] X.env)).all (fun x => !x.1) && (backToKw cpos (keywordEach [] X.env)).all (fun x => x.1.isSome)
    && decide (([e] : List Expr).length + ([] : List Keyword).length + (if ([] : List Keyword).isEmpty then 0 else 1) < 30)) = true
  line : (apos.endLine == cpos.line) = true
  trees : backTo cpos (starEach [e] X.env) = [(false, eval e X.env)]
structure M2 (X : Cx) (o : Expr) (m : Str) (apos : Pos) (e f : Expr) (cpos : Pos) : Prop where
  base : attributeBase o m X.env (eval o X.env) = eval o X.env
  few : ((backTo cpos (starEach [e, f] X.env)).all (fun x => !x.1) && (backToKw cpos (keywordEach [] X.env)).all (fun x => x.1.isSome)
    && decide (([e, f] : List Expr).length + ([] : List Keyword).length + (if ([] : List Keyword).isEmpty then 0 else 1) < 30)) = true
  line : (apos.endLine == cpos.line) = true
  trees : backTo cpos (starEach [e, f] X.env) = [(false, eval e X.env), (false, eval f X.env)]

/-- a is a dict, whatever its keys -/
def IsD (H : Hp) (a : Addr) : Prop := (∃ kvs, Rd H a (.dK kvs)) ∨ ∃ kvs, Rd H a (.dT kvs)
theorem isD_at {X : Cx} {pins : List (Addr × Obj)} {σ : St} {H : Hp} {s : Shared} {a : Addr} (I : Inv X pins σ H s) (d : IsD H a) :
    s.TypeIs (.ref a) "dict" ∧ (∀ b, Value.ref a = .ref b → ∃ ob, s.heap.get? b = some ob ∧ ob.dict = none) ∧ (a == sysModules) = false := by
  rcases d with ⟨kvs, e⟩ | ⟨kvs, e⟩
  · obtain ⟨_, hd, vs, _, dd⟩ := dk_rd I.hok e
    refine ⟨dd.typeIs, fun b q => ?_, hd⟩
    cases q
    obtain ⟨ob, _, _, h1, h2, _⟩ := dd
    exact ⟨ob, h1, h2.2.1⟩
  · obtain ⟨_, hd, xs, _, dd⟩ := dt_rd I.hok e
    refine ⟨dd.typeIs, fun b q => ?_, hd⟩
    cases q
    obtain ⟨ob, _, _, h1, h2, _⟩ := dd
    exact ⟨ob, h1, h2.2.1⟩

section
variable {X : Cx} {pins : List (Addr × Obj)} {σ : St} {H : Hp} {s : Shared} {a : Addr} {y d : V} {u r : Value} {o : Option V} {A : Around} {E : Value → Shared → Prop}
/-- d.get(y) -/
theorem d_get1 {Q : Value → Shared → Prop} (hu : A.units + 1 < cLine) (I : Inv X pins σ H s) (g : DGet H a y o) (ry : RelV y u) (h : ∀ w' s', Inv X pins σ H s' → RelV (o.getD .non) w' → Q w' s') :
    wpAny (model X.prog X.w) A (call (.builtin "dict.get") [.ref a, u]) Q E s := by
  rcases g with ⟨kvs, k, e, ey, l⟩ | ⟨kvs, k, b, e, ey, eb, l⟩
  · subst ey
    obtain ⟨z, hd, vs, rel, dd⟩ := dk_rd I.hok e
    refine call_meetsIn PySem.F.slot_dict_get dd.typeIs PySem.F.entry_dict_get (PySem.F.args_dict_get_2 _ _) (meets_dict_get (mixKind X.prog X.w) a (kV_is ry) hd) ⟨_, dd.mapOf, h _ _ (I.tok _) ?_⟩
    rw [l]
    exact (rel.val k).getD rfl
  · subst ey
    cases (show u = Value.ref b from ry)
    obtain ⟨z, hd, xs, rel, dd⟩ := dt_rd I.hok e
    refine call_meetsIn PySem.F.slot_dict_get dd.typeIs PySem.F.entry_dict_get (PySem.F.args_dict_get_2 _ _) (meetsH_dict_get (tupleKind (mixKind X.prog X.w)) a b hd) ⟨tupleKind_room_in1 hu, k, xs, key_of I.hok eb, dd, h _ _ (I.tok _) ?_⟩
    rw [l]
    exact (rel.val k).getD rfl
/-- d.get(y, x) -/
theorem d_get2 {Q : Value → Shared → Prop} (hu : A.units + 1 < cLine) (I : Inv X pins σ H s) (g : DGet H a y o) (ry : RelV y u) (rd : RelV d r) (h : ∀ w' s', Inv X pins σ H s' → RelV (o.getD d) w' → Q w' s') :
    wpAny (model X.prog X.w) A (call (.builtin "dict.get") [.ref a, u, r]) Q E s := by
  rcases g with ⟨kvs, k, e, ey, l⟩ | ⟨kvs, k, b, e, ey, eb, l⟩
  · subst ey
    obtain ⟨z, hd, vs, rel, dd⟩ := dk_rd I.hok e
    refine call_meetsIn PySem.F.slot_dict_get dd.typeIs PySem.F.entry_dict_get (PySem.F.args_dict_get_3 _ _ _) (meets_dict_get_default (mixKind X.prog X.w) a (kV_is ry) hd r) ⟨_, dd.mapOf, h _ _ (I.tok _) ?_⟩
    rw [l]
    exact (rel.val k).getD rd
  · subst ey
    cases (show u = Value.ref b from ry)
    obtain ⟨z, hd, xs, rel, dd⟩ := dt_rd I.hok e
    refine call_meetsIn PySem.F.slot_dict_get dd.typeIs PySem.F.entry_dict_get (PySem.F.args_dict_get_3 _ _ _) (meetsH_dict_get_default (tupleKind (mixKind X.prog X.w)) a b hd r) ⟨tupleKind_room_in1 hu, k, xs, key_of I.hok eb, dd, h _ _ (I.tok _) ?_⟩
    rw [l]
    exact (rel.val k).getD rd
end

def tDGet1 (td ty : TE) : TE := fun σ H Q => td σ H fun x H1 => ∃ a, x = .ref a ∧ IsD H1 a ∧ ty σ H1 fun y H2 => ∃ o, DGet H2 a y o ∧ Q (o.getD .non) H2
def tDGet2 (td ty tx : TE) : TE := fun σ H Q => td σ H fun x H1 => ∃ a, x = .ref a ∧ IsD H1 a ∧ ty σ H1 fun y H2 => tx σ H2 fun z H3 => ∃ o, DGet H3 a y o ∧ Q (o.getD z) H3
/-- d.pop(k): there; d.pop(k, x): there or not -/
def tDPop1 (td ty : TE) : TE := fun σ H Q => td σ H fun x H1 => ∃ a, x = .ref a ∧ IsD H1 a ∧ ty σ H1 fun y H2 => ∃ kvs k v, H2 a = some (.dK kvs) ∧ y = kV k ∧ valV kvs k = some v ∧ Q v (upd H2 a (.dK (dropK kvs k)))
def tDPop2 (td ty tx : TE) : TE := fun σ H Q => td σ H fun x H1 => ∃ a, x = .ref a ∧ IsD H1 a ∧ ty σ H1 fun y H2 => tx σ H2 fun z H3 => ∃ kvs k, H3 a = some (.dK kvs) ∧ y = kV k ∧
  (∀ v, valV kvs k = some v → Q v (upd H3 a (.dK (dropK kvs k)))) ∧ (valV kvs k = none → Q z H3)
section
variable {X : Cx} {o e f : Expr} {apos cpos : Pos} {td ty tx : TE}
theorem pe_dget1 (hu : X.A.units + 1 < cLine) (ho : PE X o td) (he : PE X e ty) (m : M1 X o "get" apos e cpos) : PE X (.Call (.Attribute o "get" apos) [e] [] cpos) (tDGet1 td ty) := by
  intro pins s σ H Q I h
  refine wpAny_Call_method m.base m.few m.line PySem.F.plainAttrs_dict PySem.F.slot_dict_get PySem.F.type_dict_get (thn (ho pins s σ H _ I h) fun u s1 ⟨x, H1, I1, rx, a, ex, d, q1⟩ => ?_)
  subst ex
  obtain rfl : u = Value.ref a := rx
  obtain ⟨t1, t2, _⟩ := isD_at I1 d
  refine ⟨t1, t2, ?_⟩
  rw [m.trees]
  refine Calls.callWith_builtin rfl (Calls.evalArgs_plain (Calls.spliced_cons (thn (he pins s1 σ H1 _ I1 q1) fun iv s2 ⟨y, H2, I2, ry, ov, g, q2⟩ => Calls.spliced_nil ?_)))
  exact d_get1 hu I2 g ry fun w' s3 I3 rw' => ⟨_, H2, I3, rw', q2⟩
theorem pe_dget2 (hu : X.A.units + 1 < cLine) (ho : PE X o td) (he : PE X e ty) (hf : PE X f tx) (m : M2 X o "get" apos e f cpos) : PE X (.Call (.Attribute o "get" apos) [e, f] [] cpos) (tDGet2 td ty tx) := by
  intro pins s σ H Q I h
  refine wpAny_Call_method m.base m.few m.line PySem.F.plainAttrs_dict PySem.F.slot_dict_get PySem.F.type_dict_get (thn (ho pins s σ H _ I h) fun u s1 ⟨x, H1, I1, rx, a, ex, d, q1⟩ => ?_)
  subst ex
  obtain rfl : u = Value.ref a := rx
  obtain ⟨t1, t2, _⟩ := isD_at I1 d
  refine ⟨t1, t2, ?_⟩
  rw [m.trees]
  refine Calls.callWith_builtin rfl (Calls.evalArgs_plain (Calls.spliced_cons (thn (he pins s1 σ H1 _ I1 q1) fun iv s2 ⟨y, H2, I2, ry, q2⟩ =>
    Calls.spliced_cons (thn (hf pins s2 σ H2 _ I2 q2) fun fv s3 ⟨z, H3, I3, rz, ov, g, q3⟩ => Calls.spliced_nil ?_))))
  exact d_get2 hu I3 g ry rz fun w' s4 I4 rw' => ⟨_, H3, I4, rw', q3⟩
theorem pe_dpop1 (ho : PE X o td) (he : PE X e ty) (m : M1 X o "pop" apos e cpos) : PE X (.Call (.Attribute o "pop" apos) [e] [] cpos) (tDPop1 td ty) := by
  intro pins s σ H Q I h
  refine wpAny_Call_method m.base m.few m.line PySem.F.plainAttrs_dict PySem.F.slot_dict_pop PySem.F.type_dict_pop (thn (ho pins s σ H _ I h) fun u s1 ⟨x, H1, I1, rx, a, ex, d, q1⟩ => ?_)
  subst ex
  obtain rfl : u = Value.ref a := rx
  obtain ⟨t1, t2, _⟩ := isD_at I1 d
  refine ⟨t1, t2, ?_⟩
  rw [m.trees]
  refine Calls.callWith_builtin rfl (Calls.evalArgs_plain (Calls.spliced_cons (thn (he pins s1 σ H1 _ I1 q1) fun iv s2 ⟨y, H2, I2, ry, kvs, k, v, ea, ey, l, q2⟩ => Calls.spliced_nil ?_)))
  subst ey
  exact d_pop I2 ea ry l (.inl rfl) fun w' s3 I3 rw' => ⟨v, _, I3, rw', q2⟩
theorem pe_dpop2 (ho : PE X o td) (he : PE X e ty) (hf : PE X f tx) (m : M2 X o "pop" apos e f cpos) : PE X (.Call (.Attribute o "pop" apos) [e, f] [] cpos) (tDPop2 td ty tx) := by
  intro pins s σ H Q I h
  refine wpAny_Call_method m.base m.few m.line PySem.F.plainAttrs_dict PySem.F.slot_dict_pop PySem.F.type_dict_pop (thn (ho pins s σ H _ I h) fun u s1 ⟨x, H1, I1, rx, a, ex, d, q1⟩ => ?_)
  subst ex
  obtain rfl : u = Value.ref a := rx
  obtain ⟨t1, t2, _⟩ := isD_at I1 d
  refine ⟨t1, t2, ?_⟩
  rw [m.trees]
  refine Calls.callWith_builtin rfl (Calls.evalArgs_plain (Calls.spliced_cons (thn (he pins s1 σ H1 _ I1 q1) fun iv s2 ⟨y, H2, I2, ry, q2⟩ =>
    Calls.spliced_cons (thn (hf pins s2 σ H2 _ I2 q2) fun fv s3 ⟨z, H3, I3, rz, kvs, k, ea, ey, q3, q4⟩ => Calls.spliced_nil ?_))))
  subst ey
  cases l : valV kvs k with
  | some v => exact d_pop I3 ea ry l (.inr ⟨fv, rfl⟩) fun w' s4 I4 rw' => ⟨v, _, I4, rw', q3 v l⟩
  | none => exact d_popD I3 ea ry l fun s4 I4 => ⟨z, H3, I4, rz, q4 l⟩
end

/-! ### dict(d): a copy -/
section
variable {X : Cx} {pins : List (Addr × Obj)} {σ : St} {H : Hp} {s : Shared} {a : Addr} {kvs : List (Key × V)} {A : Around} {E : Value → Shared → Prop}
theorem d_copyOf {Q : Value → Shared → Prop} (I : Inv X pins σ H s) (e : Rd H a (.dK kvs)) (h : ∀ p s', H p = none → Inv X pins σ (upd H p (.dK kvs)) s' → Q (.ref p) s') : wpAny (model X.prog X.w) A (call (.type "dict") [.ref a]) Q E s := by
  obtain ⟨z, hd, vs, rel, dd⟩ := dk_rd I.hok e
  refine kt_call_dict hd dd (by rw [← rel.length]; exact z) fun h' dd' hs => ?_
  refine h _ _ (I.hok.fresh (Nat.le_refl _)) (I.laid (a := s.heap.objs.size) (o := .dK kvs) (t' := s.toks) (fun b q hq => ?_) (Nat.le_refl _) (dk_new z (beq_eq_false_iff_ne.mpr (Ne.symm (Nat.ne_of_lt I.big))) rel dd'))
  exact (hs.2 b (Nat.ne_of_lt (Heap.lt_size hq))).trans (Heap.get?_push_of_some _ hq)
end


section
variable {X : Cx} {pins : List (Addr × Obj)} {σ : St} {H : Hp} {s : Shared} {a : Addr} {y : V} {u : Value} {A : Around} {E : Value → Shared → Prop}
/-- d[y], not there: a KeyError -/
theorem d_missing {Q : Value → Shared → Prop} (hu : A.units + 1 < cLine) (hh : A.handled = none) (I : Inv X pins σ H s) (g : DGet H a y none) (ry : RelV y u)
    (h : ∀ h' e t', Heap.NewExc s.heap h' e "KeyError" → E (.ref e) { s with heap := h', toks := t' }) : wpAny (model X.prog X.w) A (getItem (.ref a) u) Q E s := by
  rcases g with ⟨kvs, k, e, ey, l⟩ | ⟨kvs, k, b, e, ey, eb, l⟩
  · subst ey
    obtain ⟨z, hd, vs, rel, dd⟩ := dk_rd I.hok e
    have hn : valueAt vs k = none := RelO.none_of (by rw [l]; exact rel.val k)
    exact wpAny_getItem_missing_of (kV_is ry) hd hh dd.mapOf hn fun h' ex ne => h h' ex _ ne
  · subst ey
    cases (show u = Value.ref b from ry)
    obtain ⟨z, hd, xs, rel, dd⟩ := dt_rd I.hok e
    have hn : (atKey xs k).map (·.2) = none := RelO.none_of (by rw [l]; exact rel.val k)
    exact wpAny_getItem_missing_heap (tupleKind_room_in1 hu) (key_of I.hok eb) hd hh dd (Option.map_eq_none_iff.mp hn) fun h' ex ne => h h' ex _ ne
end
end L2

namespace HT
open PySem PyProof.Rows

/-- t < u of tuples of ints -/
def lexLt : List Int → List Int → Bool
  | [], [] => false
  | [], _ :: _ => true
  | _ :: _, [] => false
  | x :: xs, y :: ys => if x = y then lexLt xs ys else decide (x < y)
theorem lexLt_cons (x y : Int) (xs ys : List Int) : lexLt (x :: xs) (y :: ys) = if x = y then lexLt xs ys else decide (x < y) := rfl
theorem lexLt_nil_nil : lexLt [] [] = false := rfl
theorem lexLt_nil_cons (y : Int) (ys : List Int) : lexLt [] (y :: ys) = true := rfl
theorem lexLt_cons_nil (x : Int) (xs : List Int) : lexLt (x :: xs) [] = false := rfl

theorem eqAt_int (A : Around) (s : Shared) (a : Int) (t : Tok) (c : Int) (u : Tok) : ∃ e, SeqAt.EqAt A s (.int a t) (.int c u) e ∧ (e = true ↔ a = c) :=
  ⟨(a == c), SeqAt.EqAt.int_int a t c u, by simp⟩
theorem rcLt_int (A : Around) (s : Shared) (a : Int) (t : Tok) (c : Int) (u : Tok) (prog : Program) (w : World) (E : Value → Shared → Prop) (Q : Value → Shared → Prop) (h : Q (.bool (decide (a < c))) s) :
    wpAny (model prog w) A (richCompare .Lt (.int a t) (.int c u)) Q E s :=
  (PyProof.Rows.lt_int h : wpAny (model prog w) A (compareOp .Lt (.int a t) (.int c u)) Q E s)

section
open PySem.SeqAt
open PySem.AutoSeq1 (wpAny_loadPart')
open PySem.MeetsSeq PySem.MeetsSeq2 PySem.MeetsSeq3

theorem tuple_lt_ints (l b : Addr) (items items2 : Array Value) (n n2 : Nat) (dd dd2 : Option Addr) (sl sl2 : Array (Option Value)) (ns ms : List Int) (hi : IntsAre items.toList ns) (hj : IntsAre items2.toList ms) :
    Meets (Builtin.«tuple.__lt__» ⟨[.ref l, .ref b], []⟩)
      (fun _ R s => s.heap.get? l = some { cls := .type "tuple", dict := dd, data := .seq items n, slots := sl } ∧ s.heap.get? b = some { cls := .type "tuple", dict := dd2, data := .seq items2 n2, slots := sl2 } ∧
        R (.ok (.ret (.bool (lexLt ns ms)))) s) :=
  .of_wp fun prog w A R s h => by
    obtain ⟨hp, g, d, tk, os⟩ := s; obtain ⟨hl, hb, h⟩ := h
    have f2 := AutoSeq1.sub_tuple_tuple
    have z1 : items.size = ns.length := by rw [← hi.length]; simp
    have z2 : items2.size = ms.length := by rw [← hj.length]; simp
    wp_walk using wpAny_loadPart' hl, wpAny_loadPart' hb, wpAny_forIn_list _ (fun rest b s' => b.1 = none ∧ s' = ⟨hp, g, d, tk, os⟩ ∧ ∃ (vs ws : List Value) (ns' ms' : List Int), rest = vs.zip ws ∧
      IntsAre vs ns' ∧ IntsAre ws ms' ∧ ns'.length + items2.size = ms'.length + items.size ∧ R (.ok (.ret (.bool (lexLt ns' ms')))) ⟨hp, g, d, tk, os⟩) _
    case turn =>
      rintro ⟨y, x⟩ rest b s' ⟨hb', rfl, vs, ws, ns', ms', hz, hvi, hwi, hlen, hR⟩
      cases hvi with
      | nil => rw [List.zip_nil_left] at hz; cases hz
      | cons a t hvi' =>
        cases hwi with
        | nil => rw [List.zip_nil_right] at hz; cases hz
        | cons c u hwi' =>
          rw [List.zip_cons_cons] at hz
          injection hz with hyx hrest
          injection hyx with hy hx
          subst hy hx
          rw [lexLt_cons] at hR
          simp only [List.length_cons] at hlen
          obtain ⟨e, he, hiff⟩ := eqAt_int A.in1 ⟨hp, g, d, tk, os⟩ a t c u
          refine wpAny_bind (he prog w _ _ ?_)
          cases e with
          | true =>
            rw [if_pos (hiff.mp rfl)] at hR
            wp_walk
            exact ⟨rfl, rfl, _, _, _, _, hrest, hvi', hwi', by omega, hR⟩
          | false =>
            rw [if_neg (fun q => absurd (hiff.mpr q) Bool.false_ne_true)] at hR
            have hri := rcLt_int A.in1 ⟨hp, g, d, tk, os⟩ a t c u prog w
            wp_walk using hri
            exact ⟨_, rfl, by simpa using hR⟩
    case fin =>
      rintro ⟨b1, b2⟩ s' ⟨hb', rfl, vs, ws, ns', ms', hz, hvi, hwi, hlen, hR⟩
      simp only at hb'
      subst hb'
      have hv : lexLt ns' ms' = decide (items.size < items2.size) := by
        cases hvi with
        | nil =>
          cases hwi with
          | nil =>
            simp only [List.length_nil] at hlen
            rw [lexLt_nil_nil]
            exact (decide_eq_false (by omega)).symm
          | cons c u hw =>
            simp only [List.length_nil, List.length_cons] at hlen
            rw [lexLt_nil_cons]
            exact (decide_eq_true (by omega)).symm
        | cons a t hv =>
          cases hwi with
          | nil =>
            simp only [List.length_nil, List.length_cons] at hlen
            rw [lexLt_cons_nil]
            exact (decide_eq_false (by omega)).symm
          | cons c u hw =>
            rw [List.zip_cons_cons] at hz
            cases hz
      rw [hv] at hR
      wp_walk
      exact ⟨_, rfl, by simpa [Builtin.Tuple.tupleCompareSizes] using hR⟩
    case h =>
      exact ⟨rfl, rfl, items.toList, items2.toList, ns, ms, rfl, hi, hj, by omega, h⟩
end

section
variable {prog : Program} {w : World} {A : Around} {E : Value → Shared → Prop} {s : Shared}

theorem lt_tupInts {l b : Addr} {items items2 : Array Value} {ns ms : List Int} {Q : Value → Shared → Prop} (hl : IsTup s.heap l items) (hb : IsTup s.heap b items2) (hi : IntsAre items.toList ns) (hj : IntsAre items2.toList ms)
    (hu : A.units < cLine) (h : Q (.bool (lexLt ns ms)) s) : wpAny (model prog w) A (compareOp .Lt (.ref l) (.ref b)) Q E s := by
  obtain ⟨⟨cls, dd, data, sl⟩, ho, hc, n, hd⟩ := id hl
  obtain ⟨⟨cls2, dd2, data2, sl2⟩, ho2, hc2, n2, hd2⟩ := id hb
  simp only at hc hd hc2 hd2
  subst hc hd hc2 hd2
  exact richCompare_meets_room (op := .Lt) ⟨_, ho, rfl⟩ ⟨_, ho2, rfl⟩ PySem.F.slot_tuple_lt PySem.F.entry_tuple_lt (PySem.F.args_tuple_lt_2 _ _) (tuple_lt_ints l b items items2 n n2 dd dd2 sl sl2 ns ms hi hj)
    ⟨ho, ho2, show Value.bool (lexLt ns ms) ≠ Value.notImplemented ∧ Q (.bool (lexLt ns ms)) s from ⟨(fun x => nomatch x), h⟩⟩ hu

/-- t + u, t not empty -/
theorem cat_tup {t b : Addr} {vs ws : List Value} {Q : Value → Shared → Prop} (ht : IsTup s.heap t vs.toArray) (hb : IsTup s.heap b ws.toArray) (hv : vs ≠ [])
    (h1 : ws = [] → Q (.ref t) s) (h2 : ws ≠ [] → Q (.ref s.heap.objs.size) { s with heap := s.heap.push { cls := .type "tuple", data := .seq (vs ++ ws).toArray } })
    (hsz : vs.length + ws.length ≤ sizeLine) : wpAny (model prog w) A (binaryOp .Add (.ref t) (.ref b)) Q E s := by
  obtain ⟨⟨cls, dd, data, sl⟩, ho, hc, n, hd⟩ := id ht
  obtain ⟨⟨cls2, dd2, data2, sl2⟩, ho2, hc2, n2, hd2⟩ := id hb
  simp only at hc hd hc2 hd2
  subst hc hd hc2 hd2
  have e : vs.toArray ++ ws.toArray = (vs ++ ws).toArray := by simp
  by_cases hw : ws = []
  · exact concat_meets ⟨_, ho, rfl⟩ ⟨_, ho2, rfl⟩ noFill_tuple_add seq_tuple_add PySem.F.slot_tuple_add PySem.F.entry_tuple_add (PySem.F.args_tuple_add_2 _ _)
      (tuple_addW1 t b vs.toArray ws.toArray n n2 dd dd2 sl sl2 (by simpa using hv) (by simp [hw])) ⟨ho, ho2, h1 hw⟩
  · refine concat_meets ⟨_, ho, rfl⟩ ⟨_, ho2, rfl⟩ noFill_tuple_add seq_tuple_add PySem.F.slot_tuple_add PySem.F.entry_tuple_add (PySem.F.args_tuple_add_2 _ _)
      (tuple_addW2 t b vs.toArray ws.toArray n n2 dd dd2 sl sl2 (by simpa using hv) (by simpa using hw) (by rw [List.size_toArray, List.size_toArray]; exact hsz)) ⟨ho, ho2, ?_⟩
    rw [e]
    exact h2 hw

/-! ### t[a:b], not the whole -/
/-- a slice's bound as a place among n (d where it is left out) -/
def sIx (n d : Nat) : Option Int → Nat
  | none => d
  | some v => if v < 0 then (v + (n : Int)).toNat else min v.toNat n
theorem sIx_none (n d : Nat) : sIx n d none = d := rfl
theorem sIx_nat (n d k : Nat) : sIx n d (some (k : Int)) = min k n := by
  show (if (k : Int) < 0 then ((k : Int) + (n : Int)).toNat else min (k : Int).toNat n) = min k n
  rw [if_neg (by omega), Int.toNat_natCast]
theorem sIx_le (n d : Nat) (hd : d ≤ n) (o : Option Int) : sIx n d o ≤ n := by
  cases o with
  | none => exact hd
  | some v =>
    show (if v < 0 then (v + (n : Int)).toNat else min v.toNat n) ≤ n
    by_cases hv : v < 0
    · rw [if_pos hv]; omega
    · rw [if_neg hv]; exact Nat.min_le_right _ _
theorem clip_eq (v : Int) (n d : Nat) : (if v < 0 then max (v + (n : Int)) 0 else min v (n : Int)) = ((sIx n d (some v) : Nat) : Int) := by
  show (if v < 0 then max (v + (n : Int)) 0 else min v (n : Int)) = (((if v < 0 then (v + (n : Int)).toNat else min v.toNat n) : Nat) : Int)
  by_cases hv : v < 0
  · simp only [if_pos hv]; omega
  · simp only [if_neg hv]; omega
theorem adjust_gen (lo hi : Option Int) (n : Nat) : Builtin.Slice.sliceAdjust lo hi 1 (n : Int) = (((sIx n 0 lo : Nat) : Int), ((sIx n n hi : Nat) : Int)) := by
  have h1 : ¬ ((1 : Int) < 0) := by omega
  unfold Builtin.Slice.sliceAdjust
  simp only [h1, if_false]
  refine Prod.ext ?_ ?_
  · cases lo with
    | none => rfl
    | some v => exact clip_eq v n 0
  · cases hi with
    | none => rfl
    | some v => exact clip_eq v n n
theorem places_gen (i j : Nat) : Builtin.Slice.slicePlaces (i : Int) (j : Int) 1 = j - i := by
  unfold Builtin.Slice.slicePlaces
  have h1 : (1 : Int) > 0 := by omega
  simp only [h1, if_true, Int.ediv_one]
  split <;> omega
theorem slicePart_ {v : Value} {o : Option Int} {Q : Option Int → Shared → Prop} (p : IsPart v o) (h : Q o s) : wpAny (model prog w) A (Builtin.Slice.slicePartIndex v) Q E s := by
  cases p with
  | none => exact slicePart_none h
  | int i t => exact slicePart_int h
theorem sliceApplied_gen {sl : Addr} {vl vu : Value} {lo hi : Option Int} {n : Nat} {Q : Int × Int × Nat → Shared → Prop} (hs : s.heap.IsSliceOf sl vl vu .none) (pl : IsPart vl lo) (pu : IsPart vu hi)
    (h : Q (((sIx n 0 lo : Nat) : Int), 1, sIx n n hi - sIx n 0 lo) s) : wpAny (model prog w) A (Builtin.Slice.sliceApplied (.ref sl) (pure (n : Int))) Q E s := by
  obtain ⟨os, hos, hcs, hds⟩ := id hs
  unfold Builtin.Slice.sliceApplied Builtin.Slice.sliceFields
  refine wpAny_bind (wpAny_bind (wpAny_field hos hds (x := vl) rfl (wpAny_bind (wpAny_field hos hds (x := vu) rfl (wpAny_bind (wpAny_field hos hds (x := .none) rfl (wpAny_pure ?_)))))))
  refine wpAny_bind (slicePart_none ?_)
  show wpAny _ _ (if ((1 : Int) == 0) = true then _ else _) _ _ s
  rw [if_neg (by decide)]
  refine wpAny_bind (slicePart_ pl (wpAny_bind (slicePart_ pu (wpAny_bind (wpAny_pure ?_)))))
  show wpAny _ _ (match Builtin.Slice.sliceAdjust lo hi 1 (n : Int) with | (lo, hi) => pure (lo, (1 : Int), Builtin.Slice.slicePlaces lo hi 1)) _ _ s
  rw [adjust_gen lo hi n]
  show wpAny _ _ (pure (((sIx n 0 lo : Nat) : Int), (1 : Int), Builtin.Slice.slicePlaces ((sIx n 0 lo : Nat) : Int) ((sIx n n hi : Nat) : Int) 1)) _ _ s
  rw [places_gen]
  exact wpAny_pure h
theorem pick_gen (xs : Array Value) (i k : Nat) : ((List.range k).filterMap fun (m : Nat) => xs[((i : Int) + (m : Int) * 1).toNat]?).toArray = ((xs.toList.drop i).take k).toArray := by
  have e : (fun (m : Nat) => xs[((i : Int) + (m : Int) * 1).toNat]?) = fun m => xs[i + m]? := by
    funext m
    have : ((i : Int) + (m : Int) * 1).toNat = i + m := by omega
    rw [this]
  rw [e]
  have := pick_run xs i k
  rw [List.filterMap_map] at this
  have e2 : ((fun x => xs[x]?) ∘ fun x => i + x) = fun m => xs[i + m]? := rfl
  rw [e2] at this
  rw [this]

theorem getItem_tuple_cut {t sl : Addr} {items : Array Value} {vl vu : Value} {lo hi : Option Int} {Q : Value → Shared → Prop} (ht : IsTup s.heap t items) (hs : s.heap.IsSliceOf sl vl vu .none) (pl : IsPart vl lo) (pu : IsPart vu hi)
    (hw : ¬ (sIx items.size 0 lo = 0 ∧ sIx items.size items.size hi = items.size))
    (h : Q (.ref s.heap.objs.size) { s with heap := s.heap.push { cls := .type "tuple", data := .seq ((items.toList.drop (sIx items.size 0 lo)).take (sIx items.size items.size hi - sIx items.size 0 lo)).toArray } })
    (hsz : items.size ≤ sizeLine) : wpAny (model prog w) A (getItem (.ref t) (.ref sl)) Q E s := by
  have htake : sizeOk (.seq ((items.toList.drop (sIx items.size 0 lo)).take (sIx items.size items.size hi - sIx items.size 0 lo)).toArray) := by
    show ((items.toList.drop (sIx items.size 0 lo)).take (sIx items.size items.size hi - sIx items.size 0 lo)).toArray.size ≤ sizeLine
    rw [List.size_toArray, List.length_take, List.length_drop, Array.length_toList]
    omega
  have hj : sIx items.size items.size hi ≤ items.size := sIx_le _ _ (Nat.le_refl _) hi
  obtain ⟨os, hos, hcs, hds⟩ := id hs
  have hTs : s.TypeIs (.ref sl) "slice" := ⟨os, hos, hcs⟩
  unfold getItem
  try with_reducible refine wpAny_holding ?_
  first | refine wpAny_bind (wpAny_pure ?_) | skip
  refine wpAny_bind (wpAny_sequenceKey ht.typeIs (by decide) ?_)
  refine wpAny_bind (wpAny_callSpecial?_slot (name := Str.ofString "__getitem__") ht.typeIs PyProof.Rows.slot_tuple_getitem
    (wpAny_call_entry PyProof.Rows.slot_tuple_getitem ht.typeIs entry_tuple_getitem ?_ (args_tuple_getitem _ _)))
  show wpAny _ _ (Builtin.Tuple.tupleItemsOf (.ref t) >>= _) _ _ s
  refine wpAny_bind (tupleItemsOf_ ht ?_)
  refine wpAny_bind (wpAny_typeOf hTs ?_)
  rw [if_pos (by decide)]
  refine wpAny_bind (sliceApplied_gen hs pl pu ?_)
  have hno : ¬ ((((sIx items.size 0 lo : Nat) : Int) == 0 && (1 : Int) == 1 && (sIx items.size items.size hi - sIx items.size 0 lo) == items.size) = true) := by
    intro q
    rw [Bool.and_eq_true, Bool.and_eq_true] at q
    have q1 : ((sIx items.size 0 lo : Nat) : Int) = 0 := eq_of_beq q.1.1
    have q2 : sIx items.size items.size hi - sIx items.size 0 lo = items.size := eq_of_beq q.2
    exact hw ⟨by omega, by omega⟩
  show wpAny _ _ (if (((sIx items.size 0 lo : Nat) : Int) == 0 && (1 : Int) == 1 && (sIx items.size items.size hi - sIx items.size 0 lo) == items.size) = true then _ else _) _ _ s
  rw [if_neg hno, pick_gen]
  first
    | exact wpAny_bind (m := Builtin.Tuple.tupleExact _) (wpAny_newObj_type (wpAny_pure ⟨_, rfl, wpAny_pure h⟩) htake)
    | exact wpAny_bind (m := Builtin.Tuple.tupleExact _) (wpAny_newObj_type (wpAny_bind (wpAny_pure (wpAny_pure ⟨_, rfl, wpAny_pure h⟩))) htake)
    | exact wpAny_bind (wpAny_bind (m := Builtin.Tuple.tupleExact _) (wpAny_newObj_type (wpAny_pure (wpAny_pure ⟨_, rfl, wpAny_pure h⟩)) htake))
    | exact wpAny_bind (wpAny_bind (m := Builtin.Tuple.tupleExact _) (wpAny_newObj_type (wpAny_pure ⟨_, rfl, wpAny_pure h⟩) htake))
end
end HT

namespace L2
open PySem PySem.Spec PyProof.Rows

/-! ### the parts of a slice -/
abbrev TO := St → Hp → (Option Int → Hp → Prop) → Prop
/-- a slice's part (left out, or an int) -/
def PO (X : Cx) (e : Option Expr) (t : TO) : Prop :=
  ∀ (pins : List (Addr × Obj)) (s : Shared) (σ : St) (H : Hp) (Q : Option Int → Hp → Prop), Inv X pins σ H s → t σ H Q →
    wpAny (model X.prog X.w) X.A (evalPart e X.env) (fun u s' => ∃ o H', Inv X pins σ H' s' ∧ IsPart u o ∧ Q o H') X.xe s
def tNoPart : TO := fun _ H Q => Q none H
def tPart (t : TE) : TO := fun σ H Q => t σ H fun x H1 => ∃ i, x = .int i ∧ Q (some i) H1

theorem intsAre_of {ns : List Int} : ∀ {us : List Value}, Vals (ns.map V.int) us → IntsAre us ns := by
  induction ns with
  | nil => intro us r; rw [List.map_nil] at r; cases r; exact .nil
  | cons n ns ih =>
    intro us r
    rw [List.map_cons] at r
    cases r with
    | cons r1 r2 =>
      obtain ⟨t, e⟩ := r1
      subst e
      exact .cons n t (ih r2)

section
variable {X : Cx} {e : Expr} {te : TE} {lo hi : Option Expr} {tl th : TO} {pos p2 : Pos}

theorem po_none : PO X none tNoPart := by
  intro pins s σ H Q I h
  rw [evalPart_none]
  exact wpAny_pure ⟨none, H, I, .none, h⟩
theorem po_some (h : PE X e te) : PO X (some e) (tPart te) := by
  intro pins s σ H Q I hw
  rw [evalPart_some]
  refine thn (h pins s σ H _ I hw) fun u s1 ⟨x, H1, I1, r1, q1⟩ => ?_
  obtain ⟨i, rfl, q⟩ := q1
  obtain ⟨t, rfl⟩ := r1
  exact ⟨some i, H1, I1, .int i t, q⟩

/-- what a slice of a value is, by values: the slice object stands at sl -/
def SlR (X : Cx) (r : V → Option Int → Option Int → Hp → VK → Prop) : Prop :=
  ∀ (pins : List (Addr × Obj)) (s : Shared) (σ : St) (H : Hp) (x : V) (v vl vu : Value) (lo hi : Option Int) (sl : Addr) (Q : VK), Inv X pins σ H s → RelV x v → s.heap.IsSliceOf sl vl vu .none → IsPart vl lo → IsPart vu hi → r x lo hi H Q →
    ∃ T id, typeLookup (.type T) "__getitem__" = pure (some (.builtin id)) ∧ s.TypeIs v T ∧ wpAny (model X.prog X.w) X.A (getItem v (.ref sl)) (EP X pins σ Q) X.xe s
theorem SlR.or {r r' : V → Option Int → Option Int → Hp → VK → Prop} (h : SlR X r) (h' : SlR X r') : SlR X (fun x lo hi H Q => r x lo hi H Q ∨ r' x lo hi H Q) := by
  intro pins s σ H x v vl vu lo hi sl Q I rx hs pl pu q
  rcases q with q | q
  · exact h pins s σ H x v vl vu lo hi sl Q I rx hs pl pu q
  · exact h' pins s σ H x v vl vu lo hi sl Q I rx hs pl pu q
def tSl (r : V → Option Int → Option Int → Hp → VK → Prop) (te : TE) (tl th : TO) : TE := fun σ H Q => te σ H fun x H1 => tl σ H1 fun l H2 => th σ H2 fun u H3 => r x l u H3 Q
/-- a[lo:hi], any a -/
theorem pe_slice {r : V → Option Int → Option Int → Hp → VK → Prop} (hr : SlR X r) (he : PE X e te) (hl : PO X lo tl) (hu : PO X hi th) : PE X (.Subscript e (.Slice lo hi none p2) pos) (tSl r te tl th) := by
  intro pins s σ H Q I h
  refine Subscript_ (thn (he pins s σ H _ I h) fun v s1 ⟨x, H1, I1, r1, q1⟩ => ?_)
  refine wpAny_Slice (thn (hl pins s1 σ H1 _ I1 q1) fun vl s2 ⟨l, H2, I2, pl, q2⟩ => thn (hu pins s2 σ H2 _ I2 q2) fun vu s3 ⟨u, H3, I3, pu, q3⟩ => ?_)
  rw [evalPart_none]
  refine wpAny_pure ?_
  have I4 : Inv X pins σ H3 { s3 with heap := s3.heap.push { cls := .type "slice", data := .fields #[vl, vu, .none] } } := I3.kept (t' := s3.toks) fun b ob q => Heap.get?_push_of_some _ q
  obtain ⟨T, id, hT, ht, hg⟩ := hr pins { s3 with heap := s3.heap.push { cls := .type "slice", data := .fields #[vl, vu, .none] } } σ H3 x v vl vu l u s3.heap.objs.size Q I4 r1 (Heap.IsSliceOf.new ..) pl pu q3
  show wpAny (model X.prog X.w) X.A (subscriptTail e (.Slice lo hi none p2) v (.ref s3.heap.objs.size)) (EP X pins σ Q) X.xe { s3 with heap := s3.heap.push { cls := .type "slice", data := .fields #[vl, vu, .none] } }
  exact tail_any (ops := [.ref s3.heap.objs.size, v]) ht hT hg (by with_unfolding_all rfl)

/-- the items of xs[lo:hi] -/
def cutV (xs : List V) (lo hi : Option Int) : List V := (xs.drop (HT.sIx xs.length 0 lo)).take (HT.sIx xs.length xs.length hi - HT.sIx xs.length 0 lo)
theorem cutV_length (xs : List V) (lo hi : Option Int) : (cutV xs lo hi).length ≤ xs.length := by
  unfold cutV
  rw [List.length_take, List.length_drop]
  omega
/-- t[lo:hi], not the whole of it (the whole would be t itself) -/
def rSlT (K : PySem.W.Frag) : V → Option Int → Option Int → Hp → VK → Prop := fun x lo hi H Q => ∃ a xs, x = .ref a ∧ SqT K H a xs ∧
  ¬ (HT.sIx xs.length 0 lo = 0 ∧ HT.sIx xs.length xs.length hi = xs.length) ∧ ∀ p, H p = none → Q (.ref p) (upd H p (.tup (cutV xs lo hi)))
theorem sl_tup : SlR X (rSlT X.K) := by
  intro pins s σ H x v vl vu lo hi sl Q I rx hs pl pu h
  obtain ⟨a, xs, rfl, hx, hw, q⟩ := h
  cases rx
  obtain ⟨its, r, ht, hz⟩ := I.tuple hx
  have hlen : its.toArray.size = xs.length := by rw [List.size_toArray]; exact r.length.symm
  refine ⟨"tuple", _, PyProof.Rows.slot_tuple_getitem.lookup, ht.typeIs, ?_⟩
  refine HT.getItem_tuple_cut ht hs pl pu (by rw [hlen]; exact hw) ?_ (by rw [hlen]; exact hz)
  rw [hlen]
  refine ⟨.ref s.heap.objs.size, _, I.laid (t' := s.toks) (o := .tup (cutV xs lo hi)) (fun b ob q => Heap.get?_push_of_some _ q) (Nat.le_refl _) ?_, rfl, q _ (I.hok.fresh (Nat.le_refl _))⟩
  exact ⟨Nat.le_trans (cutV_length xs lo hi) hz, _, (r.drop (HT.sIx xs.length 0 lo)).take (HT.sIx xs.length xs.length hi - HT.sIx xs.length 0 lo), IsTup.new _ _⟩

/-! ### t < u, t + u -/
def rLtT (K : PySem.W.Frag) : R2 := fun x y H Q => ∃ a b ns ms, x = .ref a ∧ y = .ref b ∧ SqT K H a (ns.map V.int) ∧ SqT K H b (ms.map V.int) ∧ Q (.bl (HT.lexLt ns ms)) H
theorem op_ltT (hu : X.A.units < cLine) : OpR X (compareOp .Lt) (rLtT X.K) := by
  intro pins s σ H x y v u Q I rx ry h
  obtain ⟨a, b, ns, ms, rfl, rfl, ha, hb, q⟩ := h
  cases rx
  cases ry
  obtain ⟨its, r1, p1, _⟩ := I.tuple ha
  obtain ⟨its2, r2, p2, _⟩ := I.tuple hb
  have i1 : IntsAre its.toArray.toList ns := intsAre_of r1
  have i2 : IntsAre its2.toArray.toList ms := intsAre_of r2
  exact HT.lt_tupInts p1 p2 i1 i2 hu ⟨.bl (HT.lexLt ns ms), H, I, rfl, q⟩
/-- t + u, t not empty: u empty gives t itself -/
def rCatT (K : PySem.W.Frag) : R2 := fun x y H Q => ∃ a b xs ys, x = .ref a ∧ y = .ref b ∧ SqT K H a xs ∧ SqT K H b ys ∧ xs ≠ [] ∧ xs.length + ys.length ≤ sizeLine ∧
  (ys = [] → Q (.ref a) H) ∧ (ys ≠ [] → ∀ p, H p = none → Q (.ref p) (upd H p (.tup (xs ++ ys))))
theorem Vals.nil_iff {xs : List V} {us : List Value} (r : Vals xs us) : us = [] ↔ xs = [] := by
  cases r with
  | nil => simp
  | cons _ _ => simp
theorem op_catT : OpR X (binaryOp .Add) (rCatT X.K) := by
  intro pins s σ H x y v u Q I rx ry h
  obtain ⟨a, b, xs, ys, rfl, rfl, ha, hb, hx, hz, q1, q2⟩ := h
  cases rx
  cases ry
  obtain ⟨its, r1, p1, _⟩ := I.tuple ha
  obtain ⟨its2, r2, p2, _⟩ := I.tuple hb
  refine HT.cat_tup p1 p2 (fun z => hx (r1.nil_iff.mp z)) (fun z => ⟨.ref a, H, I, rfl, q1 (r2.nil_iff.mp z)⟩) (fun z => ?_) (by rw [← r1.length, ← r2.length]; exact hz)
  refine ⟨.ref s.heap.objs.size, _, I.laid (t' := s.toks) (o := .tup (xs ++ ys)) (fun b ob q => Heap.get?_push_of_some _ q) (Nat.le_refl _) ?_, rfl, q2 (fun w => z (r2.nil_iff.mpr w)) _ (I.hok.fresh (Nat.le_refl _))⟩
  exact ⟨by rw [List.length_append]; exact hz, _, r1.append r2, IsTup.new _ _⟩
/-- tuple(t) -/
theorem call_tupleT : CallR X (.type "tuple") (fun xs H Q => ∃ a ys, xs = [.ref a] ∧ SqT X.K H a ys ∧ Q (.ref a) H) := by
  intro pins s σ H xs us Q I r h
  obtain ⟨a, ys, rfl, ha, q⟩ := h
  obtain ⟨u, rfl, ru⟩ := vals1 r
  cases ru
  obtain ⟨its, _, p1, _⟩ := I.tuple ha
  exact call_tuple_same (items := its.toArray) p1 ⟨.ref a, H, I, rfl, q⟩
end
end L2

namespace L2
open PySem PySem.Spec PyProof.Rows

/-! ### places -/
/-- the place that an index of any sign means -/
def ixN (n : Nat) (i : Int) : Option Nat := if 0 ≤ i then (if i < n then some i.toNat else none) else if -(n : Int) ≤ i then some (i + n).toNat else none
def atI {α : Type} (xs : List α) (i : Int) : Option α := (ixN xs.length i).bind fun j => xs[j]?
theorem ixN_seq {n : Nat} {i : Int} {j : Nat} (h : ixN n i = some j) : seqIndex? i n = some j ∧ j < n ∧ -(n : Int) ≤ i ∧ i < n := by
  unfold ixN at h
  by_cases h0 : 0 ≤ i
  · rw [if_pos h0] at h
    by_cases h1 : i < n
    · rw [if_pos h1] at h
      have e : i.toNat = j := Option.some.inj h
      exact ⟨by rw [seqIndex_of h0 h1, e], by omega, by omega, h1⟩
    · rw [if_neg h1] at h; cases h
  · rw [if_neg h0] at h
    by_cases h1 : -(n : Int) ≤ i
    · rw [if_pos h1] at h
      have e : (i + n).toNat = j := Option.some.inj h
      exact ⟨by rw [seqIndex_neg (by omega) h1, e], by omega, h1, by omega⟩
    · rw [if_neg h1] at h; cases h
theorem atI_get {α : Type} {xs : List α} {i : Int} {v : α} (h : atI xs i = some v) : ∃ j, seqIndex? i xs.length = some j ∧ xs[j]? = some v ∧ j < xs.length ∧ -(xs.length : Int) ≤ i ∧ i < xs.length := by
  unfold atI at h
  cases e : ixN xs.length i with
  | none => rw [e] at h; cases h
  | some j =>
    rw [e] at h
    obtain ⟨h1, h2, h3, h4⟩ := ixN_seq e
    exact ⟨j, h1, h, h2, h3, h4⟩
theorem atI_nat {α : Type} {xs : List α} {j : Nat} {v : α} (h : xs[j]? = some v) : atI xs (j : Int) = some v := by
  have hj : j < xs.length := (List.getElem?_eq_some_iff.mp h).1
  have e : ixN xs.length (j : Int) = some j := by
    unfold ixN
    rw [if_pos (by omega), if_pos (by omega)]; simp
  unfold atI; rw [e]; exact h
theorem atI_last {α : Type} (xs : List α) (v : α) : atI (xs ++ [v]) (-1) = some v := by
  have hl : (xs ++ [v]).length = xs.length + 1 := by simp
  have e : ixN (xs ++ [v]).length (-1) = some xs.length := by
    unfold ixN
    rw [hl, if_neg (by decide), if_pos (by omega)]
    congr 1
    omega
  unfold atI
  rw [e]
  show (xs ++ [v])[xs.length]? = some v
  simp

/-! ### what may be subscripted -/
/-- what stands as an index of a plain subscript -/
def PlainIx (b : Expr) : Prop := ∀ o i, subscripted b false o i = operate [o, i] (getItem o i)
/-- a subscript by values -/
def IxR (X : Cx) (r : R2) : Prop :=
  ∀ (value slice : Expr) (pins : List (Addr × Obj)) (s : Shared) (σ : St) (H : Hp) (x y : V) (v u : Value) (Q : VK), Inv X pins σ H s → RelV x v → RelV y u → r x y H Q →
    subscripted slice false v u = operate [v, u] (getItem v u) → wpAny (model X.prog X.w) X.A (subscriptTail value slice v u) (EP X pins σ Q) X.xe s
/-- a call of a builtin's method by values: the receiver, the arguments -/
def MtR (X : Cx) (id : String) (r : V → List V → Hp → VK → Prop) : Prop :=
  ∀ (pins : List (Addr × Obj)) (s : Shared) (σ : St) (H : Hp) (x : V) (xs : List V) (v : Value) (us : List Value) (Q : VK), Inv X pins σ H s → RelV x v → Vals xs us → r x xs H Q →
    wpAny (model X.prog X.w) X.A (call (.builtin id) (v :: us)) (EP X pins σ Q) X.xe s
section
variable {X : Cx} {a b : Expr} {ta tb : TE} {pos : Pos}
theorem IxR.or {r r' : R2} (h : IxR X r) (h' : IxR X r') : IxR X (fun x y H Q => r x y H Q ∨ r' x y H Q) := by
  intro value slice pins s σ H x y v u Q I rx ry q hs
  rcases q with q | q
  · exact h value slice pins s σ H x y v u Q I rx ry q hs
  · exact h' value slice pins s σ H x y v u Q I rx ry q hs
theorem MtR.or {id : String} {r r' : V → List V → Hp → VK → Prop} (h : MtR X id r) (h' : MtR X id r') : MtR X id (fun x xs H Q => r x xs H Q ∨ r' x xs H Q) := by
  intro pins s σ H x xs v us Q I rx rs q
  rcases q with q | q
  · exact h pins s σ H x xs v us Q I rx rs q
  · exact h' pins s σ H x xs v us Q I rx rs q
/-- a[b] -/
theorem pe_ix {r : R2} (hr : IxR X r) (ha : PE X a ta) (hb : PE X b tb) (hs : PlainIx b) : PE X (.Subscript a b pos) (tOp r ta tb) := by
  intro pins s σ H Q I h
  exact Subscript_ (binT ha hb I h fun v u s2 x y H2 I2 rx ry q => hr a b pins s2 σ H2 x y v u Q I2 rx ry q (hs _ _))

def rIxL (K : PySem.W.Frag) : R2 := fun x y H Q => ∃ p xs i v, x = .ref p ∧ y = .int i ∧ SqL K H p xs ∧ atI xs i = some v ∧ Q v H
def rIxT (K : PySem.W.Frag) : R2 := fun x y H Q => ∃ p xs i v, x = .ref p ∧ y = .int i ∧ SqT K H p xs ∧ atI xs i = some v ∧ Q v H
def rIxS : R2 := fun x y H Q => ∃ z i c, x = .str z ∧ y = .int i ∧ z.length ≤ sizeLine ∧ atI z.cps.toList i = some c ∧ Q (.str ⟨#[c]⟩) H
theorem ix_list : IxR X (rIxL X.K) := by
  intro value slice pins s σ H x y v u Q I rx ry h hs
  obtain ⟨p, xs, i, z, rfl, rfl, hq, he, q⟩ := h
  cases rx
  obtain ⟨t, rfl⟩ := ry
  obtain ⟨its, r, pl, hz⟩ := I.list hq
  obtain ⟨j, h1, h2, h3, h4, h5⟩ := atI_get he
  obtain ⟨w, ew, rw'⟩ := r.get h2
  have hl := r.length
  have hn := line63
  have fin : EP X pins σ Q w s := ⟨z, H, I, rw', q⟩
  by_cases h0 : 0 ≤ i
  · have hj : i.toNat = j := by
      rw [seqIndex_of h0 h5] at h1
      exact Option.some.inj h1
    exact item_listR pl.isList h0 (by omega) (by rw [hj]; simpa using ew) fin hs
  · have hj : (i + (its.toArray.size : Int)).toNat = j := by
      rw [seqIndex_neg (by omega) h4] at h1
      rw [List.size_toArray, ← hl]
      exact Option.some.inj h1
    exact subscriptTail_builtinR (x := w) pl.isList.typeIs slot_list_getitem.lookup
      (wpAny_getItem_list_neg (Q := fun r s' => r = w ∧ EP X pins σ Q r s') pl.isList (by omega) (by rw [List.size_toArray] <;> omega) (by omega) (by rw [hj]; simpa using ew) ⟨rfl, fin⟩) hs
theorem ix_tup : IxR X (rIxT X.K) := by
  intro value slice pins s σ H x y v u Q I rx ry h hs
  obtain ⟨p, xs, i, z, rfl, rfl, hq, he, q⟩ := h
  cases rx
  obtain ⟨t, rfl⟩ := ry
  obtain ⟨its, r, pl, hz⟩ := I.tuple hq
  obtain ⟨j, h1, h2, h3, h4, h5⟩ := atI_get he
  obtain ⟨w, ew, rw'⟩ := r.get h2
  have hl := r.length
  have hn := line63
  have fin : EP X pins σ Q w s := ⟨z, H, I, rw', q⟩
  exact subscriptTail_builtinR (x := w) pl.typeIs slot_tuple_getitem.lookup
    (getItem_tuple (j := j) (Q := fun r s' => r = w ∧ EP X pins σ Q r s') pl (by omega) (by omega) (by rw [List.size_toArray, ← hl]; exact h1) (by simpa using ew) ⟨rfl, fin⟩) hs
theorem ix_str : IxR X rIxS := by
  intro value slice pins s σ H x y v u Q I rx ry h hs
  obtain ⟨z, i, c, rfl, rfl, hz, he, q⟩ := h
  obtain ⟨t, rfl⟩ := rx
  obtain ⟨t', rfl⟩ := ry
  obtain ⟨j, h1, h2, h3, h4, h5⟩ := atI_get he
  have hl : z.cps.toList.length = z.length := by simp [Str.length]
  rw [hl] at h1 h4 h5
  have hn := line63
  exact tail_any (typeIs_str s z t) slot_str_getitem.lookup (getItem_str (c := c) (by
    have e1 : decide (i < -(2 ^ 63 : Int)) = false := decide_eq_false (by omega)
    have e2 : decide (i ≥ 2 ^ 63) = false := decide_eq_false (by omega)
    rw [e1, e2, Bool.or_false]) (by rw [h1]; simpa using h2) ⟨.str ⟨#[c]⟩, H, I.tok _, ⟨_, rfl⟩, q⟩) hs
/-- list, tuple or str -/
def rIx (K : PySem.W.Frag) : R2 := fun x y H Q => rIxL K x y H Q ∨ rIxT K x y H Q ∨ rIxS x y H Q
theorem ix_seq : IxR X (rIx X.K) := ix_list.or (ix_tup.or ix_str)

/-! ### xs[i] = v, any sign -/
/-- the list's object behind a store -/
theorem mapSeq_set (its : List Value) (n j : Nat) (u : Value) : Obj.mapSeq (·.setIfInBounds j u) { cls := .type "list", data := .seq its.toArray n } = { cls := .type "list", data := .seq (its.set j u).toArray n } := by
  simp [Obj.mapSeq]
theorem Inv.lst {pins : List (Addr × Obj)} {σ : St} {H : Hp} {s : Shared} {p : Addr} {xs : List V} (I : Inv X pins σ H s) (h : H p = some (.lst xs)) :
    ∃ (its : List Value) (n : Nat), Vals xs its ∧ s.heap.get? p = some { cls := .type "list", data := .seq its.toArray n } ∧ xs.length ≤ sizeLine := by
  obtain ⟨z, its, n, r, e⟩ := I.hok p _ h
  exact ⟨its, n, r, e, z⟩
/-- the list at p is written by an update of its object -/
theorem Inv.lstUpd {pins : List (Addr × Obj)} {σ : St} {H : Hp} {s : Shared} {p : Addr} {xs ys : List V} {its its' : List Value} {n n' : Nat} {f : Obj → Obj} (I : Inv X pins σ H s) (h : H p = some (.lst xs))
    (ho : s.heap.get? p = some { cls := .type "list", data := .seq its.toArray n }) (hf : f { cls := .type "list", data := .seq its.toArray n } = { cls := .type "list", data := .seq its'.toArray n' }) (r : Vals ys its') (hz : ys.length ≤ sizeLine) (t : Nat) :
    Inv X pins σ (upd H p (.lst ys)) { s with heap := s.heap.update p f, toks := t } := by
  have e : (s.heap.update p f).get? p = some { cls := .type "list", data := .seq its'.toArray n' } := by
    rw [Heap.get?_update_self f ho (by rw [hf] <;> rfl), hf]
  refine I.write (x := p) (e := p) (by rw [h]; trivial) (.inl rfl) (fun b u hb q => (Heap.get?_update_other _ _ (Ne.symm hb)).trans q) ⟨_, e⟩ ?_
  exact ⟨hz, its', n', r, e⟩
def rSetL : V → V → V → Hp → (Hp → Prop) → Prop := fun o i v H Q => ∃ p xs k j, o = .ref p ∧ i = .int k ∧ H p = some (.lst xs) ∧ ixN xs.length k = some j ∧ Q (upd H p (.lst (xs.set j v)))
theorem set_list : PSet X rSetL := by
  intro pins s σ H o i v ov iv u Q I ro ri rv h
  obtain ⟨p, xs, k, j, rfl, rfl, hp, hj, q⟩ := h
  cases ro
  obtain ⟨t, rfl⟩ := ri
  obtain ⟨its, n, r, ho, hz⟩ := I.lst hp
  obtain ⟨h1, h2, h3, h4⟩ := ixN_seq hj
  have hl := r.length
  have hn := line63
  have I' : Inv X pins σ (upd H p (.lst (xs.set j v))) { s with heap := s.heap.update p (Obj.mapSeq (·.setIfInBounds j u)) } :=
    I.lstUpd hp ho (mapSeq_set its n j u) (r.set rv j) (by rw [List.length_set]; exact hz) s.toks
  by_cases h0 : 0 ≤ k
  · have hk : k.toNat = j := by
      rw [seqIndex_of h0 h4] at h1
      exact Option.some.inj h1
    exact PySem.W.ki_setAt ho h0 (by omega) (by rw [List.size_toArray, ← hl]; exact h4) (by rw [hk]; exact ⟨_, I', q⟩)
  · have hk : (k + (its.toArray.size : Int)).toNat = j := by
      rw [seqIndex_neg (by omega) h3] at h1
      rw [List.size_toArray, ← hl]
      exact Option.some.inj h1
    exact PySem.W.ki_setBack ho (by omega) (by rw [List.size_toArray, ← hl]; exact h3) (by omega) (by rw [hk]; exact ⟨_, I', q⟩)

/-! ### slices -/
theorem slice_bounds (lo hi : Option Int) (n : Nat) : (sliceBounds lo hi none n).1 = ((HT.sIx n 0 lo : Nat) : Int) ∧ (sliceBounds lo hi none n).2.1 = ((HT.sIx n n hi : Nat) : Int) ∧ (sliceBounds lo hi none n).2.2 = 1 := by
  refine ⟨?_, ?_, rfl⟩
  · cases lo with
    | none => simp [sliceBounds, HT.sIx]
    | some i =>
      simp only [sliceBounds, HT.sIx, Option.getD_none, show (1 : Int) > 0 by decide, if_true]
      by_cases h : i < 0
      · simp only [h, if_true] <;> omega
      · simp only [h, if_false] <;> omega
  · cases hi with
    | none => simp [sliceBounds, HT.sIx]
    | some i =>
      simp only [sliceBounds, HT.sIx, Option.getD_none, show (1 : Int) > 0 by decide, if_true]
      by_cases h : i < 0
      · simp only [h, if_true] <;> omega
      · simp only [h, if_false] <;> omega
theorem slicePick_cut (its : List Value) (lo hi : Option Int) : slicePick its.toArray lo hi none = ((its.drop (HT.sIx its.length 0 lo)).take (HT.sIx its.length its.length hi - HT.sIx its.length 0 lo)).toArray := by
  obtain ⟨h1, h2, h3⟩ := slice_bounds lo hi its.toArray.size
  unfold slicePick
  rw [h1, h2, h3]
  simp only [sliceRange_one, pick_run, List.size_toArray] <;> rfl
/-- xs[lo:hi] of a list: a new list -/
def rSlL (K : PySem.W.Frag) : V → Option Int → Option Int → Hp → VK → Prop := fun x lo hi H Q => ∃ a xs, x = .ref a ∧ SqL K H a xs ∧ ∀ p, H p = none → Q (.ref p) (upd H p (.lst (cutV xs lo hi)))
theorem sl_list : SlR X (rSlL X.K) := by
  intro pins s σ H x v vl vu lo hi sl Q I rx hs pl pu h
  obtain ⟨a, xs, rfl, hx, q⟩ := h
  cases rx
  obtain ⟨its, r, ht, hz⟩ := I.list hx
  have hlen := r.length
  refine ⟨"list", _, slot_list_getitem.lookup, ht.isList.typeIs, ?_⟩
  refine wpAny_getItem_list_slice ht.isList hs pl pu .none (by simp) ?_ (by rw [List.size_toArray] <;> omega)
  rw [slicePick_cut, ← hlen]
  refine ⟨.ref s.heap.objs.size, _, I.laid (t' := s.toks) (o := .lst (cutV xs lo hi)) (fun b ob q => Heap.get?_push_of_some _ q) (Nat.le_refl _) ?_, rfl, q _ (I.hok.fresh (Nat.le_refl _))⟩
  exact ⟨Nat.le_trans (cutV_length xs lo hi) hz, _, 0, (r.drop (HT.sIx xs.length 0 lo)).take (HT.sIx xs.length xs.length hi - HT.sIx xs.length 0 lo), Heap.get?_push_size _ rfl⟩

/-! ### in, not in: flat items -/
def flatV : V → Bool
  | .non => true
  | .bl _ => true
  | .int _ => true
  | .str _ => true
  | _ => false
/-- == of flat values -/
def eqV : V → V → Bool
  | .non, .non => true
  | .bl a, .bl b => a == b
  | .bl a, .int b => (if a then 1 else 0) == b
  | .int a, .bl b => a == (if b then 1 else 0)
  | .int a, .int b => a == b
  | .str a, .str b => a == b
  | _, _ => false
theorem eqAt_V {A : Around} {s : Shared} {y x : V} {u v : Value} (ry : RelV y u) (rx : RelV x v) (fy : flatV y = true) (fx : flatV x = true) : SeqAt.EqAt A s u v (eqV y x) := by
  cases y with
  | non =>
    cases ry
    cases x with
    | non => cases rx; exact SeqAt.EqAt.same _
    | bl b => cases rx; exact SeqAt.EqAt.none_bool b
    | int b => obtain ⟨t, rfl⟩ := rx; exact SeqAt.EqAt.none_int b t
    | str b => obtain ⟨t, rfl⟩ := rx; exact SeqAt.EqAt.none_str b t
    | _ => exact absurd (show false = true from fx) Bool.false_ne_true
  | bl a =>
    cases ry
    cases x with
    | non => cases rx; exact SeqAt.EqAt.bool_none a
    | bl b => cases rx; exact SeqAt.EqAt.bool_bool a b
    | int b => obtain ⟨t, rfl⟩ := rx; exact SeqAt.EqAt.bool_int a b t
    | str b => obtain ⟨t, rfl⟩ := rx; exact SeqAt.EqAt.bool_str a b t
    | _ => exact absurd (show false = true from fx) Bool.false_ne_true
  | int a =>
    obtain ⟨t', rfl⟩ := ry
    cases x with
    | non => cases rx; exact SeqAt.EqAt.int_none a t'
    | bl b => cases rx; exact SeqAt.EqAt.int_bool a t' b
    | int b => obtain ⟨t, rfl⟩ := rx; exact SeqAt.EqAt.int_int a t' b t
    | str b => obtain ⟨t, rfl⟩ := rx; exact SeqAt.EqAt.int_str a t' b t
    | _ => exact absurd (show false = true from fx) Bool.false_ne_true
  | str a =>
    obtain ⟨t', rfl⟩ := ry
    cases x with
    | non => cases rx; exact SeqAt.EqAt.str_none a t'
    | bl b => cases rx; exact SeqAt.EqAt.str_bool a t' b
    | int b => obtain ⟨t, rfl⟩ := rx; exact SeqAt.EqAt.str_int a t' b t
    | str b => obtain ⟨t, rfl⟩ := rx; exact SeqAt.EqAt.str_str a t' b t
    | _ => exact absurd (show false = true from fx) Bool.false_ne_true
  | _ => exact absurd (show false = true from fy) Bool.false_ne_true
/-- the items' answers, read off the values (a value's own answer does not lean on its token) -/
def eqU (x : V) (u : Value) : Bool := match u with
  | .none => eqV .non x
  | .bool b => eqV (.bl b) x
  | .int i _ => eqV (.int i) x
  | .str z _ => eqV (.str z) x
  | _ => false
theorem eqU_of {x y : V} {u : Value} (r : RelV y u) (f : flatV y = true) : eqU x u = eqV y x := by
  cases y with
  | non => cases r; rfl
  | bl b => cases r; rfl
  | int i => obtain ⟨t, rfl⟩ := r; rfl
  | str z => obtain ⟨t, rfl⟩ := r; rfl
  | _ => exact absurd (show false = true from f) Bool.false_ne_true
theorem any_eqU {x : V} : ∀ {xs : List V} {us : List Value}, Vals xs us → xs.all flatV = true → us.any (eqU x) = xs.any fun y => eqV y x
  | _, _, .nil, _ => rfl
  | y :: xs, u :: us, .cons r t, f => by
    rw [List.all_cons, Bool.and_eq_true] at f
    rw [List.any_cons, List.any_cons, eqU_of r f.1, any_eqU t f.2]
theorem mem_eqAt {A : Around} {s : Shared} {x : V} {v : Value} (rx : RelV x v) (fx : flatV x = true) : ∀ {xs : List V} {us : List Value}, Vals xs us → xs.all flatV = true → ∀ u ∈ us, SeqAt.EqAt A s u v (eqU x u)
  | _, _, .nil, _ => fun u hu => by cases hu
  | y :: xs, u :: us, .cons r t, f => fun u' hu => by
    rw [List.all_cons, Bool.and_eq_true] at f
    rcases List.mem_cons.mp hu with rfl | hu
    · rw [eqU_of r f.1]; exact eqAt_V r rx f.1 fx
    · exact mem_eqAt rx fx t f.2 u' hu
def inV (x : V) (xs : List V) : Bool := xs.any fun y => eqV y x
/-- x in a list or tuple of flat items -/
def rIn (K : PySem.W.Frag) (neg : Bool) : R2 := fun x y H Q => ∃ p xs, y = .ref p ∧ (SqL K H p xs ∨ SqT K H p xs) ∧ flatV x = true ∧ xs.all flatV = true ∧ Q (.bl (if neg then !inV x xs else inV x xs)) H
theorem op_in_seq : OpR X (compareOp .In) (rIn X.K false) := by
  intro pins s σ H x y v u Q I rx ry h
  obtain ⟨p, xs, rfl, hq, fx, fs, q⟩ := h
  cases ry
  rcases hq with hq | hq
  · obtain ⟨its, r, pl, hz⟩ := I.list hq
    refine SeqAt.in_listAt (eqU x) pl.isList (fun w hw => mem_eqAt rx fx r fs w (by simpa using hw)) ⟨.bl _, H, I, rfl, ?_⟩
    rw [show its.toArray.any (eqU x) = its.any (eqU x) by simp, any_eqU r fs]
    exact q
  · obtain ⟨its, r, pl, hz⟩ := I.tuple hq
    refine SeqAt.in_tupleAt (eqU x) pl (fun w hw => mem_eqAt rx fx r fs w (by simpa using hw)) ⟨.bl _, H, I, rfl, ?_⟩
    rw [show its.toArray.any (eqU x) = its.any (eqU x) by simp, any_eqU r fs]
    exact q
theorem op_notIn_seq : OpR X (compareOp .NotIn) (rIn X.K true) := by
  intro pins s σ H x y v u Q I rx ry h
  obtain ⟨p, xs, rfl, hq, fx, fs, q⟩ := h
  cases ry
  rcases hq with hq | hq
  · obtain ⟨its, r, pl, hz⟩ := I.list hq
    refine SeqAt.notIn_listAt (eqU x) pl.isList (fun w hw => mem_eqAt rx fx r fs w (by simpa using hw)) ⟨.bl _, H, I, rfl, ?_⟩
    rw [show its.toArray.any (eqU x) = its.any (eqU x) by simp, any_eqU r fs]
    exact q
  · obtain ⟨its, r, pl, hz⟩ := I.tuple hq
    refine SeqAt.notIn_tupleAt (eqU x) pl (fun w hw => mem_eqAt rx fx r fs w (by simpa using hw)) ⟨.bl _, H, I, rfl, ?_⟩
    rw [show its.toArray.any (eqU x) = its.any (eqU x) by simp, any_eqU r fs]
    exact q
theorem op_notIn_str : OpR X (compareOp .NotIn) (fun x y H Q => ∃ i j, x = .str i ∧ y = .str j ∧ Q (.bl (!(!(Builtin.Str.occurrences j i 0 j.length 1).isEmpty))) H) := by
  intro pins s σ H x y v u Q I rx ry h
  obtain ⟨i, j, rfl, rfl, q⟩ := h
  obtain ⟨t, rfl⟩ := rx
  obtain ⟨t', rfl⟩ := ry
  exact notIn_str ⟨.bl _, H, I, rfl, q⟩

/-! ### len, list(x), tuple(x) of any list or tuple that is read -/
theorem call_len_seq : CallR X (.builtin "len") (fun xs H Q => ∃ p ys, xs = [.ref p] ∧ (SqL X.K H p ys ∨ SqT X.K H p ys) ∧ Q (.int ys.length) H) := by
  intro pins s σ H xs us Q I r h
  obtain ⟨p, ys, rfl, hq, q⟩ := h
  obtain ⟨u, rfl, rx⟩ := vals1 r
  cases rx
  have hn := line63
  rcases hq with hq | hq
  · obtain ⟨its, r', pl, hz⟩ := I.list hq
    have hlen := r'.length
    exact Calls.call_len_list pl.isList (by simp only [List.size_toArray] <;> omega) ⟨.int ys.length, H, I.tok _, ⟨s.toks + 1, by rw [List.size_toArray, hlen]⟩, q⟩
  · obtain ⟨its, r', pl, hz⟩ := I.tuple hq
    have hlen := r'.length
    exact len_tuple pl (by simp only [List.size_toArray] <;> omega) ⟨.int ys.length, H, I.tok _, ⟨s.toks + 1, by rw [List.size_toArray, hlen]⟩, q⟩
theorem call_len_str : CallR X (.builtin "len") (fun xs H Q => ∃ z, xs = [.str z] ∧ z.length ≤ sizeLine ∧ Q (.int z.length) H) := by
  intro pins s σ H xs us Q I r h
  obtain ⟨z, rfl, hz, q⟩ := h
  obtain ⟨u, rfl, t, rfl⟩ := vals1 r
  have hn := line63
  exact len_str (by omega) ⟨.int z.length, H, I.tok _, ⟨_, rfl⟩, q⟩
theorem CallR.or {f : Value} {r r' : List V → Hp → VK → Prop} (h : CallR X f r) (h' : CallR X f r') : CallR X f (fun xs H Q => r xs H Q ∨ r' xs H Q) := by
  intro pins s σ H xs us Q I rs q
  rcases q with q | q
  · exact h pins s σ H xs us Q I rs q
  · exact h' pins s σ H xs us Q I rs q
theorem call_list_of : CallR X (.type "list") (fun xs H Q => ∃ p ys, xs = [.ref p] ∧ (SqL X.K H p ys ∨ SqT X.K H p ys) ∧ ∀ l, H l = none → Q (.ref l) (upd H l (.lst ys))) := by
  intro pins s σ H xs us Q I r h
  obtain ⟨p, ys, rfl, hq, q⟩ := h
  obtain ⟨u, rfl, rx⟩ := vals1 r
  cases rx
  have fin : ∀ (its : List Value), Vals ys its → ys.length ≤ sizeLine → ∀ (h' : Heap) (c' : Nat), (∀ b o', s.heap.get? b = some o' → h'.get? b = some o') →
      h'.get? s.heap.objs.size = some { cls := .type "list", dict := none, data := .seq its.toArray c', slots := #[] } → EP X pins σ Q (.ref s.heap.objs.size) { s with heap := h' } := fun its r' hz h' c' kp e =>
    ⟨.ref s.heap.objs.size, _, I.laid (t' := s.toks) kp (Nat.le_refl _) (show ObjOk X.prog X.w _ h' _ (.lst ys) from ⟨hz, its, c', r', e⟩), rfl, q _ (I.hok.fresh (Nat.le_refl _))⟩
  rcases hq with hq | hq
  · obtain ⟨its, r', pl, hz⟩ := I.list hq
    have hlen := r'.length
    obtain ⟨o, ho, hc, n, hd⟩ := pl.isList
    exact call_list_seq p (.inl rfl) ho hc hd (fun h' c' kp e => fin its r' hz h' c' kp e) (by simp only [List.size_toArray] <;> omega)
  · obtain ⟨its, r', pl, hz⟩ := I.tuple hq
    have hlen := r'.length
    obtain ⟨o, ho, hc, n, hd⟩ := pl
    exact call_list_seq p (.inr rfl) ho hc hd (fun h' c' kp e => fin its r' hz h' c' kp e) (by simp only [List.size_toArray] <;> omega)
theorem call_tuple_of : CallR X (.type "tuple") (fun xs H Q => ∃ p ys, xs = [.ref p] ∧ ((SqL X.K H p ys ∧ ∀ l, H l = none → Q (.ref l) (upd H l (.tup ys))) ∨ (SqT X.K H p ys ∧ Q (.ref p) H))) := by
  intro pins s σ H xs us Q I r h
  obtain ⟨p, ys, rfl, h⟩ := h
  obtain ⟨u, rfl, rx⟩ := vals1 r
  cases rx
  rcases h with ⟨hq, q⟩ | ⟨hq, q⟩
  · obtain ⟨its, r', pl, hz⟩ := I.list hq
    have hlen := r'.length
    refine call_tuple_list pl.isList (fun h' kp => ?_) (by simp only [List.size_toArray] <;> omega)
    have I1 : Inv X pins σ H { s with heap := h' } := I.kept (t' := s.toks) kp
    have I2 : Inv X pins σ (upd H h'.objs.size (.tup ys)) { s with heap := h'.push { cls := .type "tuple", data := .seq its.toArray } } :=
      I1.laid (t' := s.toks) (fun b o e => Heap.get?_push_of_some _ e) (Nat.le_refl _) (show ObjOk X.prog X.w _ _ _ (.tup ys) from ⟨hz, its, r', IsTup.new _ _⟩)
    exact ⟨.ref h'.objs.size, _, I2, rfl, q _ (I1.hok.fresh (Nat.le_refl _))⟩
  · obtain ⟨its, r', pl, hz⟩ := I.tuple hq
    exact call_tuple_same pl ⟨.ref p, H, I, rfl, q⟩

/-! ### the call of a builtin's method: o.m(..) -/
/-- the value is of that builtin type -/
def tyV (K : PySem.W.Frag) (T : String) (x : V) (H : Hp) : Prop := match x with
  | .str _ => T = "str"
  | .int _ => T = "int"
  | .ref p => (T = "list" ∧ ∃ xs, SqL K H p xs) ∨ (T = "tuple" ∧ ∃ o, K.lookup p = some o ∧ o.cls = .type "tuple" ∧ o.dict = none) ∨
      (T = "dict" ∧ ((∃ kvs, H p = some (.dK kvs)) ∨ ∃ kvs, H p = some (.dT kvs))) ∨ (T = "set" ∧ ∃ S n, H p = some (.set S n))
  | _ => False
theorem tyV_is {pins : List (Addr × Obj)} {σ : St} {H : Hp} {s : Shared} {T : String} {x : V} {v : Value} (I : Inv X pins σ H s) (r : RelV x v) (ty : tyV X.K T x H) :
    s.TypeIs v T ∧ ∀ a, v = .ref a → ∃ ob, s.heap.get? a = some ob ∧ ob.dict = none := by
  cases x with
  | str z =>
    obtain ⟨t, rfl⟩ := r
    cases (show T = "str" from ty)
    exact ⟨typeIs_str s z t, fun _ e => nomatch e⟩
  | int i =>
    obtain ⟨t, rfl⟩ := r
    cases (show T = "int" from ty)
    exact ⟨typeIs_int s i t, fun _ e => nomatch e⟩
  | ref p =>
    cases r
    rcases ty with ⟨rfl, xs, hq⟩ | ⟨rfl, o, hk, hc, hd⟩ | ⟨rfl, hk⟩ | ⟨rfl, S, n, hk⟩
    · obtain ⟨its, _, pl, _⟩ := I.list hq
      refine ⟨pl.isList.typeIs, fun a e => ?_⟩
      cases e
      obtain ⟨o, n, e, c, hd, _⟩ := pl
      exact ⟨o, e, hd⟩
    · refine ⟨⟨o, I.kIn p o hk, hc⟩, fun a e => ?_⟩
      cases e
      exact ⟨o, I.kIn _ o hk, hd⟩
    · have z : ∃ o, s.heap.get? p = some o ∧ o.ExactDict := by
        rcases hk with ⟨kvs, hk⟩ | ⟨kvs, hk⟩
        · obtain ⟨_, _, _, _, o, _, _, e, ex, _⟩ := I.hok p _ hk
          exact ⟨o, e, ex⟩
        · obtain ⟨_, _, _, _, o, _, _, e, ex, _⟩ := I.hok p _ hk
          exact ⟨o, e, ex⟩
      obtain ⟨o, e, ex⟩ := z
      refine ⟨⟨o, e, ex.1⟩, fun a e2 => ?_⟩
      cases e2
      exact ⟨o, e, ex.2.1⟩
    · obtain ⟨o, _, _, _, e, ex, _⟩ := I.hok p _ hk
      refine ⟨⟨o, e, ex.1⟩, fun a e2 => ?_⟩
      cases e2
      exact ⟨o, e, ex.2.1⟩
  | _ => exact False.elim ty
def tBM0 (K : PySem.W.Frag) (T : String) (r : V → List V → Hp → VK → Prop) (to : TE) : TE := fun σ H Q => to σ H fun x H1 => tyV K T x H1 ∧ r x [] H1 Q
def tBM (K : PySem.W.Frag) (T : String) (r : V → List V → Hp → VK → Prop) (to : TE) (t : TA) : TE := fun σ H Q => to σ H fun x H1 => tyV K T x H1 ∧ t σ H1 fun xs H2 => r x xs H2 Q
variable {o e : Expr} {es : List Expr} {to : TE} {t : TA} {name : Str} {apos cpos : Pos} {T id : String} {r : V → List V → Hp → VK → Prop}
theorem pe_bm0 (pa : PlainAttrs T) (slot : Slot T name id) (hty : typeOf (.builtin id) = pure (.type "method_descriptor")) (hm : MtR X id r) (ho : PE X o to)
    (hbase : attributeBase o name X.env (eval o X.env) = eval o X.env := by rfl) (hline : (apos.endLine == cpos.line) = true := by rfl) : PE X (.Call (.Attribute o name apos) [] [] cpos) (tBM0 X.K T r to) := by
  intro pins s σ H Q I h
  refine wpAny_Call_method0_late hbase hline (thn (ho pins s σ H _ I h) fun v s1 ⟨x, H1, I1, r1, ty, q1⟩ => ?_)
  obtain ⟨h1, h2⟩ := tyV_is I1 r1 ty
  exact ⟨T, id, pa, slot, hty, h1, h2, Calls.callWith_builtin rfl (PySem.evalArgs_none (hm pins s1 σ H1 x [] v [] Q I1 r1 .nil q1))⟩
theorem pe_bm (pa : PlainAttrs T) (slot : Slot T name id) (hty : typeOf (.builtin id) = pure (.type "method_descriptor")) (hm : MtR X id r) (ho : PE X o to) (ha : PA X (e :: es) t)
    (hbase : attributeBase o name X.env (eval o X.env) = eval o X.env := by rfl)
    (hfew : ((backTo cpos (starEach (e :: es) X.env)).all (fun x => !x.1) && (backToKw cpos (keywordEach [] X.env)).all (fun x => x.1.isSome)
      && decide ((e :: es).length + ([] : List Keyword).length + (if ([] : List Keyword).isEmpty then 0 else 1) < 30)) = true := by rfl)
    (hline : (apos.endLine == cpos.line) = true := by rfl) (hs : starEach (e :: es) X.env = (false, eval e X.env) :: starEach es X.env := by rfl) (hplain : (backTo cpos (starEach es X.env)).any (·.1) = false := by rfl) :
    PE X (.Call (.Attribute o name apos) (e :: es) [] cpos) (tBM X.K T r to t) := by
  intro pins s σ H Q I h
  refine wpAny_Call_method_late hbase hfew hline rfl (thn (ho pins s σ H _ I h) fun v s1 ⟨x, H1, I1, r1, ty, q1⟩ => ?_)
  obtain ⟨h1, h2⟩ := tyV_is I1 r1 ty
  refine ⟨T, id, pa, slot, hty, h1, h2, ?_⟩
  have hA := ha cpos pins s1 σ H1 _ I1 q1
  rw [hs] at hA ⊢
  refine Calls.callWith_builtin (by show (false || (backTo cpos (starEach es X.env)).any (·.1)) = false; rw [hplain] <;> rfl) (Calls.evalArgs_plain ?_)
  exact thn hA fun us s2 ⟨vs, H2, I2, r2, q2⟩ => hm pins s2 σ H2 x vs v us Q I2 r1 r2 q2
/- xs.append(e), list.index on a module's tuple .. are MtR facts of 06m -/
end
end L2

namespace L2
open PySem PySem.Spec PyProof.Rows

def MtM (X : Cx) (id : String) (r : V → List V → Hp → VK → Prop) : Prop :=
  ∀ (pins : List (Addr × Obj)) (s : Shared) (σ : St) (H : Hp) (x : V) (xs : List V) (v : Value) (us : List Value) (Q : VK), Inv X pins σ H s → RelV x v → Vals xs us → r x xs H Q →
    wpAny (model X.prog X.w) X.A (call (.builtin id) (v :: us)) (EP X pins σ Q) X.xe s

/-! ### lists of values -/
theorem Vals.one : ∀ {x : V} {us : List Value}, Vals [x] us → ∃ u, us = [u] ∧ RelV x u
  | _, _, .cons r .nil => ⟨_, rfl, r⟩
theorem Vals.two : ∀ {x y : V} {us : List Value}, Vals [x, y] us → ∃ u v, us = [u, v] ∧ RelV x u ∧ RelV y v
  | _, _, _, .cons r (.cons q .nil) => ⟨_, _, rfl, r, q⟩
theorem Vals.zero : ∀ {us : List Value}, Vals [] us → us = []
  | _, .nil => rfl
theorem Vals.dropLast {xs : List V} {us : List Value} (h : Vals xs us) : Vals xs.dropLast us.dropLast := by
  induction h with
  | nil => exact .nil
  | cons r t ih =>
    cases t with
    | nil => exact .nil
    | cons q t' => exact .cons r ih
theorem Vals.eraseIdx : ∀ {xs : List V} {us : List Value} (i : Nat), Vals xs us → Vals (xs.eraseIdx i) (us.eraseIdx i)
  | _, _, _, .nil => .nil
  | _, _, 0, .cons _ t => t
  | _, _, i + 1, .cons r t => .cons r (Vals.eraseIdx i t)
theorem Vals.reverse {xs : List V} {us : List Value} (h : Vals xs us) : Vals xs.reverse us.reverse := by
  induction h with
  | nil => exact .nil
  | cons r t ih => rw [List.reverse_cons, List.reverse_cons]; exact Vals.append ih (.cons r .nil)
theorem Vals.rep {xs : List V} {us : List Value} (h : Vals xs us) : ∀ k : Nat, Vals (List.replicate k xs).flatten (List.replicate k us).flatten
  | 0 => .nil
  | k + 1 => by
    rw [List.replicate_succ, List.replicate_succ, List.flatten_cons, List.flatten_cons]
    exact Vals.append h (Vals.rep h k)
theorem erase_last {α : Type} (l : List α) : l.eraseIdx (l.length - 1) = l.dropLast := by
  induction l with
  | nil => rfl
  | cons a r ih =>
    cases r with
    | nil => rfl
    | cons b r =>
      have e : (a :: b :: r).length - 1 = ((b :: r).length - 1) + 1 := by
        have h1 : (a :: b :: r).length = r.length + 2 := rfl
        have h2 : (b :: r).length = r.length + 1 := rfl
        omega
      rw [e, List.eraseIdx_cons_succ, ih]
      all_goals rfl
theorem len_erase {α : Type} : ∀ (l : List α) (i : Nat), (l.eraseIdx i).length ≤ l.length
  | [], _ => Nat.le_refl _
  | _ :: _, 0 => Nat.le_succ _
  | _ :: r, i + 1 => Nat.succ_le_succ (len_erase r i)
theorem foldl_rep (its : List Value) : ∀ (k : Nat) (acc : List Value),
    List.foldl (fun x1 x2 => x1 ++ x2) acc.toArray (List.replicate k its.toArray) = (acc ++ (List.replicate k its).flatten).toArray
  | 0, acc => by simp
  | k + 1, acc => by
    have e : acc.toArray ++ its.toArray = (acc ++ its).toArray := by simp
    have e2 : (acc ++ its) ++ (List.replicate k its).flatten = acc ++ (List.replicate (k + 1) its).flatten := by
      rw [List.replicate_succ, List.flatten_cons, List.append_assoc]
    rw [← e2, ← foldl_rep its k (acc ++ its), ← e, List.replicate_succ, List.foldl_cons]

section
variable {X : Cx} {pins : List (Addr × Obj)} {σ : St} {H : Hp} {s : Shared} {l b : Addr} {xs ys zs : List V}

/-! ### the two steps: a tracked list is rewritten, a new list is laid -/
theorem Inv.lset {its its' : List Value} {n : Nat} {f : Array Value → Array Value} {t' : Nat} (I : Inv X pins σ H s) (hH : H l = some (.lst xs))
    (e : s.heap.get? l = some { cls := .type "list", data := .seq its.toArray n }) (hf : f its.toArray = its'.toArray) (hv : Vals ys its') (hz : ys.length ≤ sizeLine) :
    Inv X pins σ (upd H l (.lst ys)) { s with heap := s.heap.update l (Obj.mapSeq f), toks := t' } := by
  have q := PySem.IsL.update e f
  rw [hf] at q
  refine I.write (x := l) (e := l) (by rw [hH]; exact trivial) (.inl rfl) (fun b' u hb hu => (Heap.get?_update_other s.heap (Obj.mapSeq f) (Ne.symm hb)).trans hu) ⟨_, q⟩ ?_
  exact ⟨hz, its', _, hv, q⟩
theorem Inv.lnew {its : List Value} {t' : Nat} (I : Inv X pins σ H s) (hv : Vals ys its) (hz : ys.length ≤ sizeLine) :
    Inv X pins σ (upd H s.heap.objs.size (.lst ys)) { s with heap := s.heap.push { cls := .type "list", data := .seq its.toArray }, toks := t' } :=
  I.laid (fun _ _ q => Heap.get?_push_of_some _ q) (Nat.le_refl _) ⟨hz, its, 0, hv, Heap.get?_push_size _ rfl⟩
theorem Inv.fresh (I : Inv X pins σ H s) : H s.heap.objs.size = none := I.hok.fresh (Nat.le_refl _)
theorem Inv.lstM (I : Inv X pins σ H s) (hH : H l = some (.lst xs)) : xs.length ≤ sizeLine ∧ ∃ (its : List Value) (n : Nat), Vals xs its ∧ xs.length = its.length ∧ s.heap.get? l = some { cls := .type "list", data := .seq its.toArray n } := by
  obtain ⟨z, its, n, r, e⟩ := I.hok l _ hH
  exact ⟨z, its, n, r, r.length, e⟩

theorem notLongL {n : Nat} (h : n ≤ sizeLine) : Builtin.List.listTooLong n = false := by
  unfold Builtin.List.listTooLong
  exact decide_eq_false (by omega)
end

section
variable {X : Cx}

/-! ### methods -/
def rAppend : V → List V → Hp → VK → Prop := fun x vs H Q => ∃ l xs y, x = .ref l ∧ vs = [y] ∧ H l = some (.lst xs) ∧ xs.length < sizeLine ∧ Q .non (upd H l (.lst (xs ++ [y])))
theorem mt_append : MtM X "list.append" rAppend := by
  intro pins s σ H x vs v us Q I rx rv h
  obtain ⟨l, xs, y, rfl, rfl, hH, hz, q⟩ := h
  cases rx
  obtain ⟨u, rfl, ru⟩ := rv.one
  obtain ⟨z, its, n, r, hl, e⟩ := I.lstM hH
  refine call_meets F.slot_list_append ⟨_, e, rfl⟩ F.entry_list_append (F.args_list_append_2 _ _) (PySem.list_append l its.toArray n u (by rw [List.size_toArray]; omega)) ⟨e, ?_⟩
  refine ⟨.non, _, I.lset (its' := its ++ [u]) hH e (by simp) (r.append (.cons ru .nil)) ?_, rfl, q⟩
  rw [List.length_append, List.length_singleton]
  omega

def rExtend : V → List V → Hp → VK → Prop := fun x vs H Q => ∃ l b xs zs, x = .ref l ∧ vs = [.ref b] ∧ H l = some (.lst xs) ∧ H b = some (.lst zs) ∧ xs.length + zs.length ≤ sizeLine ∧ Q .non (upd H l (.lst (xs ++ zs)))
theorem mt_extend : MtM X "list.extend" rExtend := by
  intro pins s σ H x vs v us Q I rx rv h
  obtain ⟨l, b, xs, zs, rfl, rfl, hH, hB, hz, q⟩ := h
  cases rx
  obtain ⟨u, rfl, ru⟩ := rv.one
  cases ru
  obtain ⟨z, its, n, r, hl, e⟩ := I.lstM hH
  obtain ⟨z2, its2, n2, r2, hl2, e2⟩ := I.lstM hB
  have hsz : its.toArray.size + its2.toArray.size ≤ sizeLine := by rw [List.size_toArray, List.size_toArray]; omega
  have hlong : ¬ (!its.toArray.isEmpty && Builtin.List.listTooLong (its.toArray.size + its2.toArray.size)) = true := by
    rw [notLongL hsz, Bool.and_false]
    exact Bool.false_ne_true
  refine call_meets F.slot_list_extend ⟨_, e, rfl⟩ F.entry_list_extend (F.args_list_extend_2 _ _)
    (AutoSeq1.list_extend_list_list_0 l its.toArray n b its2.toArray n2 hlong (by rw [List.size_toArray]; omega) (by omega)) ⟨e, e2, ?_⟩
  refine ⟨.non, _, I.lset (its' := its ++ its2) hH e (by simp) (r.append r2) ?_, rfl, q⟩
  rw [List.length_append]
  omega

def rPop : V → List V → Hp → VK → Prop := fun x vs H Q => ∃ l xs y, x = .ref l ∧ vs = [] ∧ H l = some (.lst xs) ∧ xs[xs.length - 1]? = some y ∧ Q y (upd H l (.lst xs.dropLast))
theorem mt_pop : MtM X "list.pop" rPop := by
  intro pins s σ H x vs v us Q I rx rv h
  obtain ⟨l, xs, y, rfl, rfl, hH, hy, q⟩ := h
  cases rx
  have hus := rv.zero
  subst hus
  obtain ⟨z, its, n, r, hl, e⟩ := I.lstM hH
  obtain ⟨u, hu, ru⟩ := r.get hy
  have hy' : its.toArray[its.toArray.size - 1]? = some u := by
    show its.toArray[its.length - 1]? = some u
    rw [← Array.getElem?_toList, ← hl]
    exact hu
  refine call_meets F.slot_list_pop ⟨_, e, rfl⟩ F.entry_list_pop (F.args_list_pop_1 _) (MeetsSeq.list_pop_last l its.toArray n u hy' (by rw [List.size_toArray]; omega)) ⟨e, ?_⟩
  refine ⟨y, _, I.lset (its' := its.dropLast) hH e ?_ r.dropLast ?_, ru, q⟩
  · show its.toArray.eraseIdxIfInBounds (its.toArray.size - 1) = its.dropLast.toArray
    rw [List.size_toArray, List.eraseIdxIfInBounds_toArray, erase_last]
  · rw [List.length_dropLast]
    omega

def rPopAt : V → List V → Hp → VK → Prop := fun x vs H Q => ∃ l xs i k y, x = .ref l ∧ vs = [.int i] ∧ H l = some (.lst xs) ∧ -(2 ^ 63) ≤ i ∧ i < 2 ^ 63 ∧ seqIndex? i xs.length = some k ∧ xs[k]? = some y ∧ Q y (upd H l (.lst (xs.eraseIdx k)))
theorem mt_popAt : MtM X "list.pop" rPopAt := by
  intro pins s σ H x vs v us Q I rx rv h
  obtain ⟨l, xs, i, k, y, rfl, rfl, hH, h1, h2, hk, hy, q⟩ := h
  cases rx
  obtain ⟨u, rfl, ru⟩ := rv.one
  obtain ⟨t, rfl⟩ := ru
  obtain ⟨z, its, n, r, hl, e⟩ := I.lstM hH
  obtain ⟨w, hw, rw'⟩ := r.get hy
  refine call_meets F.slot_list_pop ⟨_, e, rfl⟩ F.entry_list_pop (F.args_list_pop_2 _ _)
    (MeetsSeq.list_pop_at l its.toArray n i t k w (fitsIndex_both h1 h2) (by rw [List.size_toArray, ← hl]; exact hk) (by rw [← Array.getElem?_toList]; exact hw) (by rw [List.size_toArray]; omega)) ⟨e, ?_⟩
  refine ⟨y, _, I.lset (its' := its.eraseIdx k) hH e ?_ (r.eraseIdx k) ?_, rw', q⟩
  · show its.toArray.eraseIdxIfInBounds k = (its.eraseIdx k).toArray
    rw [List.eraseIdxIfInBounds_toArray]
  · have := len_erase xs k
    omega

def rReverse : V → List V → Hp → VK → Prop := fun x vs H Q => ∃ l xs, x = .ref l ∧ vs = [] ∧ H l = some (.lst xs) ∧ Q .non (upd H l (.lst xs.reverse))
theorem mt_reverse : MtM X "list.reverse" rReverse := by
  intro pins s σ H x vs v us Q I rx rv h
  obtain ⟨l, xs, rfl, rfl, hH, q⟩ := h
  cases rx
  have hus := rv.zero
  subst hus
  obtain ⟨z, its, n, r, hl, e⟩ := I.lstM hH
  refine call_meets F.slot_list_reverse ⟨_, e, rfl⟩ F.entry_list_reverse (F.args_list_reverse_1 _) (AutoSeq1.list_reverse_list_0 l its.toArray n (by rw [List.size_toArray]; omega)) ⟨e, ?_⟩
  refine ⟨.non, _, I.lset (its' := its.reverse) hH e (by simp) r.reverse ?_, rfl, q⟩
  rw [List.length_reverse]
  omega

def rClear : V → List V → Hp → VK → Prop := fun x vs H Q => ∃ l xs, x = .ref l ∧ vs = [] ∧ H l = some (.lst xs) ∧ Q .non (upd H l (.lst []))
theorem mt_clear : MtM X "list.clear" rClear := by
  intro pins s σ H x vs v us Q I rx rv h
  obtain ⟨l, xs, rfl, rfl, hH, q⟩ := h
  cases rx
  have hus := rv.zero
  subst hus
  obtain ⟨z, its, n, r, hl, e⟩ := I.lstM hH
  refine call_meets F.slot_list_clear ⟨_, e, rfl⟩ F.entry_list_clear (F.args_list_clear_1 _) (AutoSeq1.list_clear_list_0 l its.toArray n (by rw [List.size_toArray]; omega)) ⟨e, ?_⟩
  exact ⟨.non, _, I.lset (its' := []) (ys := []) hH e rfl .nil (Nat.zero_le _), rfl, q⟩

/-! ### list + list, list += list, list * int -/
def rCat : R2 := fun x y H Q => ∃ l b xs zs, x = .ref l ∧ y = .ref b ∧ H l = some (.lst xs) ∧ H b = some (.lst zs) ∧ xs.length + zs.length ≤ sizeLine ∧ ∀ p, H p = none → Q (.ref p) (upd H p (.lst (xs ++ zs)))
theorem op_cat : OpR X (binaryOp .Add) rCat := by
  intro pins s σ H x y v u Q I rx ry h
  obtain ⟨l, b, xs, zs, rfl, rfl, hH, hB, hz, q⟩ := h
  cases rx
  cases ry
  obtain ⟨z, its, n, r, hl, e⟩ := I.lstM hH
  obtain ⟨z2, its2, n2, r2, hl2, e2⟩ := I.lstM hB
  refine PySem.P.add_list e e2 ?_ (by rw [List.size_toArray, List.size_toArray]; omega)
  have ea : its.toArray ++ its2.toArray = (its ++ its2).toArray := by simp
  rw [ea]
  exact ⟨.ref _, _, I.lnew (t' := s.toks) (r.append r2) (by rw [List.length_append]; omega), rfl, q _ I.fresh⟩
/-- a list times an int (a negative one is nothing) -/
def rRep : R2 := fun x y H Q => ∃ l k xs, x = .ref l ∧ y = .int k ∧ H l = some (.lst xs) ∧ -(2 ^ 63) ≤ k ∧ k < 2 ^ 63 ∧ xs.length * k.toNat ≤ sizeLine ∧
  ∀ p, H p = none → Q (.ref p) (upd H p (.lst (List.replicate k.toNat xs).flatten))
theorem len_rep {α : Type} (xs : List α) (k : Nat) : (List.replicate k xs).flatten.length = k * xs.length := by
  induction k with
  | zero => simp
  | succ k ih => rw [List.replicate_succ, List.flatten_cons, List.length_append, ih, Nat.succ_mul, Nat.add_comm]
theorem op_rep : OpR X (binaryOp .Mult) rRep := by
  intro pins s σ H x y v u Q I rx ry h
  obtain ⟨l, k, xs, rfl, rfl, hH, h1, h2, hz, q⟩ := h
  cases rx
  obtain ⟨t, rfl⟩ := ry
  obtain ⟨z, its, n, r, hl, e⟩ := I.lstM hH
  have hlen : its.toArray.size * k.toNat ≤ sizeLine := by rw [List.size_toArray, ← hl]; exact hz
  have hcap : ¬ its.toArray.size * k.toNat > (2 ^ 63 - 1) / 8 := by
    have : (sizeLine : Nat) ≤ (2 ^ 63 - 1) / 8 := by decide
    omega
  have hfit : ¬ (!Builtin.List.listFitsIndex k) = true := by
    rw [fitsIndex_both h1 h2]
    exact Bool.false_ne_true
  have hlong : ¬ Builtin.List.listTooLong (its.toArray.size * k.toNat) = true := by
    rw [notLongL hlen]
    exact Bool.false_ne_true
  have hnew : List.foldl (fun x1 x2 => x1 ++ x2) #[] (List.replicate (if its.toArray.isEmpty = true then 0 else k.toNat) its.toArray) = (List.replicate k.toNat its).flatten.toArray := by
    have f0 : ∀ m : Nat, List.foldl (fun x1 x2 => x1 ++ x2) #[] (List.replicate m its.toArray) = (List.replicate m its).flatten.toArray := fun m => by
      have := foldl_rep its m []
      rw [List.nil_append] at this
      exact this
    rw [f0]
    cases its with
    | nil => simp
    | cons a r' => rw [if_neg (by simp)]
  refine wpAny_binaryOp_repeat_ref (T := "list") (U := "int") (by decide) ⟨_, e, rfl⟩ (fun s' => typeIs_int s' k t) noFill_list_mul F.fills_int_mul F.slot_int_rmul repeat_list F.slot_int_index.lookup
    (call_meets F.slot_int_rmul (typeIs_int s k t) F.entry_int_rmul (F.args_int_rmul_2 _ _) (int___rmul___int_list k t l its.toArray n)
      ⟨e, rfl, ⟨_, e, rfl⟩, call_meets F.slot_list_mul ⟨_, e, rfl⟩ F.entry_list_mul (F.args_list_mul_2 _ _) (AutoListH.list___mul___list_int_3 l its.toArray n k t hfit hcap hlong) ⟨e, ?_⟩⟩)
  rw [hnew]
  exact ⟨.ref _, _, I.lnew (t' := s.toks) (r.rep k.toNat) (by rw [len_rep, Nat.mul_comm]; exact hz), rfl, q _ I.fresh⟩

/-! ### del xs[i] -/
theorem del_list {pins : List (Addr × Obj)} {s : Shared} {σ : St} {H : Hp} {l : Addr} {xs : List V} {i : Int} {t : Tok} {k : Nat} {Q : Unit → Shared → Prop} (I : Inv X pins σ H s) (hH : H l = some (.lst xs))
    (h1 : -(2 ^ 63) ≤ i) (h2 : i < 2 ^ 63) (hk : seqIndex? i xs.length = some k) (h : ∀ s', Inv X pins σ (upd H l (.lst (xs.eraseIdx k))) s' → Q () s') :
    wpAny (model X.prog X.w) X.A (delItem (.ref l) (.int i t)) Q X.xe s := by
  obtain ⟨z, its, n, r, hl, e⟩ := I.lstM hH
  refine PySem.P.delItem_list (k := k) e (fitsIndex_both h1 h2) (by rw [List.size_toArray, ← hl]; exact hk) (h _ ?_) (by rw [List.size_toArray]; omega)
  refine I.lset (its' := its.eraseIdx k) (t' := s.toks) hH e ?_ (r.eraseIdx k) ?_
  · show its.toArray.eraseIdxIfInBounds k = (its.eraseIdx k).toArray
    rw [List.eraseIdxIfInBounds_toArray]
  · have := len_erase xs k
    omega
end

/-! ### xs[a:b] = ys -/
section
variable {prog : Program} {w : World} {A : Around} {E : Value → Shared → Prop} {s : Shared}
theorem splice_eq (its its2 : List Value) (a c : Nat) : its.toArray.extract 0 a ++ its2.toArray ++ its.toArray.extract c its.toArray.size = (its.take a ++ its2 ++ its.drop c).toArray := by
  apply Array.toList_inj.mp
  first
    | (simp
       exact List.take_of_length_le (by simp))
    | simp [List.take_of_length_le]
    | simp
theorem bounds_run {a c n : Nat} (hac : a ≤ c) (hc : c ≤ n) : sliceBounds (some (a : Int)) (some (c : Int)) none n = ((a : Int), (c : Int), 1) := by
  simp only [sliceBounds, Option.getD_none]
  have h1 : ¬ ((a : Int) < 0) := by omega
  have h2 : ¬ ((c : Int) < 0) := by omega
  simp only [h1, h2, if_false, show (1 : Int) > 0 by decide, if_true]
  congr 1
  · omega
  · congr 1; omega
set_option maxRecDepth 100000 in
/-- list.__setitem__ with a slice of step one and another list -/
theorem setItem_slice {l b sl : Addr} {items new : Array Value} {n n2 : Nat} {vl vu : Value} {a c : Nat} {Q : Unit → Shared → Prop}
    (e : s.heap.get? l = some { cls := .type "list", data := .seq items n }) (e2 : s.heap.get? b = some { cls := .type "list", data := .seq new n2 }) (hne : l ≠ b)
    (hs : s.heap.IsSliceOf sl vl vu .none) (pl : IsPart vl (some (a : Int))) (pu : IsPart vu (some (c : Int))) (hac : a ≤ c) (hc : c ≤ items.size)
    (hsz : items.size + new.size ≤ sizeLine) (h : Q () { s with heap := s.heap.update l (Obj.mapSeq fun xs => xs.extract 0 a ++ new ++ xs.extract c xs.size) }) :
    wpAny (model prog w) A (setItem (.ref l) (.ref sl) (.ref b)) Q E s := by
  have hl : s.heap.IsList l items := PySem.IsL.isList e
  have hb : s.heap.IsList b new := PySem.IsL.isList e2
  obtain ⟨os, hos, hcs, hds⟩ := id hs
  have hTs : s.TypeIs (.ref sl) "slice" := ⟨os, hos, hcs⟩
  have hstep : ¬ ((rawPart none == rawInt 0) = true) := Bool.false_ne_true
  have hsame : Builtin.List.listSameRef (.ref l) (.ref b) = false := by
    unfold Builtin.List.listSameRef
    exact beq_eq_false_iff_ne.mpr hne
  have hmax : (max (a : Int) (c : Int)).toNat = c := by omega
  have hz' : ((fun xs : Array Value => xs.extract 0 a ++ new ++ xs.extract c xs.size) items).size ≤ sizeLine + 1 := by
    simp only [Array.size_append, Array.size_extract]
    omega
  unfold setItem
  try with_reducible refine wpAny_holding ?_
  first | refine wpAny_bind (wpAny_pure ?_) | skip
  refine wpAny_bind (wpAny_sequenceKey hl.typeIs (by decide) ?_)
  refine wpAny_bind (wpAny_callSpecial?_slot (name := Str.ofString "__setitem__") hl.typeIs slot_list_setitem
    (wpAny_call_entry slot_list_setitem hl.typeIs entry_list_setitem ?_ (args_list_setitem _ _ _)))
  show wpAny _ _ (Builtin.List.listSubscript? (.ref sl) >>= _) _ _ s
  refine wpAny_bind ?_
  unfold Builtin.List.listSubscript?
  refine wpAny_bind (wpAny_specialOf hTs slice_no_index ?_)
  simp only [Option.isNone_none, if_true]
  refine wpAny_pure ?_
  show wpAny _ _ (typeOf (.ref sl) >>= _) _ _ s
  refine wpAny_bind (wpAny_typeOf hTs ?_)
  first
    | rw [if_neg (by decide)]
    | refine PySem.W.KFB.if_not (by decide) ?_
  rw [listSliceParts_eq]
  refine wpAny_bind (wpAny_bind (wpAny_field hos hds (x := .none) rfl (wpAny_bind (wpAny_listPart .none ?_))))
  rw [if_neg hstep]
  refine wpAny_bind (wpAny_field hos hds (x := vl) rfl (wpAny_bind (wpAny_listPart pl ?_)))
  refine wpAny_bind (wpAny_field hos hds (x := vu) rfl (wpAny_bind (wpAny_listPart pu (wpAny_pure ?_))))
  first
    | simp only [hsame, Bool.false_eq_true, if_false]
    | refine PySem.W.KFB.if_not hsame ?_
    | (dsimp only
       rw [if_neg (by rw [hsame]; exact Bool.false_ne_true)])
  refine wpAny_bind (m := Builtin.List.listAllItems (.ref b) "must assign iterable to extended slice") ?_
  unfold Builtin.List.listAllItems
  refine wpAny_bind (wpAny_typeOf hb.typeIs ?_)
  first
    | refine PySem.W.KFB.if_so (by decide) ?_
    | rw [if_pos (by decide)]
    | simp only [beq_self_eq_true, Bool.true_or, if_true]
  unfold Builtin.List.listItems
  refine wpAny_bind (wpAny_seqItems e2 rfl (wpAny_pure ?_))
  refine wpAny_bind (wpAny_bind (wpAny_seqItems e rfl (wpAny_pure ?_)))
  refine wpAny_bind (wpAny_of_eq ((sliceIndices_raw (some (a : Int)) (some (c : Int)) none items.size (by simp)).trans (congrArg (pure : Int × Int × Int → Sem (Int × Int × Int)) (bounds_run hac hc))) ?_)
  show wpAny _ _ (if ((1 : Int) == 1) = true then _ else _) _ _ s
  rw [if_pos (by decide)]
  refine wpAny_bind (wpAny_rule ?_)
  first
    | simp only [notLongL hsz, Bool.false_eq_true, if_false]
    | refine PySem.W.KFB.if_not (notLongL hsz) ?_
  first | refine wpAny_bind (wpAny_pure ?_) | skip
  show wpAny _ _ (updateSeq l (fun xs => xs.extract 0 ((a : Int)).toNat ++ new ++ xs.extract (max (a : Int) (c : Int)).toNat xs.size) >>= _) _ _ s
  rw [hmax, Int.toNat_natCast]
  refine wpAny_bind (wpAny_updateSeq (hz := Nat.le_trans (Nat.le_add_right _ _) hsz) (_hz' := hz') e rfl ?_)
  refine wpAny_bind (wpAny_letGo ?_)
  first
    | exact wpAny_bind (wpAny_pure (wpAny_pure ⟨.none, rfl, wpAny_pure h⟩))
    | exact wpAny_pure ⟨.none, rfl, wpAny_pure h⟩
end

section
variable {X : Cx}
/-- xs[a:c] = ys of another list, at the value level: sl is the slice object that was just made -/
theorem set_slice {pins : List (Addr × Obj)} {s : Shared} {σ : St} {H : Hp} {l b sl : Addr} {xs ys : List V} {a c : Int} {vl vu : Value} {Q : Unit → Shared → Prop} (I : Inv X pins σ H s)
    (hH : H l = some (.lst xs)) (hB : H b = some (.lst ys)) (hne : l ≠ b) (hs : s.heap.IsSliceOf sl vl vu .none) (ra : RelV (.int a) vl) (rc : RelV (.int c) vu) (h0 : 0 ≤ a) (hac : a ≤ c) (hc : c ≤ xs.length)
    (hz : xs.length + ys.length ≤ sizeLine) (h : ∀ s', Inv X pins σ (upd H l (.lst (xs.take a.toNat ++ ys ++ xs.drop c.toNat))) s' → Q () s') :
    wpAny (model X.prog X.w) X.A (setItem (.ref l) (.ref sl) (.ref b)) Q X.xe s := by
  obtain ⟨ta, rfl⟩ := ra
  obtain ⟨tc, rfl⟩ := rc
  obtain ⟨z, its, n, r, hl, e⟩ := I.lstM hH
  obtain ⟨z2, its2, n2, r2, hl2, e2⟩ := I.lstM hB
  obtain ⟨a', rfl⟩ := Int.eq_ofNat_of_zero_le h0
  obtain ⟨c', rfl⟩ := Int.eq_ofNat_of_zero_le (Int.le_trans h0 hac)
  simp only [Int.toNat_natCast] at h
  refine setItem_slice (a := a') (c := c') e e2 hne hs (.int _ _) (.int _ _) (by omega) (by rw [List.size_toArray]; omega) (by rw [List.size_toArray, List.size_toArray]; omega) (h _ ?_)
  refine I.lset (its' := its.take a' ++ its2 ++ its.drop c') (t' := s.toks) hH e ?_ (Vals.append (Vals.append (r.take _) r2) (r.drop _)) ?_
  · exact splice_eq its its2 a' c'
  · rw [List.length_append, List.length_append, List.length_take, List.length_drop]
    omega
end
end L2

namespace Att
open PySem PySem.W PySem.Calls PyProof.Rows

/-! ### the script -/
theorem ints_of_wellAll {P : Params} {h : Heap} : ∀ (ns : List Int) (vs : List Value), WellAll P h vs (ns.map WData.int) → IntsAre vs ns := by
  intro ns
  induction ns with
  | nil =>
    intro vs w
    rw [List.map_nil] at w
    cases w
    exact .nil
  | cons n ns ih =>
    intro vs w
    rw [List.map_cons] at w
    cases w with
    | cons a b =>
      cases a
      exact .cons _ _ (ih _ b)

theorem script_of {l : OpenLaw} {n : Nat} (hn : l.most = some n) {P : Params} {h : Heap} {args : List WData} {vals : List Value}
    (hpre : l.row.toRowW.claim.pre args = true) (hwl : WellAll P h vals args) :
    ∃ a vs ns, vals = [Value.ref a] ∧ args = [WData.list (ns.map WData.int)] ∧ h.get? a = some { cls := .type "list", data := .seq vs.toArray } ∧ IntsAre vs ns ∧ ns.length ≤ n := by
  have hsh : WShape.hasAll [] args [.list .int] = true := (pre_splitW hpre).1
  have hc : l.pre.holds [] { args := args } = true := (pre_splitW hpre).2
  obtain ⟨d, r, rfl, h1, h2⟩ := hasAllW_cons hsh
  obtain rfl := hasAllW_nil h2
  obtain ⟨xs, rfl, h3⟩ := hasW_list h1
  obtain ⟨ns, rfl⟩ := items_int h3
  have hlen : ns.length ≤ n := by
    unfold OpenLaw.pre at hc
    have h4 : (WTm.not (.lt (.lit (.int (n : Int))) (.len (.arg 0)))).holds [] { args := [.list (ns.map .int)] } = true := by
      have h4 := (holds_andW hc).1
      rw [hn] at h4
      exact h4
    have h5 := condW_of h4 (w_not (w_lt w_lit (w_len_list (w_arg rfl))))
    rw [List.length_map] at h5
    refine Nat.le_of_not_lt fun q => ?_
    have q' : (n : Int) < ((ns.length : Nat) : Int) := by omega
    first
      | (rw [decide_eq_true q'] at h5; exact absurd h5 (by decide))
      | (simp at h5; omega)
  cases hwl with
  | cons w1 w2 =>
    cases w2
    cases w1 with
    | list ho hall => exact ⟨_, _, ns, rfl, rfl, ho, ints_of_wellAll ns _ hall, hlen⟩

theorem post_true (l : OpenLaw) (args : List WData) : l.row.toRowW.claim.post args (.bool true) args = true :=
  postW_of (r := l.row.toRowW) (X := (true == true))
    (show WShape.has [] (.bool true) .bool = true by first | rfl | decide | simp [WShape.has, WShape.arms, WShape.armsAll])
    (show (WTm.eq .res (.lit (.bool true))).value [] { args := args, res := some (.bool true), after := args } = some (.bool (true == true)) from w_eq_bool (w_res rfl) w_lit) rfl

/-! ### the attachment: holds_open's last premise (the goal 'hc' behind k_head) from a wpAny of the law's body -/
theorem attach {l : OpenLaw} {n : Nat} {q : Program} {loose : List Str} {XP : (Str → Option Value) → Heap → Prop} {YP : World → Heap → Prop} {d : DefRec} {x : Str}
    (hn : l.most = some n) (hdf : d.params.defaults = [])
    (hbind : ∀ pm cd doc v : Value, bindArgs (docDef d.name d.params d.body d.scope pm cd doc) ⟨[v], []⟩ = pure [(x, v)])
    (hx : d.scope.names.lookup x = some .local ∨ d.scope.names.lookup x = some .cell)
    (hk : d.scope.kind = .function) (hco : d.scope.isCoroutine = false) (hgen : d.scope.isGenerator = false)
    (body : ∀ (w : World) (s₀ s₁ s : Shared) (mg mb : Str → Option Value) (fa : Addr) (o : Obj) (pm cd doc : Value) (a : Addr) (vs : List Value) (ns : List Int),
      Ground q loose [] XP w s₀ mg mb s₁.heap → YP w s₁.heap →
      s₁.heap.get? fa = some o → o.data = .func (docDef d.name d.params d.body d.scope pm cd doc) → s₁.heap.CodeRec cd d.name → mg d.name = some (.ref fa) →
      s₁.heap.get? a = some { cls := .type "list", data := .seq vs.toArray } → IntsAre vs ns → ns.length ≤ n →
      s.gens = #[] → s.os = s₁.os →
      Fr s₁.heap s₁.heap.objs.size s.heap (bindL (envOfC d.name d.scope s₁.heap.objs.size fa cd).kindOf [(x, .ref a)] fun _ => none) →
      Cl s₁.heap.objs.size (cellsFrom (s₁.heap.objs.size + 1) d.scope.names []) s.heap (bindC (envOfC d.name d.scope s₁.heap.objs.size fa cd).kindOf [(x, .ref a)] fun _ => none) →
      wpAny (model l.prog w) (callerA.deeper (envOfC d.name d.scope s₁.heap.objs.size fa cd)) (execs d.body (envOfC d.name d.scope s₁.heap.objs.size fa cd))
        (fun f s' => f = .ret (.bool true) ∧ OldK s₁.heap s'.heap ∧ s'.os = s₁.os ∧ AllBare s'.gens) (fun _ _ => False) s) :
    WalkO q loose XP YP l.row.toRowW d [] (fun f vs => PySem.call f vs) := by
  intro w s₀ s₁ mg mb G Y fa o pm cd doc dV kV ho hd hcd hD hmg hg args vals as hpre hlay hrd hwl hlo
  obtain rfl : dV = .none := Dflts.none hD hdf
  obtain rfl : kV = .none := Dflts.noKw hD
  obtain ⟨a, vs, ns, rfl, rfl, hobj, hints, hlen⟩ := script_of hn hpre hwl
  refine enter_call ?_
  refine call_cells_ret (o := o) (by rw [depth_caller]; decide) ho (fd_plain hd) G.T.nolimit hcd (hbind pm cd doc (.ref a)) (fun y hy => ?_) (fun h₁ tk F X => ?_) hco hgen hk
  · obtain rfl : y = (x, Value.ref a) := List.mem_singleton.mp hy
    rcases hx with e | e
    · exact .inl e
    · exact .inr ⟨e, cellsFrom_some _ _ _ (.inl e)⟩
  · refine wpAny_mono (body w s₀ s₁ { s₁ with heap := h₁, toks := tk } mg mb fa o pm cd doc a vs ns G Y ho (fd_plain hd) hcd hmg hobj hints hlen hg rfl F X) (fun f s' hq => ?_) (fun _ _ hq => hq)
    obtain ⟨rfl, h2, h3, h4⟩ := hq
    exact ⟨.inl ⟨.bool true, .bool true, [], rfl, fun _ => rfl, .bool true, post_true l _, fun _ => ⟨List.Pairwise.nil, fun _ hm => (nomatch hm)⟩⟩, h2, h3, h4⟩

/-- the same from a codeAny of the CALL (for a layer whose function contracts speak of calls) -/
theorem attach_call {l : OpenLaw} {n : Nat} {q : Program} {loose : List Str} {XP : (Str → Option Value) → Heap → Prop} {YP : World → Heap → Prop} {d : DefRec}
    (hn : l.most = some n) (hdf : d.params.defaults = [])
    (call : ∀ (w : World) (s₀ s₁ : Shared) (mg mb : Str → Option Value) (fa : Addr) (o : Obj) (pm cd doc : Value) (a : Addr) (vs : List Value) (ns : List Int),
      Ground q loose [] XP w s₀ mg mb s₁.heap → YP w s₁.heap →
      s₁.heap.get? fa = some o → o.data = .func (docDef d.name d.params d.body d.scope pm cd doc) → s₁.heap.CodeRec cd d.name → mg d.name = some (.ref fa) →
      s₁.heap.get? a = some { cls := .type "list", data := .seq vs.toArray } → IntsAre vs ns → ns.length ≤ n → s₁.gens = #[] →
      codeAny (model l.prog w) callerA (.call (.ref fa) ⟨[.ref a], []⟩) (fun r s' => r = .ok (.ret (.bool true)) ∧ OldK s₁.heap s'.heap ∧ s'.os = s₁.os ∧ AllBare s'.gens) s₁) :
    WalkO q loose XP YP l.row.toRowW d [] (fun f vs => PySem.call f vs) := by
  intro w s₀ s₁ mg mb G Y fa o pm cd doc dV kV ho hd hcd hD hmg hg args vals as hpre hlay hrd hwl hlo
  obtain rfl : dV = .none := Dflts.none hD hdf
  obtain rfl : kV = .none := Dflts.noKw hD
  obtain ⟨a, vs, ns, rfl, rfl, hobj, hints, hlen⟩ := script_of hn hpre hwl
  refine enter_call (codeAny_mono (call w s₀ s₁ mg mb fa o pm cd doc a vs ns G Y ho (fd_plain hd) hcd hmg hobj hints hlen hg) fun r s' hq => ?_)
  obtain ⟨rfl, h2, h3, h4⟩ := hq
  exact ⟨.inl ⟨.bool true, .bool true, [], rfl, fun _ => rfl, .bool true, post_true l _, fun _ => ⟨List.Pairwise.nil, fun _ hm => (nomatch hm)⟩⟩, h2, h3, h4⟩

/-- the same where the top left finished generators (o_head chose holds_openN): nothing may have changed at all and no generator may be left -/
theorem attachN {l : OpenLaw} {n : Nat} {q : Program} {loose : List Str} {XP : (Str → Option Value) → Heap → Prop} {YP : World → Heap → Prop} {d : DefRec} {x : Str}
    (hn : l.most = some n) (hdf : d.params.defaults = [])
    (hbind : ∀ pm cd doc v : Value, bindArgs (docDef d.name d.params d.body d.scope pm cd doc) ⟨[v], []⟩ = pure [(x, v)])
    (hx : d.scope.names.lookup x = some .local ∨ d.scope.names.lookup x = some .cell)
    (hk : d.scope.kind = .function) (hco : d.scope.isCoroutine = false) (hgen : d.scope.isGenerator = false)
    (body : ∀ (w : World) (s₀ s₁ s : Shared) (mg mb : Str → Option Value) (fa : Addr) (o : Obj) (pm cd doc : Value) (a : Addr) (vs : List Value) (ns : List Int),
      Ground q loose [] XP w s₀ mg mb s₁.heap → YP w s₁.heap →
      s₁.heap.get? fa = some o → o.data = .func (docDef d.name d.params d.body d.scope pm cd doc) → s₁.heap.CodeRec cd d.name → mg d.name = some (.ref fa) →
      s₁.heap.get? a = some { cls := .type "list", data := .seq vs.toArray } → IntsAre vs ns → ns.length ≤ n →
      s.gens = #[] → s.os = s₁.os →
      Fr s₁.heap s₁.heap.objs.size s.heap (bindL (envOfC d.name d.scope s₁.heap.objs.size fa cd).kindOf [(x, .ref a)] fun _ => none) →
      Cl s₁.heap.objs.size (cellsFrom (s₁.heap.objs.size + 1) d.scope.names []) s.heap (bindC (envOfC d.name d.scope s₁.heap.objs.size fa cd).kindOf [(x, .ref a)] fun _ => none) →
      wpAny (model l.prog w) (callerA.deeper (envOfC d.name d.scope s₁.heap.objs.size fa cd)) (execs d.body (envOfC d.name d.scope s₁.heap.objs.size fa cd))
        (fun f s' => f = .ret (.bool true) ∧ (∀ b o, s₁.heap.get? b = some o → s'.heap.get? b = some o) ∧ s'.os = s₁.os ∧ s'.gens = #[]) (fun _ _ => False) s) :
    WalkN q loose XP YP l.row.toRowW d [] (fun f vs => PySem.call f vs) := by
  intro w s₀ s₁ mg mb G Y fa o pm cd doc dV kV ho hd hcd hD hmg hg args vals as hpre hlay hrd hwl hlo
  obtain rfl : dV = .none := Dflts.none hD hdf
  obtain rfl : kV = .none := Dflts.noKw hD
  obtain ⟨a, vs, ns, rfl, rfl, hobj, hints, hlen⟩ := script_of hn hpre hwl
  refine enter_callW ?_
  refine call_cells_ret (o := o) (by rw [depth_caller]; decide) ho (fd_plain hd) G.T.nolimit hcd (hbind pm cd doc (.ref a)) (fun y hy => ?_) (fun h₁ tk F X => ?_) hco hgen hk
  · obtain rfl : y = (x, Value.ref a) := List.mem_singleton.mp hy
    rcases hx with e | e
    · exact .inl e
    · exact .inr ⟨e, cellsFrom_some _ _ _ (.inl e)⟩
  · refine wpAny_mono (body w s₀ s₁ { s₁ with heap := h₁, toks := tk } mg mb fa o pm cd doc a vs ns G Y ho (fd_plain hd) hcd hmg hobj hints hlen hg rfl F X) (fun f s' hq => ?_) (fun _ _ hq => hq)
    obtain ⟨rfl, h2, h3, h4⟩ := hq
    exact ⟨.inl ⟨.bool true, .bool true, [], rfl, fun _ => rfl, .bool true, post_true l _, fun _ => ⟨List.Pairwise.nil, fun _ hm => (nomatch hm)⟩⟩, h2, h3, h4⟩

/-! ### rules over ANY heap (no ledger) from facts about the written part K: the library's own take a ledger (News) for what they write -/
section
variable {prog : Program} {w : World} {A : Around} {E : Value → Shared → Prop} {s : Shared} {K : Frag}

/-- a def of the module, or a method (qual 'C.m'), entered: the frame is the next address; cells behind it -/
theorem call_fn {R : Result → Shared → Prop} {name qual : Str} {params : Arguments} {body : List Stmt} {scope : Scope} {dV kV doc pm cdv ct oc : Value} {an od : Option Addr} {osl : Array (Option Value)} {f : Addr} {args : Args} {binds : List (Str × Value)}
    (X : K.In s.heap) (hlim : s.heap.NoLimit) (ho : K.lookup f = some ⟨oc, od, .func (fnOf name qual params body scope dV kV doc pm an cdv ct), osl⟩) (hcd : codeIn K cdv qual = true) (hroom : A.depth < recursionLimit)
    (hbind : BindsTo s (fnOf name qual params body scope dV kV doc pm an cdv ct) args binds)
    (hkind : (binds.all fun y => scope.names.lookup y.1 == some .local || scope.names.lookup y.1 == some .cell) = true)
    (h : ∀ s₁, InCallC s s.heap.objs.size (bindL (envOfC qual scope s.heap.objs.size f cdv).kindOf binds fun _ => none) (cellsFrom (s.heap.objs.size + 1) scope.names [])
        (bindC (envOfC qual scope s.heap.objs.size f cdv).kindOf binds fun _ => none) s₁ →
      wpAny (model prog w) (A.deeper (envOfC qual scope s.heap.objs.size f cdv)) (execs body (envOfC qual scope s.heap.objs.size f cdv))
        (fun fl s' => R (.ok (.ret (match fl with | .ret v => v | _ => .none))) s')
        (fun e s' => wpAny (model prog w) (A.deeper (envOfC qual scope s.heap.objs.size f cdv)) (leaving (envOfC qual scope s.heap.objs.size f cdv) e) (fun _ s'' => R (.error e) s'') (fun e' s'' => R (.error e') s'') s') s₁)
    (hco : scope.isCoroutine = false) (hgen : scope.isGenerator = false) (hk : scope.kind = .function) : codeAny (model prog w) A (.call (.ref f) args) R s := by
  refine codeAny_call_function hroom (X _ _ ho) rfl hco hgen rfl (codeRec_of X hcd) (hbind _ _ _ _ ?_)
  refine wpAny_newFunctionEnv_cells hk (kindsX hkind _) fun env he s₁ x => ?_
  subst he
  exact ⟨hlim.keeps x.toInCall.keep, codeAny_func (h s₁ x)⟩

/-- C(..): dict at size, instance at size + 1, then __init__ -/
theorem make_obj {R : Result → Shared → Prop} {C fI : Addr} {rest : List Value} {kw : List (Str × Value)}
    (X : K.In s.heap) (hm : makesIn K C = true) (hi : findIn K (.ref C) "__init__" = some (some (.ref fI))) (hf : isFn K (.ref fI) = true)
    (h : codeAny (model prog w) (A.under (.builtin "type.__call__" ⟨.ref C :: rest, kw⟩)) (.call (.ref fI) ⟨.ref (s.heap.objs.size + 1) :: rest, kw⟩) (InitBack (s.heap.objs.size + 1) R)
      { s with heap := (s.heap.push emptyDict).push (instObj C s.heap.objs.size) }) : codeAny (model prog w) A (.call (.ref C) ⟨rest, kw⟩) R s := by
  obtain ⟨hh, g, d, t, os⟩ := s
  exact make_core (makes_of X hm) (looks_findIn X hi) (fun self => bind_fn X self (beq_iff_eq.mp hf)) (.inl rfl) h

/-- x.name where the instance's dict holds the name and the class does not -/
theorem get_field {x C : Addr} {ox : Obj} {es : List DictEntry} {n : Nat} {name : Str} {expr : Bool} {v : Value} {Q : Value → Shared → Prop}
    (X : K.In s.heap) (I : PySem.W.InstAt s.heap x ox C (some (dictOf es n))) (hg : plainGet K C name = true) (hh : hasDictIn K C = true) (ha : findIn K (.ref C) name = some none)
    (hl : getL name es = some (some v)) (hv : handedIn v = true) (h : Q v { s with toks := s.toks + 1 }) : wpAny (model prog w) A (getAttr (.ref x) name expr) Q E s :=
  get_value X I (plainGet_of hg).1 (findObj_own hh ha rfl hl) hv h

/-- x.m(..): the method found in the class -/
theorem get_method {x C f : Addr} {ox : Obj} {es : List DictEntry} {n : Nat} {name : Str} {pl : Sem Bool} {Q : Value × List Value → Shared → Prop}
    (X : K.In s.heap) (I : PySem.W.InstAt s.heap x ox C (some (dictOf es n))) (hg : plainGet K C name = true) (hf : findIn K (.ref C) name = some (some (.ref f))) (ht : isFn K (.ref f) = true)
    (hl : getL name es = some none) (h : Q (.ref f, [.ref x]) s) : wpAny (model prog w) A (getMethod (.ref x) name pl) Q E s :=
  method_fn X I (plainGet_of hg).1 (plainGet_of hg).2 hf (beq_iff_eq.mp ht) (by show (lookIn name (dictOf es n)).map _ = _; rw [lookIn_dict, hl]; rfl) h

/-! the whole heap as the ledger: makes every rule that writes through a ledger a rule over any heap -/
def noObjs (h : Heap) : Heap := { h with objs := #[] }
theorem noObjs_get (h : Heap) (b : Addr) : (noObjs h).get? b = none := by
  cases e : (noObjs h).get? b with
  | none => rfl
  | some o => exact absurd (Heap.lt_size e) (Nat.not_lt_zero _)
def ledger (h : Heap) (L d : Addr) : List (Addr × Obj) := (List.range h.objs.size).filterMap fun a => if a = L ∨ a = d then none else (h.get? a).map fun o => (a, o)
theorem mem_ledger {h : Heap} {L d a : Addr} {o : Obj} : (a, o) ∈ ledger h L d ↔ a ≠ L ∧ a ≠ d ∧ h.get? a = some o := by
  unfold ledger
  rw [List.mem_filterMap]
  constructor
  · rintro ⟨b, _, e⟩
    split at e
    · cases e
    · rename_i hb
      obtain ⟨o', ho, e'⟩ := Option.map_eq_some_iff.mp e
      cases e'
      exact ⟨fun q => hb (.inl q), fun q => hb (.inr q), ho⟩
  · rintro ⟨n1, n2, ho⟩
    refine ⟨a, List.mem_range.mpr (Heap.lt_size ho), ?_⟩
    rw [if_neg (show ¬ (a = L ∨ a = d) from fun q => q.elim n1 n2), ho] <;> rfl
theorem news_ledger {h : Heap} {L d : Addr} {od : Obj} (hne : d ≠ L) (ho : h.get? d = some od) : News (noObjs h) L h ([] ++ (d, od) :: ledger h L d) := by
  rintro ⟨a, o⟩ hp
  rcases List.mem_cons.mp hp with e | hp
  · cases e
    exact ⟨ho, hne, noObjs_get _ _⟩
  · obtain ⟨n1, n2, e⟩ := mem_ledger.mp hp
    exact ⟨e, n1, noObjs_get _ _⟩
theorem fr_all {h : Heap} {L : Addr} {m : Str → Option Value} (n : h.Ns L m) : Fr (noObjs h) L h m :=
  ⟨n, fun b o e => (by rw [noObjs_get] at e; cases e), Nat.zero_le _⟩
/-- Upd of the head entry (for append_K, setItem_K ..) -/
theorem upd_ledger {h : Heap} {L d : Addr} {o o' : Obj} : Upd d o o' ((d, o) :: ledger h L d) ((d, o') :: ledger h L d) :=
  .head fun ⟨_, _⟩ hp => (mem_ledger.mp hp).2.1

/-- x.name = v over any heap: L is any namespace of the heap (the frame's, say): its map stays, its object is not told; all else but the dict stays -/
theorem set_field {x C dx L : Addr} {ox : Obj} {m : Str → Option Value} {es es' : List DictEntry} {n n' : Nat} {name : Str} {v : Value} {Q : Unit → Shared → Prop}
    (X : K.In s.heap) (I : PySem.W.InstAt s.heap x ox C (some (dictOf es n))) (hd : ox.dict = some dx) (hL : s.heap.Ns L m) (hne : dx ≠ L)
    (hs : findIn K (.ref C) "__setattr__" = some (some (.builtin "object.__setattr__"))) (hp : plainOver K C = true) (ht : takerIn K C name = some none) (hh : hasDictIn K C = true) (hl : (getL name es).isSome = true)
    (e : (putL name (PyData.keyHash w.params name) (.str name (s.toks + 1)) v es, putN name es n) = (es', n')) (hz : es'.length ≤ 1000)
    (h : ∀ h' : Heap, h'.Ns L m → h'.get? dx = some (dictOf es' n') → (∀ b o, b ≠ dx → b ≠ L → s.heap.get? b = some o → h'.get? b = some o) → Q () { s with heap := h', toks := s.toks + 2 }) :
    wpAny (model prog w) A (setAttr (.ref x) name v) Q E s := by
  obtain ⟨e1, e2⟩ := Prod.mk.inj e
  have hdx : s.heap.get? dx = some (dictOf es n) := by
    have := I.dict
    rw [hd] at this
    exact this
  refine set_plain X I hs (osa_dict (s := { s with toks := s.toks + 1 }) (h₀ := noObjs s.heap) (L := L) (m := m) (od := dictOf es n) (od' := dictOf es' n') (es := es') (n := n') (pre := []) (post := ledger s.heap L dx)
    (fr_all hL) (news_ledger hne hdx) X I hd hp ht hh hl (fun _ q => nomatch q) (fun ⟨_, _⟩ q => (mem_ledger.mp q).2.1) (by rw [putName_dict, e1, e2]) rfl hz fun h' F' N' => ?_)
  exact h h' F'.ns (N'.get (List.Mem.head _)) fun b o n1 n2 ho => N'.get (List.Mem.tail _ (mem_ledger.mpr ⟨n2, n1, ho⟩))
end
end Att

namespace L2
open PySem PySem.Spec PyProof.Rows

theorem vals_ints : ∀ {vs : List Value} {ns : List Int}, IntsAre vs ns → Vals (ns.map V.int) vs
  | _, _, .nil => .nil
  | _, _, .cons n t h => .cons ⟨t, rfl⟩ (vals_ints h)

/-- nothing is tracked but the script, known to the object (or it is an object of the module) -/
def Only (H : Hp) : Prop := ∀ b, H b = none ∨ ∃ o xs, H b = some (.frz o (.lst xs))

/-- THE HEAD: the law's promise, at the heap behind the top. F, the promise of the law's def, may use that base is part of the heap (so K.In base, base.Ns mainGlobals mg stand in Mod) -/
theorem law_call {P : Program} {w : World} {K : PySem.W.Frag} {mg mb : Str → Option Value} {CX : CXT} {k : Nat} {fa a : Addr} {fd : FuncData} {x : Str} {sp : Sp} {s₁ : Shared} {vs : List Value} {ns : List Int}
    (KX : K.In s₁.heap) (hns : s₁.heap.Ns mainGlobals mg) (hb : s₁.heap.Ns builtinsNs mb) (hbb : ∀ x : Str, x ≠ "__name__" → mb x = bootBuiltins x) (hlim : s₁.heap.NoLimit) (hg : s₁.gens = #[])
    (ha : s₁.heap.get? a = some { cls := .type "list", data := .seq vs.toArray }) (hi : IntsAre vs ns) (hl : ns.length ≤ sizeLine) (hr : Room k callerA)
    (F : ∀ base : Heap, K.In base → base.Ns mainGlobals mg → FnOk P w K mg base CX k fa fd [x] sp) (hbind : ∀ (s : Shared) (u : Value), BindsTo s fd ⟨[u], []⟩ [(x, u)])
    (hsp : ∀ H : Hp, Only H → SqL K H a (ns.map V.int) → sp [.ref a] H (fun v _ => v = .bl true) fun _ _ _ => False)
    (hCX : ∀ H e s', CX [] H s₁ (fun _ _ _ => False) e s' → False) :
    codeAny (model P w) callerA (.call (.ref fa) ⟨[.ref a], []⟩) (fun r s' => r = .ok (.ret (.bool true)) ∧ OldK s₁.heap s'.heap ∧ s'.os = s₁.os ∧ AllBare s'.gens) s₁ := by
  have rv := vals_ints hi
  have lenV := hi.length
  -- from an abstract heap in which nothing but the script may be tracked
  have core : ∀ H : Hp, Only H → SqL K H a (ns.map V.int) → HOk P w H s₁.heap → (∀ b, H b ≠ none → b = a) → (H a ≠ none → K.lookup a = none) →
      codeAny (model P w) callerA (.call (.ref fa) ⟨[.ref a], []⟩) (fun r s' => r = .ok (.ret (.bool true)) ∧ OldK s₁.heap s'.heap ∧ s'.os = s₁.os ∧ AllBare s'.gens) s₁ := by
    intro H hO hS hok hA hK
    have base_of : ∀ {b : Addr} {o : Obj}, s₁.heap.get? b = some o → H b = none → (hidT s₁.heap H).get? b = some o := fun e n => hidT_get e n
    have noA : ∀ {b : Addr} {o : Obj} {es : Array DictEntry} {ep : Nat}, s₁.heap.get? b = some o → o.data = .dict es ep → H b = none := fun {b o es ep} e d => by
      cases q : H b with
      | none => rfl
      | some u =>
        have e' : b = a := hA b (by rw [q]; simp)
        subst e'
        rw [ha] at e; cases e
        have d' : Data.seq vs.toArray _ = Data.dict es ep := d
        cases d'
    have nsK : ∀ {b : Addr} {m : Str → Option Value}, s₁.heap.Ns b m → (hidT s₁.heap H).Ns b m := fun {b m} ⟨o, es, ep, e, d, r⟩ => ⟨o, es, ep, base_of e (noA e d), d, r⟩
    have hKb : K.In (hidT s₁.heap H) := fun b o e => base_of (KX b o e) (by
      cases q : H b with
      | none => rfl
      | some u =>
        have e' : b = a := hA b (by rw [q]; simp)
        subst e'
        rw [hK (by rw [q]; simp)] at e; cases e)
    have hM : Mod K mg (hidT s₁.heap H) := ⟨hKb, nsK hns, ⟨mb, nsK hb, hbb⟩, let ⟨mc, h1, h2⟩ := hlim; ⟨mc, nsK h1, h2⟩⟩
    have e0 : Env0 P w K mg (hidT s₁.heap H) callerA [] s₁ H := ⟨rfl, hM, fun b o e => of_hidT e, Nat.le_of_eq (hidT_size _ _), trivial, fun b hb => absurd (show b ∈ ([] : List Addr) from hb) (by simp), hok, .of_eq hg⟩
    refine codeAny_mono ((F _ hKb (nsK hns)).run callerA [] s₁ H ⟨[.ref a], []⟩ [.ref a] [.ref a] _ _ hr e0 (hbind s₁ (.ref a)) (.cons rfl .nil) (hsp H hO hS)) fun r s' h => ?_
    cases r with
    | error e => exact (hCX H e s' h).elim
    | ok fl =>
      cases fl with
      | next => exact False.elim h
      | brk => exact False.elim h
      | cont => exact False.elim h
      | ret u =>
        obtain ⟨v, H', os, bare, un, hok', r', q⟩ := h
        have q' : v = .bl true := q
        subst q'
        obtain rfl : u = Value.bool true := r'
        refine ⟨rfl, OldK.of_keep fun b o e => ?_, os, bare⟩
        cases q : H b with
        | none => exact un.keep b o e q (by intro z; exact absurd (show b ∈ ([] : List Addr) from z) (by simp)) (by simp)
        | some u =>
          rcases hO b with z | ⟨ob, xs, z⟩
          · rw [q] at z; cases z
          · have z2 := un.frzs b ob _ z
            obtain ⟨e1, _⟩ := hok b _ z
            obtain ⟨e2, _⟩ := hok' b _ z2
            rw [e] at e1; cases e1
            exact e2
  cases hk : K.lookup a with
  | some o =>
    -- the script is one of the module's own objects
    have e := KX a o hk
    rw [ha] at e
    cases e
    refine core (fun _ => none) (fun _ => .inl rfl) (.inr ⟨_, vs.toArray, _, hk, rfl, rfl, rfl, by rw [List.size_toArray, lenV]; exact hl, by simpa using rv⟩) (fun b u z => by have z' : (none : Option HO) = some u := z; cases z') (fun b z => absurd rfl z) fun z => absurd rfl z
  | none =>
    refine core (fun b => if b = a then some (.frz { cls := .type "list", data := .seq vs.toArray } (.lst (ns.map V.int))) else none) (fun b => ?_) (.inl (.inr ⟨{ cls := .type "list", data := .seq vs.toArray }, if_pos rfl⟩)) (fun b u z => ?_) (fun b z => ?_) fun _ => hk
    · by_cases hb : b = a
      · exact .inr ⟨_, _, if_pos hb⟩
      · exact .inl (if_neg hb)
    · by_cases hb : b = a
      · have z' := (if_pos hb).symm.trans z
        cases z'
        subst hb
        exact ⟨ha, by rw [List.length_map]; exact hl, vs, _, rv, ha⟩
      · have z' := (if_neg hb).symm.trans z
        cases z'
    · by_cases hb : b = a
      · exact hb
      · exact absurd (if_neg hb) z
end L2

namespace L2
open PySem PySem.Spec PyProof.Rows

abbrev KOf {K : PySem.W.Frag} {h : Heap} (_ : K.In h) : PySem.W.Frag := K

/-- the goal that k_head leaves (case hc), from the law's promise. F gives the function object fd (K's own) once, then the promise over every base -/
theorem walk_of {l : PySem.W.OpenLaw} {n k : Nat} {q : Program} {loose : List Str} {XP : (Str → Option Value) → Heap → Prop} {YP : World → Heap → Prop} {d : DefRec} {K : Params → PySem.W.Frag} {CX : World → CXT} {sp : World → Sp} {x : Str}
    (hn : l.most = some n) (hn2 : n ≤ sizeLine) (hdf : d.params.defaults = []) (hr : Room k callerA)
    (hY : ∀ (w : World) (h : Heap), YP w h → (K w.params).In h)
    (F : ∀ (w : World) (mg : Str → Option Value) (fa : Addr) (h : Heap), (K w.params).In h → h.Ns mainGlobals mg → mg d.name = some (.ref fa) →
      ∃ fd : FuncData, (∀ (s : Shared) (u : Value), BindsTo s fd ⟨[u], []⟩ [(x, u)]) ∧
        ∀ base : Heap, (K w.params).In base → base.Ns mainGlobals mg → FnOk l.prog w (K w.params) mg base (CX w) k fa fd [x] (sp w))
    (hsp : ∀ (w : World) (H : Hp) (a : Addr) (ns : List Int), ns.length ≤ n → Only H → SqL (K w.params) H a (ns.map V.int) → sp w [.ref a] H (fun v _ => v = .bl true) fun _ _ _ => False)
    (hCX : ∀ (w : World) (H : Hp) (s : Shared) (e : Value) (s' : Shared), CX w [] H s (fun _ _ _ => False) e s' → False) :
    PySem.W.WalkO q loose XP YP l.row.toRowW d [] (fun f vs => PySem.call f vs) := by
  refine Att.attach_call hn hdf fun w s₀ s₁ mg mb fa o pm cd doc a vs ns G Y ho hd hcd hmg hobj hints hlen hg => ?_
  have KX := hY w _ Y
  obtain ⟨fd, hb, hF⟩ := F w mg fa _ KX G.T.g hmg
  exact law_call KX G.T.g G.T.b G.T.builtins G.T.nolimit hg hobj hints (Nat.le_trans hlen hn2) hr hF hb (fun H hO hS => hsp w H a ns hlen hO hS) fun H e s' => hCX w H s₁ e s'
/-- the same where the promise hangs on the written part alone: (sp := My.sp_law), no hole under a binder -/
theorem walk_ofK {l : PySem.W.OpenLaw} {n k : Nat} {q : Program} {loose : List Str} {XP : (Str → Option Value) → Heap → Prop} {YP : World → Heap → Prop} {d : DefRec} {K : Params → PySem.W.Frag} {CX : CXT} {sp : PySem.W.Frag → Sp} {x : Str}
    (hn : l.most = some n) (hn2 : n ≤ sizeLine) (hdf : d.params.defaults = []) (hr : Room k callerA)
    (hY : ∀ (w : World) (h : Heap), YP w h → (K w.params).In h)
    (F : ∀ (w : World) (mg : Str → Option Value) (fa : Addr) (h : Heap), (K w.params).In h → h.Ns mainGlobals mg → mg d.name = some (.ref fa) →
      ∃ fd : FuncData, (∀ (s : Shared) (u : Value), BindsTo s fd ⟨[u], []⟩ [(x, u)]) ∧
        ∀ base : Heap, (K w.params).In base → base.Ns mainGlobals mg → FnOk l.prog w (K w.params) mg base CX k fa fd [x] (sp (K w.params)))
    (hsp : ∀ (K : PySem.W.Frag) (H : Hp) (a : Addr) (ns : List Int), ns.length ≤ n → Only H → SqL K H a (ns.map V.int) → sp K [.ref a] H (fun v _ => v = .bl true) fun _ _ _ => False)
    (hCX : ∀ (H : Hp) (s : Shared) (e : Value) (s' : Shared), CX [] H s (fun _ _ _ => False) e s' → False) :
    PySem.W.WalkO q loose XP YP l.row.toRowW d [] (fun f vs => PySem.call f vs) :=
  walk_of (K := K) (CX := fun _ => CX) (sp := fun w => sp (K w.params)) hn hn2 hdf hr hY F (fun w H a ns h1 h2 h3 => hsp (K w.params) H a ns h1 h2 h3) fun _ H s e s' => hCX H s e s'
end L2

/- THE LAST THEOREM (shape; LID, My.* are yours):
   My.Adr: a structure of the addresses that your layer names (classes, functions); My.Txt K t: a structure (Prop) of the equations over K;
   My.txt_mk : {K} {implicit addresses ..} (e1 : nsIn K mainGlobals "law" = some (some (.ref f))) (e2 : K.lookup f = some ⟨oc, od, .func (fnOf "law" "law" params body scope dV kV doc pm an cdv ct), sl⟩) (e3 : codeIn K cdv "law" = true) .. : ∃ t, My.Txt K t

set_option maxRecDepth 100000 in
set_option maxHeartbeats 0 in
theorem PySem.Challenge.cw_LID_holds : PySem.Challenge.rw_LID.Holds := by
  w_on; o_law; k_head; (case hw => w_witness2)
  k_fill
  refine L2.walk_of (l := PySem.Challenge.rw_LID) (n := 63) (k := 40) (x := "script") (CX := fun w => ..) (sp := fun _ => My.sp_law) rfl (by decide) rfl ⟨rfl, by decide, by decide⟩ (fun w h Y => PySem.W.kIn_of Y) ?F ?S ?C
  case F =>
    intro w mg fa h KX G hmg
    have T : ∃ t, My.Txt (L2.KOf KX) t := by
      dsimp only [L2.KOf]                          -- K must stand as «<heap const> w.params» for k_is
      refine' My.txt_mk ?e1 ?e2 ?e3 ..
      (case e1 => PySem.W.k_is)                    -- in the order: a name -> its address -> its object -> its parts
      (case e2 => PySem.W.k_is)
      ..
    obtain ⟨t, T⟩ := T
    have e0 := hmg.symm.trans (PySem.W.mg_of KX G T.law)
    cases e0                                       -- fa is the law's own address
    exact ⟨_, fun s u => .of_eq rfl, fun base kb nb => My.law_fn T kb nb⟩     -- if «.of_eq rfl» comes too early: refine' ⟨_, ?b, fun base kb nb => My.law_fn T kb nb⟩; exact fun s u => .of_eq rfl
  case S => exact fun w H a ns hl hO hS => ..
  case C => exact ..
(the tactic k_is has no namespace: write k_is) -/

/-! SHORT WORDS over the layer: a def of the text, its body, what a loop and a test want. -/
namespace L2
open PySem PySem.Spec PyProof.Rows

/-! ### the text by places -/
/-- the j-th statement of a class's body -/
def inClass (s : Stmt) (j : Nat) : Stmt := match s with
  | .ClassDef _ _ _ body _ _ _ _ _ _ _ => body.getD j (.Pass ⟨0, 0, 0, 0⟩)
  | _ => .Pass ⟨0, 0, 0, 0⟩
def defArgs (s : Stmt) : Arguments := match s with
  | .FunctionDef _ a _ _ _ _ _ _ _ _ => a
  | _ => { posonlyargs := [], args := [], vararg := none, kwonlyargs := [], kw_defaults := [], kwarg := none, defaults := [] }
def defBody (s : Stmt) : List Stmt := match s with
  | .FunctionDef _ _ b _ _ _ _ _ _ _ => b
  | _ => []
def defScope (s : Stmt) : Scope := match s with
  | .FunctionDef _ _ _ _ _ _ sc _ _ _ => sc
  | _ => { kind := .function, names := [], isGenerator := false, isCoroutine := false }

/-! ### no exception leaves a def -/
abbrev CX0 : CXT := fun _ _ _ _ _ _ => False
abbrev E0 : XK := fun _ _ _ => False
theorem pass0 {X : Cx} : Passes CX0 X E0 := fun _ _ _ _ _ _ _ h => h.elim

/-! ### a def (or method) of the text as it stands behind the top -/
structure Fun (K : PySem.W.Frag) (x qual : Str) (st : Stmt) (f : Addr) (fd : FuncData) : Prop where
  ex : ∃ (oc : Value) (od : Option Addr) (kV doc pm : Value) (an : Option Addr) (cdv ct : Value) (osl : Array (Option Value)),
    fd = PySem.W.fnOf x qual (defArgs st) (defBody st) (defScope st) .none kV doc pm an cdv ct ∧ K.lookup f = some ⟨oc, od, .func fd, osl⟩ ∧ PySem.W.codeIn K cdv qual = true
  kp : PySem.W.keepIn K (.ref f) = true
section
variable {P : Program} {w : World} {K : PySem.W.Frag} {mg : Str → Option Value} {base : Heap}
/-- THE RULE for a def: its body as a term of rules, and the reading of that term -/
theorem Fun.ok {x qual : Str} {st : Stmt} {f : Addr} {fd : FuncData} {N ps : List Str} {k : Nat} {sp : Sp} (F : Fun K x qual st f fd) (S : FnScope N ps (defScope st)) (len : ∀ vs H Q E, sp vs H Q E → vs.length = ps.length)
    (hbody : ∀ (cdv : Value) (A : Around) (outer : List Env) (s : Shared) (H : Hp) (vs : List V) (Q : VK) (E : XK), Room k (A.deeper (envOfC qual (defScope st) s.heap.objs.size f cdv)) → sp vs H Q E →
      ∃ t, PSs (cxOf CX0 P w K mg base N qual (defScope st) f cdv A outer s H E).nox (defBody st) t ∧ t { nx := fun _ H' => Q .non H', rt := Q } (start N vs) H) : FnOk P w K mg base CX0 (k + 1) f fd ps sp := by
  obtain ⟨oc, od, kV, doc, pm, an, cdv, ct, osl, rfl, lk, hcd⟩ := F.ex
  refine fn_of lk hcd S len fun A outer s H vs Q E hr hsp => ?_
  obtain ⟨t, h, q⟩ := hbody cdv A outer s H vs Q E hr hsp
  exact ⟨t, h.nox, q⟩
/-- how its arguments bind (no defaults): h is «fun _ _ _ _ _ _ us hl => match us, hl with | [_, _], _ => rfl», one _ a parameter -/
theorem Fun.binds {x qual : Str} {st : Stmt} {f : Addr} {fd : FuncData} {ps : List Str} (F : Fun K x qual st f fd)
    (h : ∀ (kV doc pm : Value) (an : Option Addr) (cdv ct : Value) (us : List Value), us.length = ps.length → bindArgs (PySem.W.fnOf x qual (defArgs st) (defBody st) (defScope st) .none kV doc pm an cdv ct) ⟨us, []⟩ = pure (ps.zip us)) : Binds K fd ps [] := by
  obtain ⟨oc, od, kV, doc, pm, an, cdv, ct, osl, rfl, lk, hcd⟩ := F.ex
  exact .all (h kV doc pm an cdv ct)
theorem fun_mk {x qual : Str} {st : Stmt} {f : Addr} {oc : Value} {od an : Option Addr} {osl : Array (Option Value)} {kV doc pm cdv ct : Value} (l : K.lookup f = some ⟨oc, od, .func (PySem.W.fnOf x qual (defArgs st) (defBody st) (defScope st) .none kV doc pm an cdv ct), osl⟩)
    (c : PySem.W.codeIn K cdv qual = true) (k : PySem.W.keepIn K (.ref f) = true) : Fun K x qual st f (PySem.W.fnOf x qual (defArgs st) (defBody st) (defScope st) .none kV doc pm an cdv ct) := ⟨⟨oc, od, kV, doc, pm, an, cdv, ct, osl, rfl, l, c⟩, k⟩
end
theorem hu_of {A : Around} {k : Nat} (hr : Room k A) : A.units + 1 < cLine := Nat.lt_of_le_of_lt (Nat.add_le_add_left (by decide : 1 ≤ 64) _) hr.units
theorem small1000 {n : Nat} (h : n ≤ 1000) : n < sizeLine := Nat.lt_of_le_of_lt h (by decide)

/-! ### expressions in short: the name that stands in the i-th slot -/
section
variable {X : Cx}
theorem pv (i : Nat) {x : Str} {pos : Pos} (hN : X.N[i]? = some x := by rfl) (hv : Vis X.env.scope x := by first | exact Or.inl rfl | exact Or.inr (Or.inl rfl) | exact Or.inr (Or.inr rfl)) (hd : (x == ("__debug__" : Str)) = false := by decide)
    (hcd : (x == ("__classdict__" : Str)) = false := by decide) : PE X (.Name x pos) (tVar i) := pe_var hN hv hd hcd
/-- len of a dict -/
theorem call_lenD : CallR X (.builtin "len") (fun xs H Q => ∃ a kvs, xs = [V.ref a] ∧ H a = some (.dK kvs) ∧ Q (.int kvs.length) H) := by
  intro pins s σ H xs us Q I r h
  obtain ⟨a, kvs, rfl, ha, q⟩ := h
  obtain ⟨u, rfl, ru⟩ := vals1 r
  cases ru
  exact d_len I (.inl ha) fun t s' I' => ⟨.int kvs.length, H, I', ⟨t, rfl⟩, q⟩
end

/-! ### tests -/
theorem iteF {A B : Prop} (h : B) : if false = true then A else B := by
  rw [if_neg Bool.false_ne_true]
  exact h
theorem iteT {A B : Prop} (h : A) : if true = true then A else B := by
  rw [if_pos rfl]
  exact h
theorem ite2 {c A B : Prop} [Decidable c] (h1 : c → A) (h2 : ¬ c → B) : if c then A else B := by
  by_cases h : c
  · rw [if_pos h]
    exact h1 h
  · rw [if_neg h]
    exact h2 h
theorem iteNS {c A B : Prop} [Decidable c] (hc : c) (h : B) : if (!decide c) = true then A else B := by
  rw [decide_eq_true hc]
  exact iteF h

/-! ### heaps -/
/-- all that was tracked is as it was -/
def Same (H H' : Hp) : Prop := ∀ b o, H b = some o → H' b = some o
theorem Same.refl (H : Hp) : Same H H := fun _ _ h => h
theorem Same.trans {H H1 H2 : Hp} (a : Same H H1) (b : Same H1 H2) : Same H H2 := fun c o h => b c o (a c o h)
theorem Same.free {H H' : Hp} (e : Same H H') {l : Addr} (h : H' l = Option.none) : H l = Option.none := by
  cases q : H l with
  | none => rfl
  | some o =>
    rw [e l o q] at h
    cases h
theorem Same.seq {K : PySem.W.Frag} {H H' : Hp} {a : Addr} {xs : List V} (e : Same H H') (h : SqL K H a xs) : SqL K H' a xs := by
  rcases h with (h | ⟨o, h⟩) | h
  · exact .inl (.inl (e _ _ h))
  · exact .inl (.inr ⟨o, e _ _ h⟩)
  · exact .inr h

/-! ### a dict's pairs: keys that differ -/
section
variable {κ : Type} [DecidableEq κ]
theorem valV_not {kvs : List (κ × V)} {k : κ} (h : valV kvs k = none) : ¬ k ∈ kvs.map (·.1) := by
  intro m
  obtain ⟨p, hp, e⟩ := List.mem_map.mp m
  have q : (kvs.any fun kv => decide (kv.1 = k)) = true := List.any_eq_true.mpr ⟨p, hp, decide_eq_true e⟩
  rw [valV_any, h] at q
  exact absurd q (by simp)
theorem valV_in {kvs : List (κ × V)} {k : κ} {v : V} (h : valV kvs k = some v) : k ∈ kvs.map (·.1) := by
  have q : (kvs.any fun kv => decide (kv.1 = k)) = true := by
    rw [valV_any, h]
    all_goals rfl
  obtain ⟨p, hp, e⟩ := List.any_eq_true.mp q
  exact List.mem_map.mpr ⟨p, hp, of_decide_eq_true e⟩
theorem nd_snoc : ∀ {l : List κ} {k : κ}, l.Nodup → ¬ k ∈ l → (l ++ [k]).Nodup
  | [], k, _, _ => by simp
  | a :: r, k, h, hk => by
    obtain ⟨h1, h2⟩ := List.nodup_cons.mp h
    show (a :: (r ++ [k])).Nodup
    refine List.nodup_cons.mpr ⟨fun m => ?_, nd_snoc h2 fun m => hk (List.mem_cons.mpr (Or.inr m))⟩
    rcases List.mem_append.mp m with q | q
    · exact h1 q
    · exact hk (List.mem_cons.mpr (Or.inl (List.mem_singleton.mp q).symm))
theorem nd_putK {kvs : List (κ × V)} {k : κ} (v : V) (hn : (kvs.map (·.1)).Nodup) (h : valV kvs k = none) : ((putK kvs k v).map (·.1)).Nodup := by
  rw [putK_new v h, List.map_append]
  exact nd_snoc hn (valV_not h)
theorem dropK_pos {p : κ × V} {r : List (κ × V)} {k : κ} (e : p.1 = k) : dropK (p :: r) k = dropK r k := by
  unfold dropK
  rw [List.filter_cons, if_neg (by simp [e])]
theorem dropK_neg {p : κ × V} {r : List (κ × V)} {k : κ} (e : ¬ p.1 = k) : dropK (p :: r) k = p :: dropK r k := by
  unfold dropK
  rw [List.filter_cons, if_pos (by simp [e])]
theorem dropK_no : ∀ {kvs : List (κ × V)} {k : κ}, ¬ k ∈ kvs.map (·.1) → dropK kvs k = kvs
  | [], _, _ => rfl
  | p :: r, k, h => by
    have h' : ¬ k ∈ r.map (·.1) := fun m => by
      obtain ⟨q, hq, e⟩ := List.mem_map.mp m
      exact h (List.mem_map.mpr ⟨q, List.mem_cons.mpr (Or.inr hq), e⟩)
    rw [dropK_neg fun e => h (List.mem_map.mpr ⟨p, List.mem_cons.mpr (Or.inl rfl), e⟩), dropK_no h']
theorem dropK_mem {kvs : List (κ × V)} {k : κ} {p : κ × V} (h : p ∈ dropK kvs k) : p ∈ kvs := (List.mem_filter.mp h).1
theorem nd_dropK : ∀ {kvs : List (κ × V)} {k : κ}, (kvs.map (·.1)).Nodup → ((dropK kvs k).map (·.1)).Nodup
  | [], _, _ => List.nodup_nil
  | p :: r, k, h => by
    have h : (p.1 :: r.map (·.1)).Nodup := h
    obtain ⟨h1, h2⟩ := List.nodup_cons.mp h
    by_cases e : p.1 = k
    · rw [dropK_pos e]
      exact nd_dropK h2
    · rw [dropK_neg e]
      show (p.1 :: (dropK r k).map (·.1)).Nodup
      refine List.nodup_cons.mpr ⟨fun m => h1 ?_, nd_dropK h2⟩
      obtain ⟨q, hq, eq⟩ := List.mem_map.mp m
      exact List.mem_map.mpr ⟨q, dropK_mem hq, eq⟩
theorem dropK_len : ∀ {kvs : List (κ × V)} {k : κ}, (kvs.map (·.1)).Nodup → k ∈ kvs.map (·.1) → (dropK kvs k).length + 1 = kvs.length
  | [], _, _, m => by simp at m
  | p :: r, k, h, m => by
    have h : (p.1 :: r.map (·.1)).Nodup := h
    have m : k = p.1 ∨ k ∈ r.map (·.1) := List.mem_cons.mp m
    obtain ⟨h1, h2⟩ := List.nodup_cons.mp h
    by_cases e : p.1 = k
    · subst e
      rw [dropK_pos rfl, dropK_no h1]
      all_goals rfl
    · have m' : k ∈ r.map (·.1) := m.resolve_left fun z => e z.symm
      have q := dropK_len h2 m'
      rw [dropK_neg e, List.length_cons, List.length_cons]
      omega
end
end L2

namespace KM
/-! Where a house stands for a holder. -/
theorem idxOf_eq {row : List Int} {h : Int} : ∀ {i : Nat}, h ∉ row.take i → row[i]? = some h → row.idxOf h = i := by
  induction row with
  | nil => intro i _ h2; simp at h2
  | cons a r ih =>
    intro i h1 h2
    cases i with
    | zero => simp at h2; simp [h2]
    | succ j =>
      rw [List.take_succ_cons] at h1
      have ha : a ≠ h := fun e => h1 (by rw [e]; exact List.mem_cons_self)
      have hr : h ∉ r.take j := fun m => h1 (List.mem_cons_of_mem _ m)
      have e := ih hr (by simpa using h2)
      have hb : (a == h) = false := by simpa using ha
      rw [List.idxOf_cons, hb, e]
      rfl
theorem idxOf_none {row : List Int} {h : Int} (hn : h ∉ row) : row.idxOf h = row.length := List.idxOf_eq_length hn
theorem take_idx_not (row : List Int) (h : Int) : h ∉ row.take (row.idxOf h) := by
  induction row with
  | nil => simp
  | cons a r ih =>
    rw [List.idxOf_cons]
    by_cases e : a = h
    · subst e; simp
    · have hb : (a == h) = false := by simpa using e
      rw [hb]
      simp only [cond_false, List.take_succ_cons, List.mem_cons, not_or]
      exact ⟨fun z => e z.symm, ih⟩
/-- the place of x in a list, where x stands ahead of place n -/
theorem idx_take {row : List Int} {x : Int} : ∀ {n : Nat}, x ∈ row.take n ↔ (x ∈ row ∧ row.idxOf x < n) := by
  induction row with
  | nil => intro n; simp
  | cons a r ih =>
    intro n
    cases n with
    | zero => simp
    | succ j =>
      rw [List.take_succ_cons, List.mem_cons, List.mem_cons, List.idxOf_cons]
      by_cases e : a = x
      · subst e; simp
      · have hb : (a == x) = false := by simpa using e
        rw [hb]
        have e' : ¬ x = a := fun z => e z.symm
        simp only [cond_false, e', false_or]
        rw [ih]
        constructor
        · rintro ⟨h1, h2⟩; exact ⟨h1, by omega⟩
        · rintro ⟨h1, h2⟩; exact ⟨h1, by omega⟩
theorem idxOf_take {row : List Int} {x : Int} : ∀ {n : Nat}, x ∈ row.take n → (row.take n).idxOf x = row.idxOf x := by
  induction row with
  | nil => intro n h; simp at h
  | cons a r ih =>
    intro n h
    cases n with
    | zero => simp at h
    | succ j =>
      rw [List.take_succ_cons] at h ⊢
      rw [List.idxOf_cons, List.idxOf_cons]
      by_cases e : a = x
      · subst e; simp
      · have hb : (a == x) = false := by simpa using e
        rw [hb]
        simp only [cond_false]
        rcases List.mem_cons.mp h with z | z
        · exact absurd z.symm e
        · rw [ih z]
def order (row : List Int) (h : Int) : List Int := row.take (row.idxOf h) ++ [h]
def spot (row : List Int) (h x : Int) : Nat := if x = h then row.idxOf h else if x ∈ row ∧ row.idxOf x < row.idxOf h then row.idxOf x else 1000
theorem idxOf_le (row : List Int) (h : Int) : row.idxOf h ≤ row.length := by
  by_cases e : h ∈ row
  · exact Nat.le_of_lt (List.idxOf_lt_length_of_mem e)
  · rw [idxOf_none e]; exact Nat.le_refl _
theorem order_mem {row : List Int} {h x : Int} (hx : x ∈ order row h) : (order row h).idxOf x = spot row h x ∧ spot row h x ≤ row.length := by
  unfold order at hx ⊢
  unfold spot
  have hle := idxOf_le row h
  by_cases e : x = h
  · subst e
    rw [if_pos rfl]
    refine ⟨?_, hle⟩
    rw [List.idxOf_append, if_neg (take_idx_not row x)]
    simp [List.length_take]
    omega
  · rw [if_neg e]
    have hm : x ∈ row.take (row.idxOf h) := by
      rcases List.mem_append.mp hx with z | z
      · exact z
      · exact absurd (List.mem_singleton.mp z) e
    have hm2 := idx_take.mp hm
    rw [if_pos hm2]
    refine ⟨?_, by omega⟩
    rw [List.idxOf_append, if_pos hm, idxOf_take hm]
theorem order_not {row : List Int} {h x : Int} (hx : ¬ x ∈ order row h) : spot row h x = 1000 := by
  unfold order at hx
  unfold spot
  have e : ¬ x = h := fun z => hx (List.mem_append.mpr (.inr (by simp [z])))
  rw [if_neg e, if_neg]
  intro q
  exact hx (List.mem_append.mpr (.inl (idx_take.mpr q)))
/-- what rather answers -/
def ratherV (row : List Int) (h one other : Int) : Bool :=
  if one ∈ order row h then (if other ∈ order row h then decide ((order row h).idxOf one < (order row h).idxOf other) else true) else false
theorem rather_spot {row : List Int} {h one other : Int} (hl : row.length < 1000) : ratherV row h one other = decide (spot row h one < spot row h other) := by
  unfold ratherV
  by_cases h1 : one ∈ order row h
  · obtain ⟨e1, l1⟩ := order_mem h1
    rw [if_pos h1]
    by_cases h2 : other ∈ order row h
    · obtain ⟨e2, l2⟩ := order_mem h2
      rw [if_pos h2, e1, e2]
    · rw [if_neg h2, order_not h2]
      symm
      exact decide_eq_true (by omega)
  · rw [if_neg h1, order_not h1]
    symm
    refine decide_eq_false ?_
    by_cases h2 : other ∈ order row h
    · obtain ⟨e2, l2⟩ := order_mem h2
      omega
    · rw [order_not h2]; omega
end KM

namespace KM
/-! Dealings that come of rings: what holds of every one of them. -/
theorem len_le_of_subset {α : Type} [DecidableEq α] : ∀ {l1 l2 : List α}, l1.Nodup → (∀ x ∈ l1, x ∈ l2) → l1.length ≤ l2.length
  | [], _, _, _ => Nat.zero_le _
  | a :: l1, l2, nd, h => by
    obtain ⟨n1, n2⟩ := List.nodup_cons.mp nd
    have ha : a ∈ l2 := h a List.mem_cons_self
    have hsub : ∀ x ∈ l1, x ∈ l2.erase a := fun x hx => (List.mem_erase_of_ne (fun e => n1 (by rw [← e]; exact hx))).mpr (h x (List.mem_cons_of_mem _ hx))
    have := len_le_of_subset n2 hsub
    rw [List.length_erase_of_mem ha] at this
    have hp : 0 < l2.length := List.length_pos_of_mem ha
    simp only [List.length_cons]
    omega
theorem all_of_len {α : Type} [DecidableEq α] {l1 l2 : List α} (nd : l1.Nodup) (h : ∀ x ∈ l1, x ∈ l2) (hl : l2.length ≤ l1.length) : ∀ y ∈ l2, y ∈ l1 := by
  intro y hy
  by_cases m : y ∈ l1
  · exact m
  · have := len_le_of_subset (l1 := y :: l1) (List.nodup_cons.mpr ⟨m, nd⟩) (fun x hx => by
      rcases List.mem_cons.mp hx with e | e
      · rw [e]; exact hy
      · exact h x e)
    simp only [List.length_cons] at this
    omega
theorem map_nodup {α β : Type} {f : α → β} : ∀ {l : List α}, l.Nodup → (∀ x ∈ l, ∀ y ∈ l, f x = f y → x = y) → (l.map f).Nodup
  | [], _, _ => List.nodup_nil
  | a :: l, nd, h => by
    obtain ⟨n1, n2⟩ := List.nodup_cons.mp nd
    rw [List.map_cons]
    refine List.nodup_cons.mpr ⟨fun m => ?_, map_nodup n2 fun x hx y hy => h x (List.mem_cons_of_mem _ hx) y (List.mem_cons_of_mem _ hy)⟩
    obtain ⟨b, hb, e⟩ := List.mem_map.mp m
    exact n1 (by rw [← h b (List.mem_cons_of_mem _ hb) a List.mem_cons_self e]; exact hb)
/-- a map into itself that keeps the members of a finite set apart comes to each of them -/
theorem onto {n : Nat} (Z : Nat → Prop) (d : Nat → Nat) (hn : ∀ x, Z x → x < n) (into : ∀ x, Z x → Z (d x)) (inj : ∀ x y, Z x → Z y → d x = d y → x = y) : ∀ y, Z y → ∃ x, Z x ∧ d x = y := by
  intro y hy
  have hdec : ∀ x, Decidable (Z x) := fun x => Classical.propDecidable _
  let L : List Nat := (List.range n).filter fun x => @decide (Z x) (hdec x)
  have mL : ∀ x, x ∈ L ↔ Z x := fun x => by
    show x ∈ (List.range n).filter _ ↔ _
    rw [List.mem_filter, List.mem_range]
    constructor
    · rintro ⟨_, h⟩
      exact @of_decide_eq_true _ (hdec x) h
    · intro h
      exact ⟨hn x h, @decide_eq_true _ (hdec x) h⟩
  have ndL : L.Nodup := List.Nodup.sublist List.filter_sublist List.nodup_range
  have ndM : (L.map d).Nodup := map_nodup ndL fun x hx z hz e => inj x z ((mL x).mp hx) ((mL z).mp hz) e
  have sub : ∀ x ∈ L.map d, x ∈ L := fun x hx => by
    obtain ⟨z, hz, e⟩ := List.mem_map.mp hx
    rw [← e]
    exact (mL _).mpr (into z ((mL z).mp hz))
  have := all_of_len ndM sub (by rw [List.length_map]; exact Nat.le_refl _) y ((mL y).mpr hy)
  obtain ⟨x, hx, e⟩ := List.mem_map.mp this
  exact ⟨x, (mL x).mp hx, e⟩
/-- how far each house is down for each holder: two that are for them differ; the own one is for them -/
structure Pref (n : Nat) (r : Nat → Nat → Nat) : Prop where
  strict : ∀ i x y, i < n → x < n → y < n → r i x = r i y → r i x < 1000 → x = y
  own : ∀ i, i < n → r i i < 1000
/-- d comes of rings: t is the round in which a holder leaves -/
structure Cert (n : Nat) (r : Nat → Nat → Nat) (d t : Nat → Nat) : Prop where
  rng : ∀ i, i < n → d i < n
  inj : ∀ i j, i < n → j < n → d i = d j → i = j
  time : ∀ i, i < n → t (d i) = t i
  best : ∀ i x, i < n → x < n → t i ≤ t x → r i (d i) ≤ r i x
section
variable {n : Nat} {r r' : Nat → Nat → Nat} {d t d' t' : Nat → Nat}
theorem Cert.own (C : Cert n r d t) {i : Nat} (hi : i < n) : r i (d i) ≤ r i i := C.best i i hi hi (Nat.le_refl _)
theorem Cert.onto_lt (C : Cert n r d t) (τ : Nat) {y : Nat} (hy : y < n) (h : t y < τ) : ∃ x, x < n ∧ t x < τ ∧ d x = y := by
  obtain ⟨x, ⟨h1, h2⟩, e⟩ := onto (n := n) (fun x => x < n ∧ t x < τ) d (fun x h => h.1) (fun x h => ⟨C.rng x h.1, by rw [C.time x h.1]; exact h.2⟩) (fun x y hx hy e => C.inj x y hx.1 hy.1 e) y ⟨hy, h⟩
  exact ⟨x, h1, h2, e⟩
theorem exists_min {Z : Nat → Prop} (f : Nat → Nat) (h : ∃ x, Z x) : ∃ x, Z x ∧ ∀ y, Z y → f x ≤ f y := by
  have key : ∀ m : Nat, ∀ x, Z x → f x ≤ m → ∃ x, Z x ∧ ∀ y, Z y → f x ≤ f y := by
    intro m
    induction m with
    | zero => exact fun x hx hm => ⟨x, hx, fun y _ => by omega⟩
    | succ m ih =>
      intro x hx hm
      by_cases q : ∃ y, Z y ∧ f y ≤ m
      · obtain ⟨y, hy, l⟩ := q
        exact ih y hy l
      · exact ⟨x, hx, fun y hy => by
          by_cases l : f y ≤ m
          · exact absurd ⟨y, hy, l⟩ q
          · omega⟩
  obtain ⟨x, hx⟩ := h
  exact key (f x) x hx (Nat.le_refl _)
/-- two such dealings agree upon all who leave by the first ahead of T, where these wish alike -/
theorem Cert.agree (P : Pref n r) (C : Cert n r d t) (C' : Cert n r' d' t') (T : Nat) (same : ∀ i, i < n → t i < T → ∀ x, r' i x = r i x) : ∀ i, i < n → t i < T → d' i = d i := by
  have key : ∀ τ : Nat, τ ≤ T → ∀ i, i < n → t i < τ → d' i = d i := by
    intro τ
    induction τ with
    | zero => intro _ i _ h; omega
    | succ τ ih =>
      intro hT
      have ih := ih (by omega)
      -- nobody of this round gets by d' a house of an earlier one
      have late : ∀ j, j < n → t j = τ → τ ≤ t (d' j) := fun j hj ht => by
        by_cases l : t (d' j) < τ
        · obtain ⟨k, hk, hkt, e⟩ := C.onto_lt τ (C'.rng j hj) l
          have e' : d' k = d' j := by rw [ih k hk hkt]; exact e
          have := C'.inj k j hk hj e'
          subst this
          omega
        · omega
      have upto : ∀ j, j < n → t j = τ → r j (d j) ≤ r j (d' j) := fun j hj ht => C.best j (d' j) hj (C'.rng j hj) (by rw [ht]; exact late j hj ht)
      have now : ∀ i, i < n → t i = τ → d' i = d i := by
        intro i hi hti
        by_cases bad : ∃ j, j < n ∧ t j = τ ∧ d' j ≠ d j
        · exfalso
          obtain ⟨j, ⟨hj, htj, hne⟩, hmin⟩ := exists_min (Z := fun j => j < n ∧ t j = τ ∧ d' j ≠ d j) t' bad
          have lt1 : t' (d j) < t' j := by
            by_cases l : t' (d j) < t' j
            · exact l
            · exfalso
              have q := C'.best j (d j) hj (C.rng j hj) (by omega)
              rw [same j hj (by omega), same j hj (by omega)] at q
              have q2 := upto j hj htj
              have e : r j (d j) = r j (d' j) := by omega
              have own := P.own j hj
              have := C.own hj
              exact hne (P.strict j (d j) (d' j) hj (C.rng j hj) (C'.rng j hj) e (by omega)).symm
          obtain ⟨z, ⟨hz1, hz2, hz3⟩, ez⟩ := onto (n := n) (fun x => x < n ∧ t x = τ ∧ t' x < t' j) d (fun x h => h.1)
            (fun x h => by
              have hx : d' x = d x := by
                by_cases e : d' x = d x
                · exact e
                · have := hmin x ⟨h.1, h.2.1, e⟩
                  omega
              refine ⟨C.rng x h.1, by rw [C.time x h.1]; exact h.2.1, ?_⟩
              rw [← hx, C'.time x h.1]
              exact h.2.2)
            (fun x y hx hy e => C.inj x y hx.1 hy.1 e) (d j) ⟨C.rng j hj, by rw [C.time j hj]; exact htj, lt1⟩
          have := C.inj z j hz1 hj ez
          subst this
          omega
        · by_cases e : d' i = d i
          · exact e
          · exact absurd ⟨i, hi, hti, e⟩ bad
      intro i hi hti
      by_cases l : t i < τ
      · exact ih i hi l
      · exact now i hi (by omega)
  exact key T (Nat.le_refl _)
theorem Cert.unique (P : Pref n r) (C : Cert n r d t) (C' : Cert n r d' t') {i : Nat} (hi : i < n) : d' i = d i :=
  C.agree P C' (t i + 1) (fun _ _ _ _ => rfl) i hi (Nat.lt_succ_self _)
/-- no group does better by its own houses: G the group, e its dealing -/
theorem Cert.core (P : Pref n r) (C : Cert n r d t) (G : Nat → Prop) (e : Nat → Nat) (hG : ∀ g, G g → g < n) (into : ∀ g, G g → G (e g)) (inj : ∀ g h, G g → G h → e g = e h → g = h)
    (noless : ∀ g, G g → r g (e g) ≤ r g (d g)) : ∀ g, G g → r g (e g) = r g (d g) := by
  intro g hg
  by_cases q : ∃ i, G i ∧ r i (e i) < r i (d i)
  · exfalso
    obtain ⟨i, ⟨hi, lt⟩, hmin⟩ := exists_min (Z := fun i => G i ∧ r i (e i) < r i (d i)) t q
    have early : t (e i) < t i := by
      by_cases l : t (e i) < t i
      · exact l
      · have := C.best i (e i) (hG i hi) (hG _ (into i hi)) (by omega)
        omega
    obtain ⟨z, ⟨hz1, hz2⟩, ez⟩ := onto (n := n) (fun x => G x ∧ t x < t i) e (fun x h => hG x h.1)
      (fun x h => by
        have eq : r x (e x) = r x (d x) := by
          have h1 := noless x h.1
          by_cases l : r x (e x) < r x (d x)
          · have := hmin x ⟨h.1, l⟩
            have := h.2
            omega
          · omega
        have hx := hG x h.1
        have o1 := C.own hx
        have o2 := P.own x hx
        have : e x = d x := P.strict x (e x) (d x) hx (hG _ (into x h.1)) (C.rng x hx) eq (by omega)
        refine ⟨into x h.1, ?_⟩
        rw [this, C.time x hx]
        exact h.2)
      (fun x y hx hy e => inj x y hx.1 hy.1 e) (e i) ⟨into i hi, early⟩
    have := inj z i hz1 hi ez
    subst this
    omega
  · have h1 := noless g hg
    by_cases l : r g (e g) < r g (d g)
    · exact absurd ⟨g, hg, l⟩ q
    · omega
/-- another list than one's own wins nothing -/
theorem Cert.honest (P : Pref n r) (C : Cert n r d t) (C' : Cert n r' d' t') {i : Nat} (hi : i < n) (same : ∀ j, j < n → j ≠ i → ∀ x, r' j x = r j x) : r i (d i) ≤ r i (d' i) := by
  have ag := C.agree P C' (t i) (fun j hj ht x => same j hj (fun e => by rw [e] at ht; omega) x)
  by_cases l : t (d' i) < t i
  · exfalso
    obtain ⟨k, hk, hkt, e⟩ := C.onto_lt (t i) (C'.rng i hi) l
    have e' : d' k = d' i := by rw [ag k hk hkt]; exact e
    have := C'.inj k i hk hi e'
    subst this
    omega
  · exact C.best i (d' i) hi (C'.rng i hi) (by omega)
end
end KM

namespace KM
/-! Going on from one to the next, and rings. -/
def it (f : Nat → Nat) : Nat → Nat → Nat
  | 0, x => x
  | k + 1, x => f (it f k x)
theorem it_add (f : Nat → Nat) (a b x : Nat) : it f (a + b) x = it f a (it f b x) := by
  induction a with
  | zero => rw [Nat.zero_add]; rfl
  | succ a ih => rw [Nat.succ_add]; show f (it f (a + b) x) = f (it f a (it f b x)); rw [ih]
theorem it_mem {f : Nat → Nat} {L : List Nat} (hf : ∀ x ∈ L, f x ∈ L) {x : Nat} (hx : x ∈ L) : ∀ k, it f k x ∈ L
  | 0 => hx
  | k + 1 => hf _ (it_mem hf hx k)
/-- behind as many steps as there are places one stands in a ring -/
theorem periodic {f : Nat → Nat} {L : List Nat} (hf : ∀ x ∈ L, f x ∈ L) {x : Nat} (hx : x ∈ L) {m : Nat} (hm : L.length ≤ m) : ∃ p, 0 < p ∧ p ≤ m ∧ it f p (it f m x) = it f m x := by
  have ex : ∃ i j, i < j ∧ j ≤ m ∧ it f i x = it f j x := by
    by_cases q : ∃ i j, i < j ∧ j ≤ m ∧ it f i x = it f j x
    · exact q
    · exfalso
      have nd : ((List.range (m + 1)).map fun k => it f k x).Nodup := map_nodup List.nodup_range fun a ha b hb e => by
        rw [List.mem_range] at ha hb
        rcases Nat.lt_trichotomy a b with l | l | l
        · exact absurd ⟨a, b, l, by omega, e⟩ q
        · exact l
        · exact absurd ⟨b, a, l, by omega, e.symm⟩ q
      have := len_le_of_subset nd fun y hy => by
        obtain ⟨k, _, e⟩ := List.mem_map.mp hy
        rw [← e]
        exact it_mem hf hx k
      simp at this
      omega
  obtain ⟨i, j, hij, hj, e⟩ := ex
  refine ⟨j - i, by omega, by omega, ?_⟩
  have e1 : it f (j - i) (it f i x) = it f i x := by rw [← it_add, show j - i + i = j by omega]; exact e.symm
  have e2 : it f m x = it f (m - i) (it f i x) := by rw [← it_add, show m - i + i = m by omega]
  rw [e2, ← it_add, Nat.add_comm, it_add, e1]
theorem it_period {f : Nat → Nat} {c p : Nat} (hp : it f p c = c) : ∀ N, it f (N * p) c = c
  | 0 => by rw [Nat.zero_mul]; rfl
  | N + 1 => by rw [Nat.succ_mul, it_add, hp, it_period hp N]
/-- the places that one comes to from c -/
def orbit (f : Nat → Nat) (c k : Nat) : List Nat := (List.range k).map fun i => it f i c
theorem orbit_succ (f : Nat → Nat) (c k : Nat) : orbit f c (k + 1) = orbit f c k ++ [it f k c] := by
  unfold orbit
  rw [List.range_succ, List.map_append]
  rfl
theorem orbit_length (f : Nat → Nat) (c k : Nat) : (orbit f c k).length = k := by simp [orbit]
theorem mem_orbit {f : Nat → Nat} {c k y : Nat} : y ∈ orbit f c k ↔ ∃ i, i < k ∧ it f i c = y := by
  unfold orbit
  rw [List.mem_map]
  constructor
  · rintro ⟨i, h, e⟩; exact ⟨i, List.mem_range.mp h, e⟩
  · rintro ⟨i, h, e⟩; exact ⟨i, List.mem_range.mpr h, e⟩
theorem orbit_inj {f : Nat → Nat} {c k : Nat} (nd : (orbit f c k).Nodup) {i j : Nat} (hi : i < k) (hj : j < k) (e : it f i c = it f j c) : i = j := by
  have h1 : (orbit f c k)[i]'(by rw [orbit_length]; exact hi) = it f i c := by simp [orbit]
  have h2 : (orbit f c k)[j]'(by rw [orbit_length]; exact hj) = it f j c := by simp [orbit]
  exact (List.getElem_inj nd).mp (by rw [h1, h2]; exact e)
/-- the first place that comes again is the one begun with, if that lies on a ring -/
theorem ring_close {f : Nat → Nat} {c p k : Nat} (hp : 0 < p) (per : it f p c = c) (nd : (orbit f c k).Nodup) (h : it f k c ∈ orbit f c k) : it f k c = c := by
  obtain ⟨j, hj, e⟩ := mem_orbit.mp h
  by_cases j0 : j = 0
  · subst j0; exact e.symm
  · exfalso
    -- go on to a multiple of p
    have hN : j ≤ j * p := Nat.le_mul_of_pos_right j hp
    have e1 : it f (j * p - j + k) c = it f (j * p - j + j) c := by rw [it_add, it_add, e]
    rw [show j * p - j + j = j * p by omega, it_period per j] at e1
    have e2 : it f (k - j) c = c := by
      have : it f (k - j) (it f (j * p) c) = it f (j * p - j + k) c := by rw [← it_add]; congr 1; omega
      rw [it_period per j] at this
      rw [this]; exact e1
    have := orbit_inj nd (i := k - j) (j := 0) (by omega) (by omega) (by rw [e2]; rfl)
    omega
theorem ring_into {f : Nat → Nat} {c k : Nat} (hk : 0 < k) (cl : it f k c = c) {x : Nat} (h : x ∈ orbit f c k) : f x ∈ orbit f c k := by
  obtain ⟨i, hi, e⟩ := mem_orbit.mp h
  rw [← e]
  by_cases l : i + 1 < k
  · exact mem_orbit.mpr ⟨i + 1, l, rfl⟩
  · have : i + 1 = k := by omega
    refine mem_orbit.mpr ⟨0, hk, ?_⟩
    show c = it f (i + 1) c
    rw [this, cl]
theorem ring_inj {f : Nat → Nat} {c k : Nat} (nd : (orbit f c k).Nodup) (cl : it f k c = c) {x y : Nat} (hx : x ∈ orbit f c k) (hy : y ∈ orbit f c k) (e : f x = f y) : x = y := by
  obtain ⟨i, hi, ei⟩ := mem_orbit.mp hx
  obtain ⟨j, hj, ej⟩ := mem_orbit.mp hy
  have e' : it f (i + 1) c = it f (j + 1) c := by
    show f (it f i c) = f (it f j c)
    rw [ei, ej]; exact e
  have : i = j := by
    by_cases li : i + 1 < k
    · by_cases lj : j + 1 < k
      · have := orbit_inj nd li lj e'
        omega
      · have hk : j + 1 = k := by omega
        rw [hk, cl] at e'
        have := orbit_inj nd (i := i + 1) (j := 0) li (by omega) e'
        omega
    · have hk : i + 1 = k := by omega
      by_cases lj : j + 1 < k
      · rw [hk, cl] at e'
        have := orbit_inj nd (i := j + 1) (j := 0) lj (by omega) e'.symm
        omega
      · omega
  subst this
  rw [← ei, ← ej]

/-- the best of those still there -/
def look (r : Nat → Nat → Nat) (ts : List Nat) (h : Nat) : Nat := ts.foldl (fun b x => if r h x < r h b then x else b) h
theorem look_fold (r : Nat → Nat → Nat) (h : Nat) : ∀ (ts : List Nat) (b : Nat), (ts.foldl (fun b x => if r h x < r h b then x else b) b = b ∨ ts.foldl (fun b x => if r h x < r h b then x else b) b ∈ ts) ∧
    r h (ts.foldl (fun b x => if r h x < r h b then x else b) b) ≤ r h b ∧ ∀ x ∈ ts, r h (ts.foldl (fun b x => if r h x < r h b then x else b) b) ≤ r h x
  | [], b => ⟨.inl rfl, Nat.le_refl _, fun x hx => by cases hx⟩
  | a :: ts, b => by
    rw [List.foldl_cons]
    by_cases l : r h a < r h b
    · rw [if_pos l]
      obtain ⟨i1, i2, i3⟩ := look_fold r h ts a
      refine ⟨.inr ?_, by omega, fun x hx => ?_⟩
      · rcases i1 with e | e
        · rw [e]; exact List.mem_cons_self
        · exact List.mem_cons_of_mem _ e
      · rcases List.mem_cons.mp hx with e | e
        · rw [e]; exact i2
        · exact i3 x e
    · rw [if_neg l]
      obtain ⟨i1, i2, i3⟩ := look_fold r h ts b
      refine ⟨?_, i2, fun x hx => ?_⟩
      · rcases i1 with e | e
        · exact .inl e
        · exact .inr (List.mem_cons_of_mem _ e)
      · rcases List.mem_cons.mp hx with e | e
        · rw [e]; omega
        · exact i3 x e
theorem look_mem {r : Nat → Nat → Nat} {ts : List Nat} {h : Nat} (hh : h ∈ ts) : look r ts h ∈ ts := by
  rcases (look_fold r h ts h).1 with e | e
  · unfold look; rw [e]; exact hh
  · exact e
theorem look_best {r : Nat → Nat → Nat} {ts : List Nat} {h x : Nat} (hx : x ∈ ts) : r h (look r ts h) ≤ r h x := (look_fold r h ts h).2.2 x hx

/-- what has come of the rounds so far: G have left -/
structure PCert (n : Nat) (r : Nat → Nat → Nat) (G : Nat → Prop) (d t : Nat → Nat) (τ : Nat) : Prop where
  lt : ∀ i, G i → i < n
  into : ∀ i, G i → G (d i)
  inj : ∀ i j, G i → G j → d i = d j → i = j
  time : ∀ i, G i → t (d i) = t i
  old : ∀ i, G i → t i < τ
  best : ∀ i x, G i → x < n → (¬ G x ∨ t i ≤ t x) → r i (d i) ≤ r i x
theorem PCert.start {n : Nat} {r : Nat → Nat → Nat} {d t : Nat → Nat} {G : Nat → Prop} (h : ∀ i, ¬ G i) : PCert n r G d t 0 :=
  ⟨fun i g => absurd g (h i), fun i g => absurd g (h i), fun i _ g => absurd g (h i), fun i g => absurd g (h i), fun i g => absurd g (h i), fun i _ g => absurd g (h i)⟩
/-- those of R leave, each to the house of the one they look to -/
theorem PCert.step {n : Nat} {r : Nat → Nat → Nat} {G G' : Nat → Prop} {d d' t : Nat → Nat} {τ : Nat} (C : PCert n r G d t τ) (R : Nat → Prop) (hG : ∀ i, G' i ↔ G i ∨ R i) (hR : ∀ i, R i → i < n ∧ ¬ G i) (old : ∀ i, G i → d' i = d i)
    (into : ∀ i, R i → R (d' i)) (inj : ∀ i j, R i → R j → d' i = d' j → i = j) (best : ∀ i x, R i → x < n → ¬ G x → r i (d' i) ≤ r i x) : ∃ t', PCert n r G' d' t' (τ + 1) := by
  have dec : ∀ i, Decidable (R i) := fun i => Classical.propDecidable _
  have hn : ∀ i, G i → ¬ R i := fun i g q => (hR i q).2 g
  have t1 : ∀ i, R i → (if R i then τ else t i) = τ := fun i q => if_pos q
  have t2 : ∀ i, G i → (if R i then τ else t i) = t i := fun i g => if_neg (hn i g)
  refine ⟨fun i => if R i then τ else t i, fun i g => ?_, fun i g => ?_, fun i j gi gj e => ?_, fun i g => ?_, fun i g => ?_, fun i x g hx q => ?_⟩
  · rcases (hG i).mp g with a | a
    · exact C.lt i a
    · exact (hR i a).1
  · rcases (hG i).mp g with a | a
    · rw [old i a]; exact (hG _).mpr (.inl (C.into i a))
    · exact (hG _).mpr (.inr (into i a))
  · rcases (hG i).mp gi with a | a
    · rcases (hG j).mp gj with b | b
      · rw [old i a, old j b] at e; exact C.inj i j a b e
      · exfalso
        rw [old i a] at e
        exact hn _ (C.into i a) (by rw [e]; exact into j b)
    · rcases (hG j).mp gj with b | b
      · exfalso
        rw [old j b] at e
        exact hn _ (C.into j b) (by rw [← e]; exact into i a)
      · exact inj i j a b e
  · rcases (hG i).mp g with a | a
    · rw [old i a]
      try dsimp only
      rw [t2 i a, t2 _ (C.into i a)]
      exact C.time i a
    · try dsimp only
      rw [t1 i a, t1 _ (into i a)]
  · rcases (hG i).mp g with a | a
    · try dsimp only
      rw [t2 i a]
      have := C.old i a
      omega
    · try dsimp only
      rw [t1 i a]
      omega
  · try dsimp only at q
    rcases (hG i).mp g with a | a
    · rw [old i a]
      rw [t2 i a] at q
      refine C.best i x a hx ?_
      by_cases gx : G x
      · right
        rcases q with q | q
        · exact absurd ((hG x).mpr (.inl gx)) q
        · rw [t2 x gx] at q; exact q
      · exact .inl gx
    · rw [t1 i a] at q
      refine best i x a hx fun gx => ?_
      rcases q with q | q
      · exact q ((hG x).mpr (.inl gx))
      · rw [t2 x gx] at q
        have := C.old x gx
        omega
theorem PCert.cert {n : Nat} {r : Nat → Nat → Nat} {G : Nat → Prop} {d t : Nat → Nat} {τ : Nat} (C : PCert n r G d t τ) (all : ∀ i, i < n → G i) : Cert n r d t :=
  ⟨fun i hi => C.lt _ (C.into i (all i hi)), fun i j hi hj e => C.inj i j (all i hi) (all j hj) e, fun i hi => C.time i (all i hi), fun i x hi hx q => C.best i x (all i hi) hx (.inr q)⟩

/-! the wishes' own numbers -/
/-- how far the house x is down for holder i -/
def rk (rs : List (List Int)) (i x : Nat) : Nat := spot (rs.getD i []) (i : Int) (x : Int)
theorem idxOf_inj {r : List Int} {x y : Int} (hx : x ∈ r) (e : r.idxOf x = r.idxOf y) : x = y := by
  have h1 := List.idxOf_lt_length_of_mem hx
  have hy : y ∈ r := by
    by_cases q : y ∈ r
    · exact q
    · rw [idxOf_none q] at e; omega
  have e1 : r[r.idxOf x]'h1 = x := List.getElem_idxOf h1
  have h2 := List.idxOf_lt_length_of_mem hy
  have e2 : r[r.idxOf y]'h2 = y := List.getElem_idxOf h2
  rw [← e1, ← e2]
  congr 1
theorem spot_strict {r : List Int} {h x y : Int} (hl : r.length < 1000) (e : spot r h x = spot r h y) (lt : spot r h x < 1000) : x = y := by
  have hle := idxOf_le r h
  unfold spot at e lt
  by_cases hx : x = h
  · rw [if_pos hx] at e lt
    by_cases hy : y = h
    · rw [hx, hy]
    · rw [if_neg hy] at e
      by_cases q : y ∈ r ∧ r.idxOf y < r.idxOf h
      · rw [if_pos q] at e; omega
      · rw [if_neg q] at e; omega
  · rw [if_neg hx] at e lt
    by_cases p : x ∈ r ∧ r.idxOf x < r.idxOf h
    · rw [if_pos p] at e lt
      by_cases hy : y = h
      · rw [if_pos hy] at e; omega
      · rw [if_neg hy] at e
        by_cases q : y ∈ r ∧ r.idxOf y < r.idxOf h
        · rw [if_pos q] at e
          exact idxOf_inj p.1 e
        · rw [if_neg q] at e; omega
    · rw [if_neg p] at lt
      omega
theorem spot_own (r : List Int) (h : Int) : spot r h h = r.idxOf h := by unfold spot; rw [if_pos rfl]
theorem pref_of {rs : List (List Int)} (hl : ∀ r ∈ rs, r.length < 1000) : Pref rs.length (rk rs) := by
  have hr : ∀ i, i < rs.length → (rs.getD i []).length < 1000 := fun i hi => by
    have e : rs.getD i [] = rs[i] := by simp [hi]
    rw [e]; exact hl _ (List.getElem_mem hi)
  refine ⟨fun i x y hi hx hy e lt => ?_, fun i hi => ?_⟩
  · have := spot_strict (hr i hi) e lt
    omega
  · unfold rk
    rw [spot_own]
    exact Nat.lt_of_le_of_lt (idxOf_le _ _) (hr i hi)
/-- ds is the dealing that comes of the rounds -/
def DealOf (rs : List (List Int)) (ds : List Nat) : Prop := ds.length = rs.length ∧ ∃ t, Cert rs.length (rk rs) (fun i => ds.getD i 0) t
theorem DealOf.unique {rs : List (List Int)} {ds es : List Nat} (hl : ∀ r ∈ rs, r.length < 1000) (h1 : DealOf rs ds) (h2 : DealOf rs es) : ds = es := by
  obtain ⟨l1, t1, C1⟩ := h1
  obtain ⟨l2, t2, C2⟩ := h2
  refine List.ext_getElem (by omega) fun i p q => ?_
  have := C1.unique (pref_of hl) C2 (i := i) (by omega)
  simp only [List.getD_eq_getElem?_getD, List.getElem?_eq_getElem p, List.getElem?_eq_getElem q, Option.getD_some] at this
  exact this.symm
/-- writing f g at each place g of gs -/
def writes (f : Nat → Nat) (gs ds : List Nat) : List Nat := gs.foldl (fun l g => l.set g (f g)) ds
theorem writes_length (f : Nat → Nat) : ∀ (gs ds : List Nat), (writes f gs ds).length = ds.length
  | [], _ => rfl
  | g :: gs, ds => by
    show (writes f gs (ds.set g (f g))).length = _
    rw [writes_length f gs]; simp
theorem writes_snoc (f : Nat → Nat) (gs ds : List Nat) (g : Nat) : writes f (gs ++ [g]) ds = (writes f gs ds).set g (f g) := by
  unfold writes
  rw [List.foldl_append]
  rfl
theorem writes_get (f : Nat → Nat) : ∀ (gs ds : List Nat) (i : Nat), i < ds.length → (writes f gs ds).getD i 0 = if i ∈ gs then f i else ds.getD i 0
  | [], ds, i, _ => by simp [writes]
  | g :: gs, ds, i, hi => by
    show (writes f gs (ds.set g (f g))).getD i 0 = _
    rw [writes_get f gs (ds.set g (f g)) i (by simpa using hi)]
    by_cases m : i ∈ gs
    · rw [if_pos m, if_pos (List.mem_cons_of_mem _ m)]
    · rw [if_neg m]
      by_cases e : i = g
      · subst e
        rw [if_pos List.mem_cons_self]
        simp [hi]
      · rw [if_neg (by intro q; rcases List.mem_cons.mp q with z | z; exact e z; exact m z)]
        simp [List.getElem?_set_ne (Ne.symm e)]
/-- those who have left, where ts are still there -/
def Left (n : Nat) (ts : List Nat) (i : Nat) : Prop := i < n ∧ i ∉ ts
/-- a ring leaves -/
theorem ring_step {n : Nat} {r : Nat → Nat → Nat} {ts ts' ds gs : List Nat} {t : Nat → Nat} {τ : Nat} {f : Nat → Nat} (C : PCert n r (Left n ts) (fun i => ds.getD i 0) t τ) (hlen : ds.length = n) (hts : ∀ x ∈ ts, x < n)
    (hgs : ∀ x ∈ gs, x ∈ ts) (into : ∀ x ∈ gs, f x ∈ gs) (inj : ∀ x ∈ gs, ∀ y ∈ gs, f x = f y → x = y) (best : ∀ x ∈ gs, ∀ y ∈ ts, r x (f x) ≤ r x y) (ht' : ∀ x, x ∈ ts' ↔ (x ∈ ts ∧ x ∉ gs)) :
    ∃ t', PCert n r (Left n ts') (fun i => (writes f gs ds).getD i 0) t' (τ + 1) := by
  have w1 : ∀ i, i ∈ gs → (writes f gs ds).getD i 0 = f i := fun i hi => by
    rw [writes_get f gs ds i (by rw [hlen]; exact hts i (hgs i hi)), if_pos hi]
  refine C.step (fun i => i ∈ gs) (fun i => ?_) (fun i hi => ⟨hts i (hgs i hi), fun g => g.2 (hgs i hi)⟩) (fun i g => ?_) (fun i hi => ?_) (fun i j hi hj e => ?_) (fun i x hi hx hg => ?_)
  · unfold Left
    rw [ht']
    constructor
    · rintro ⟨h1, h2⟩
      by_cases m : i ∈ gs
      · exact .inr m
      · exact .inl ⟨h1, fun z => h2 ⟨z, m⟩⟩
    · rintro (⟨h1, h2⟩ | h)
      · exact ⟨h1, fun z => h2 z.1⟩
      · exact ⟨hts i (hgs i h), fun z => z.2 h⟩
  · try dsimp only
    rw [writes_get f gs ds i (by rw [hlen]; exact g.1), if_neg (fun m => g.2 (hgs i m))]
  · try dsimp only
    rw [w1 i hi]; exact into i hi
  · try dsimp only at e
    rw [w1 i hi, w1 j hj] at e
    exact inj i hi j hj e
  · try dsimp only
    rw [w1 i hi]
    refine best i hi x ?_
    by_cases m : x ∈ ts
    · exact m
    · exact absurd ⟨hx, m⟩ hg
end KM

namespace KM
/-! What the rounds tell. -/
/-- one round's rings, where ts are there -/
structure RoundOk (r : Nat → Nat → Nat) (ts : List Nat) (g : List (List Nat)) : Prop where
  some : g ≠ []
  full : ∀ a ∈ g, a ≠ []
  nd : g.flatten.Nodup
  sub : ∀ x ∈ g.flatten, x ∈ ts
  least : ∀ a ∈ g, ∀ x ∈ a, a.headD 0 ≤ x
  rise : (g.map fun a => a.headD 0).Pairwise (· < ·)
  next : ∀ a ∈ g, ∀ k (h : k < a.length), look r ts a[k] = a.getD ((k + 1) % a.length) 0
  all : ∀ x ∈ ts, it (look r ts) ts.length x ∈ g.flatten
/-- all rounds -/
def AllRounds (r : Nat → Nat → Nat) : List Nat → List (List (List Nat)) → Prop
  | ts, [] => ts = []
  | ts, g :: gs => RoundOk r ts g ∧ AllRounds r (ts.filter fun x => decide (x ∉ g.flatten)) gs
theorem next_lt {k m : Nat} (h : k < m) : (k + 1) % m < m := Nat.mod_lt _ (by omega)
theorem next_inj {k l m : Nat} (hk : k < m) (hl : l < m) (e : (k + 1) % m = (l + 1) % m) : k = l := by
  by_cases a : k + 1 < m
  · rw [Nat.mod_eq_of_lt a] at e
    by_cases b : l + 1 < m
    · rw [Nat.mod_eq_of_lt b] at e; omega
    · have : l + 1 = m := by omega
      rw [this, Nat.mod_self] at e; omega
  · have ha : k + 1 = m := by omega
    rw [ha, Nat.mod_self] at e
    by_cases b : l + 1 < m
    · rw [Nat.mod_eq_of_lt b] at e; omega
    · omega
theorem getD_mem {a : List Nat} {k : Nat} (h : k < a.length) : a.getD k 0 ∈ a := by
  have e : a.getD k 0 = a[k] := by simp [h]
  rw [e]; exact List.getElem_mem h
theorem flatten_same {g : List (List Nat)} (nd : g.flatten.Nodup) {a b : List Nat} (ha : a ∈ g) (hb : b ∈ g) {x : Nat} (h1 : x ∈ a) (h2 : x ∈ b) : a = b := by
  induction g with
  | nil => cases ha
  | cons c g ih =>
    rw [List.flatten_cons, List.nodup_append] at nd
    obtain ⟨n1, n2, n3⟩ := nd
    rcases List.mem_cons.mp ha with ea | ea
    · rcases List.mem_cons.mp hb with eb | eb
      · rw [ea, eb]
      · exact absurd rfl (n3 x (by rw [← ea]; exact h1) x (List.mem_flatten.mpr ⟨b, eb, h2⟩))
    · rcases List.mem_cons.mp hb with eb | eb
      · exact absurd rfl (n3 x (by rw [← eb]; exact h2) x (List.mem_flatten.mpr ⟨a, ea, h1⟩))
      · exact ih n2 ea eb
theorem nodup_of_flatten {g : List (List Nat)} (nd : g.flatten.Nodup) {a : List Nat} (ha : a ∈ g) : a.Nodup := by
  induction g with
  | nil => cases ha
  | cons c g ih =>
    rw [List.flatten_cons, List.nodup_append] at nd
    obtain ⟨n1, n2, n3⟩ := nd
    rcases List.mem_cons.mp ha with ea | ea
    · rw [ea]; exact n1
    · exact ih n2 ea
section
variable {r : Nat → Nat → Nat} {ts : List Nat} {g : List (List Nat)}
theorem RoundOk.at (O : RoundOk r ts g) {x : Nat} (h : x ∈ g.flatten) : ∃ a k, ∃ hk : k < a.length, a ∈ g ∧ a[k] = x ∧ look r ts x = a.getD ((k + 1) % a.length) 0 := by
  obtain ⟨a, ha, hx⟩ := List.mem_flatten.mp h
  obtain ⟨k, hk, e⟩ := List.getElem_of_mem hx
  exact ⟨a, k, hk, ha, e, by rw [← e]; exact O.next a ha k hk⟩
theorem RoundOk.into (O : RoundOk r ts g) {x : Nat} (h : x ∈ g.flatten) : look r ts x ∈ g.flatten := by
  obtain ⟨a, k, hk, ha, e, n⟩ := O.at h
  rw [n]
  exact List.mem_flatten.mpr ⟨a, ha, getD_mem (next_lt hk)⟩
theorem RoundOk.inj (O : RoundOk r ts g) {x y : Nat} (hx : x ∈ g.flatten) (hy : y ∈ g.flatten) (e : look r ts x = look r ts y) : x = y := by
  obtain ⟨a, k, hk, ha, ea, na⟩ := O.at hx
  obtain ⟨b, l, hl, hb, eb, nb⟩ := O.at hy
  rw [na, nb] at e
  have hab : a = b := flatten_same O.nd ha hb (getD_mem (next_lt hk)) (by rw [e]; exact getD_mem (next_lt hl))
  subst hab
  have nda := nodup_of_flatten O.nd ha
  have h1 := next_lt hk
  have h2 := next_lt hl
  have e1 : a.getD ((k + 1) % a.length) 0 = a[(k + 1) % a.length] := by simp [h1]
  have e2 : a.getD ((l + 1) % a.length) 0 = a[(l + 1) % a.length] := by simp [h2]
  rw [e1, e2] at e
  have := next_inj hk hl ((List.getElem_inj nda).mp e)
  subst this
  rw [← ea, ← eb]
end
/-- all rounds deal -/
theorem rounds_deal {n : Nat} {r : Nat → Nat → Nat} : ∀ (gs : List (List (List Nat))) (ts ds : List Nat) (t : Nat → Nat) (τ : Nat), AllRounds r ts gs → PCert n r (Left n ts) (fun i => ds.getD i 0) t τ → ds.length = n → (∀ x ∈ ts, x < n) →
    ∃ (ds' : List Nat) (t' : Nat → Nat), ds'.length = n ∧ Cert n r (fun i => ds'.getD i 0) t' ∧ (∀ x, x < n → x ∉ ts → ds'.getD x 0 = ds.getD x 0) ∧ ∀ g ∈ gs, ∀ a ∈ g, ∀ k (h : k < a.length), ds'.getD a[k] 0 = a.getD ((k + 1) % a.length) 0
  | [], ts, ds, t, τ, A, C, hl, ht => by
    have e : ts = [] := A
    subst e
    exact ⟨ds, t, hl, C.cert fun i hi => ⟨hi, by simp⟩, fun x _ _ => rfl, fun g hg => by cases hg⟩
  | g :: gs, ts, ds, t, τ, A, C, hl, ht => by
    obtain ⟨O, A'⟩ := A
    obtain ⟨t1, C1⟩ := ring_step (ts' := ts.filter fun x => decide (x ∉ g.flatten)) (gs := g.flatten) (f := look r ts) C hl ht O.sub (fun x hx => O.into hx) (fun x hx y hy e => O.inj hx hy e) (fun x _ y hy => look_best hy) (fun x => by rw [List.mem_filter]; simp)
    obtain ⟨ds', t', h1, h2, h3, h4⟩ := rounds_deal gs _ _ t1 (τ + 1) A' C1 (by rw [writes_length]; exact hl) fun x hx => ht x (List.mem_filter.mp hx).1
    refine ⟨ds', t', h1, h2, fun x hx hn => ?_, fun g' hg' a ha k hk => ?_⟩
    · rw [h3 x hx fun m => hn (List.mem_filter.mp m).1, writes_get _ _ _ _ (by rw [hl]; exact hx), if_neg fun m => hn (O.sub x m)]
    · rcases List.mem_cons.mp hg' with e | e
      · subst e
        have hm : a[k] ∈ g'.flatten := List.mem_flatten.mpr ⟨a, ha, List.getElem_mem hk⟩
        have hlt : a[k] < n := ht _ (O.sub _ hm)
        rw [h3 _ hlt fun m => by simpa [hm] using (List.mem_filter.mp m).2, writes_get _ _ _ _ (by rw [hl]; exact hlt), if_pos hm]
        exact O.next a ha k hk
      · exact h4 g' e a ha k hk
theorem rounds_cover {r : Nat → Nat → Nat} : ∀ (gs : List (List (List Nat))) (ts : List Nat), AllRounds r ts gs → ∀ x ∈ ts, ∃ g ∈ gs, ∃ a ∈ g, x ∈ a
  | [], ts, A, x, hx => by
    have e : ts = [] := A
    subst e
    cases hx
  | g :: gs, ts, A, x, hx => by
    obtain ⟨O, A'⟩ := A
    by_cases m : x ∈ g.flatten
    · obtain ⟨a, ha, h⟩ := List.mem_flatten.mp m
      exact ⟨g, List.mem_cons_self, a, ha, h⟩
    · obtain ⟨g', hg', a, ha, h⟩ := rounds_cover gs _ A' x (List.mem_filter.mpr ⟨hx, by simpa using m⟩)
      exact ⟨g', List.mem_cons_of_mem _ hg', a, ha, h⟩
theorem rounds_mem {r : Nat → Nat → Nat} : ∀ (gs : List (List (List Nat))) (ts : List Nat), AllRounds r ts gs → ∀ g ∈ gs, g ≠ [] ∧ ∀ a ∈ g, a ≠ [] ∧ ∀ x ∈ a, x ∈ ts
  | [], ts, A, g, hg => by cases hg
  | g0 :: gs, ts, A, g, hg => by
    obtain ⟨O, A'⟩ := A
    rcases List.mem_cons.mp hg with e | e
    · subst e
      exact ⟨O.some, fun a ha => ⟨O.full a ha, fun x hx => O.sub x (List.mem_flatten.mpr ⟨a, ha, hx⟩)⟩⟩
    · obtain ⟨h1, h2⟩ := rounds_mem gs _ A' g e
      exact ⟨h1, fun a ha => ⟨(h2 a ha).1, fun x hx => (List.mem_filter.mp ((h2 a ha).2 x hx)).1⟩⟩
theorem rounds_nd {r : Nat → Nat → Nat} : ∀ (gs : List (List (List Nat))) (ts : List Nat), AllRounds r ts gs → ∀ g ∈ gs, ∀ a ∈ g, a.Nodup
  | [], ts, A, g, hg => by cases hg
  | g0 :: gs, ts, A, g, hg => by
    obtain ⟨O, A'⟩ := A
    rcases List.mem_cons.mp hg with e | e
    · subst e
      exact fun a ha => nodup_of_flatten O.nd ha
    · exact rounds_nd gs _ A' g e
theorem filter_split {ts : List Nat} {R : List Nat} (nd : ts.Nodup) (ndR : R.Nodup) (sub : ∀ x ∈ R, x ∈ ts) : (ts.filter fun x => decide (x ∉ R)).length + R.length = ts.length := by
  have h1 : (ts.filter fun x => decide (x ∈ R)).length = R.length := by
    refine Nat.le_antisymm ?_ ?_
    · exact len_le_of_subset (List.Nodup.sublist List.filter_sublist nd) fun x hx => by simpa using (List.mem_filter.mp hx).2
    · exact len_le_of_subset ndR fun x hx => List.mem_filter.mpr ⟨sub x hx, by simpa using hx⟩
  have h2 : ∀ l : List Nat, (l.filter fun x => decide (x ∉ R)).length + (l.filter fun x => decide (x ∈ R)).length = l.length := by
    intro l
    induction l with
    | nil => rfl
    | cons a l ih =>
      by_cases m : a ∈ R
      · rw [List.filter_cons_of_neg (by simpa using m), List.filter_cons_of_pos (by simpa using m)]
        simp only [List.length_cons]; omega
      · rw [List.filter_cons_of_pos (by simpa using m), List.filter_cons_of_neg (by simpa using m)]
        simp only [List.length_cons]; omega
  have := h2 ts
  omega
theorem flatten_len (g : List (List Nat)) : g.flatten.length = (g.map List.length).sum := by
  induction g with
  | nil => rfl
  | cons a g ih => rw [List.flatten_cons, List.length_append, ih]; simp
/-- how many are told of -/
def told (gs : List (List (List Nat))) : Nat := (gs.map fun g => (g.map List.length).sum).sum
theorem rounds_count {r : Nat → Nat → Nat} : ∀ (gs : List (List (List Nat))) (ts : List Nat), AllRounds r ts gs → ts.Nodup → told gs = ts.length
  | [], ts, A, _ => by
    have e : ts = [] := A
    subst e
    rfl
  | g :: gs, ts, A, nd => by
    obtain ⟨O, A'⟩ := A
    have h1 := rounds_count gs _ A' (List.Nodup.sublist List.filter_sublist nd)
    have h2 := filter_split nd O.nd O.sub
    have h3 := flatten_len g
    unfold told at h1 ⊢
    rw [List.map_cons, List.sum_cons]
    omega
/-- the dealing of the rounds -/
theorem DealOf.of_rounds {rs : List (List Int)} {gs : List (List (List Nat))} (A : AllRounds (rk rs) (List.range rs.length) gs) :
    ∃ ds, DealOf rs ds ∧ ∀ g ∈ gs, ∀ a ∈ g, ∀ k (h : k < a.length), ds.getD a[k] 0 = a.getD ((k + 1) % a.length) 0 := by
  obtain ⟨ds, t, h1, h2, _, h4⟩ := rounds_deal gs (List.range rs.length) (List.replicate rs.length 0) (fun _ => 0) 0 A (PCert.start fun i g => g.2 (List.mem_range.mpr g.1)) (by simp) fun x hx => List.mem_range.mp hx
  exact ⟨ds, ⟨h1, t, h2⟩, h4⟩
theorem DealOf.nodup {rs : List (List Int)} {ds : List Nat} (D : DealOf rs ds) : ds.Nodup ∧ ∀ x ∈ ds, x < rs.length := by
  obtain ⟨l, t, C⟩ := D
  have e : ds = (List.range ds.length).map fun i => ds.getD i 0 := List.ext_getElem (by simp) fun i h1 h2 => by simp [h1]
  refine ⟨?_, fun x hx => ?_⟩
  · rw [e]
    refine map_nodup List.nodup_range fun i hi j hj q => C.inj i j ?_ ?_ q
    · have := List.mem_range.mp hi; omega
    · have := List.mem_range.mp hj; omega
  · obtain ⟨i, hi, q⟩ := List.getElem_of_mem hx
    have := C.rng i (by omega)
    have q2 : ds.getD i 0 = ds[i] := by simp [hi]
    rw [← q, ← q2]
    exact this
/-- no group does better: in lists -/
theorem core_list {rs : List (List Int)} {ds gs es : List Nat} (hl : ∀ r ∈ rs, r.length < 1000) (D : DealOf rs ds) (gn : gs.Nodup) (gl : ∀ x ∈ gs, x < rs.length) (pm : es.Perm gs)
    (noless : ∀ j (h : j < gs.length), ¬ rk rs gs[j] (ds.getD gs[j] 0) < rk rs gs[j] (es.getD j 0)) : ∀ j (h : j < gs.length), ¬ rk rs gs[j] (es.getD j 0) < rk rs gs[j] (ds.getD gs[j] 0) := by
  obtain ⟨_, t, C⟩ := D
  have el := pm.length_eq
  have en : es.Nodup := pm.nodup_iff.mpr gn
  have ix : ∀ j (h : j < gs.length), gs.idxOf gs[j] = j := fun j h => gn.idxOf_getElem j h
  have key := C.core (pref_of hl) (fun x => x ∈ gs) (fun x => es.getD (gs.idxOf x) 0) gl
    (fun g hg => pm.mem_iff.mp (getD_mem (by rw [el]; exact List.idxOf_lt_length_of_mem hg)))
    (fun g h hg hh e => by
      have h1 : gs.idxOf g < es.length := by rw [el]; exact List.idxOf_lt_length_of_mem hg
      have h2 : gs.idxOf h < es.length := by rw [el]; exact List.idxOf_lt_length_of_mem hh
      have e1 : es.getD (gs.idxOf g) 0 = es[gs.idxOf g] := by simp [h1]
      have e2 : es.getD (gs.idxOf h) 0 = es[gs.idxOf h] := by simp [h2]
      have e' : es[gs.idxOf g] = es[gs.idxOf h] := by rw [← e1, ← e2]; exact e
      have e3 := (List.getElem_inj en).mp e'
      have q1 : gs[gs.idxOf g]'(List.idxOf_lt_length_of_mem hg) = g := List.getElem_idxOf _
      have q2 : gs[gs.idxOf h]'(List.idxOf_lt_length_of_mem hh) = h := List.getElem_idxOf _
      rw [← q1, ← q2]
      congr 1)
    (fun g hg => by
      obtain ⟨j, hj, e⟩ := List.getElem_of_mem hg
      have := noless j hj
      rw [← e, ix j hj]
      omega)
  intro j hj
  have := key gs[j] (List.getElem_mem hj)
  rw [ix j hj] at this
  omega
end KM

namespace KM
/-! The holders numbered anew. -/
theorem idxOf_map {f : Int → Int} {x : Int} : ∀ {l : List Int}, (∀ y ∈ l, f y = f x → y = x) → (l.map f).idxOf (f x) = l.idxOf x
  | [], _ => rfl
  | a :: l, h => by
    rw [List.map_cons, List.idxOf_cons, List.idxOf_cons]
    by_cases e : a = x
    · subst e; simp
    · have e1 : (a == x) = false := by simpa using e
      have e2 : (f a == f x) = false := by
        have : ¬ f a = f x := fun z => e (h a List.mem_cons_self z)
        simpa using this
      rw [e1, e2, idxOf_map fun y hy => h y (List.mem_cons_of_mem _ hy)]
theorem mem_map_inj {f : Int → Int} {x : Int} {l : List Int} (h : ∀ y ∈ l, f y = f x → y = x) : f x ∈ l.map f ↔ x ∈ l := by
  rw [List.mem_map]
  constructor
  · rintro ⟨y, hy, e⟩
    rw [← h y hy e]; exact hy
  · intro m; exact ⟨x, m, rfl⟩
theorem spot_map {f : Int → Int} {l : List Int} {h x : Int} (hh : ∀ y ∈ l, f y = f h → y = h) (hx : ∀ y ∈ l, f y = f x → y = x) (hxh : f x = f h → x = h) : spot (l.map f) (f h) (f x) = spot l h x := by
  unfold spot
  rw [idxOf_map hh, idxOf_map hx]
  by_cases e : x = h
  · subst e
    rw [if_pos rfl, if_pos rfl]
  · rw [if_neg e, if_neg (fun z => e (hxh z))]
    by_cases q : x ∈ l ∧ l.idxOf x < l.idxOf h
    · rw [if_pos q, if_pos ⟨(mem_map_inj hx).mpr q.1, q.2⟩]
    · rw [if_neg q, if_neg (fun z => q ⟨(mem_map_inj hx).mp z.1, z.2⟩)]
section
variable {n : Nat} {ps : List Nat} (pm : ps.Perm (List.range n))
include pm
theorem ps_len : ps.length = n := by have := pm.length_eq; simpa using this
theorem ps_nd : ps.Nodup := pm.nodup_iff.mpr List.nodup_range
theorem ps_lt {i : Nat} (h : i < n) : ps.getD i 0 < n := by
  have hl := ps_len pm
  have := pm.mem_iff.mp (getD_mem (a := ps) (k := i) (by omega))
  exact List.mem_range.mp this
theorem ps_inj {i j : Nat} (hi : i < n) (hj : j < n) (e : ps.getD i 0 = ps.getD j 0) : i = j := by
  have hl := ps_len pm
  have h1 : i < ps.length := by omega
  have h2 : j < ps.length := by omega
  have e1 : ps.getD i 0 = ps[i] := by simp [h1]
  have e2 : ps.getD j 0 = ps[j] := by simp [h2]
  rw [e1, e2] at e
  exact (List.getElem_inj (ps_nd pm)).mp e
theorem ps_q {i : Nat} (h : i < n) : ps.idxOf (ps.getD i 0) = i := by
  have hl := ps_len pm
  have h1 : i < ps.length := by omega
  have e1 : ps.getD i 0 = ps[i] := by simp [h1]
  rw [e1]
  exact (ps_nd pm).idxOf_getElem i h1
theorem q_lt {y : Nat} (h : y < n) : ps.idxOf y < n := by
  have hl := ps_len pm
  have := List.idxOf_lt_length_of_mem (pm.mem_iff.mpr (List.mem_range.mpr h))
  omega
theorem p_q {y : Nat} (h : y < n) : ps.getD (ps.idxOf y) 0 = y := by
  have h1 := List.idxOf_lt_length_of_mem (pm.mem_iff.mpr (List.mem_range.mpr h))
  have e1 : ps.getD (ps.idxOf y) 0 = ps[ps.idxOf y] := by simp [h1]
  rw [e1]
  exact List.getElem_idxOf h1
theorem Cert.renumber {r r' : Nat → Nat → Nat} {d t : Nat → Nat} (C : Cert n r d t) (rel : ∀ i x, i < n → x < n → r' (ps.getD i 0) (ps.getD x 0) = r i x) : Cert n r' (fun y => ps.getD (d (ps.idxOf y)) 0) (fun y => t (ps.idxOf y)) := by
  refine ⟨fun y hy => ps_lt pm (C.rng _ (q_lt pm hy)), fun y z hy hz e => ?_, fun y hy => ?_, fun y x hy hx l => ?_⟩
  · have e1 := ps_inj pm (C.rng _ (q_lt pm hy)) (C.rng _ (q_lt pm hz)) e
    have e2 := C.inj _ _ (q_lt pm hy) (q_lt pm hz) e1
    rw [← p_q pm hy, ← p_q pm hz, e2]
  · show t (ps.idxOf (ps.getD (d (ps.idxOf y)) 0)) = t (ps.idxOf y)
    rw [ps_q pm (C.rng _ (q_lt pm hy))]
    exact C.time _ (q_lt pm hy)
  · have := C.best (ps.idxOf y) (ps.idxOf x) (q_lt pm hy) (q_lt pm hx) l
    rw [← rel _ _ (q_lt pm hy) (C.rng _ (q_lt pm hy)), ← rel _ _ (q_lt pm hy) (q_lt pm hx), p_q pm hy, p_q pm hx] at this
    exact this
end
theorem renumber {rs ra : List (List Int)} {ps ds es : List Nat} (hlen : ra.length = rs.length) (pm : ps.Perm (List.range rs.length)) (hl : ∀ r ∈ ra, r.length < 1000)
    (rel : ∀ i x, i < rs.length → x < rs.length → rk ra (ps.getD i 0) (ps.getD x 0) = rk rs i x) (D : DealOf rs ds) (D' : DealOf ra es) {k : Nat} (hk : k < rs.length) : es.getD (ps.getD k 0) 0 = ps.getD (ds.getD k 0) 0 := by
  obtain ⟨_, t, C⟩ := D
  obtain ⟨_, t', C'⟩ := D'
  have P := pref_of hl
  rw [hlen] at C' P
  have C2 := C.renumber pm rel
  have := C2.unique P C' (i := ps.getD k 0) (ps_lt pm hk)
  try dsimp only at this
  rw [this, ps_q pm hk]
/-- the lists with the new numbers -/
def newRow (ps : List Nat) (r : List Int) : List Int := r.map fun x => ((ps.getD x.toNat 0 : Nat) : Int)
theorem newRow_rel {rs ra : List (List Int)} {ps : List Nat} (pm : ps.Perm (List.range rs.length)) (rng : ∀ r ∈ rs, ∀ x ∈ r, 0 ≤ x ∧ x < (rs.length : Int)) (h : ∀ i, i < rs.length → ra.getD (ps.getD i 0) [] = newRow ps (rs.getD i [])) :
    ∀ i x, i < rs.length → x < rs.length → rk ra (ps.getD i 0) (ps.getD x 0) = rk rs i x := by
  intro i x hi hx
  unfold rk
  rw [h i hi]
  have hr : rs.getD i [] ∈ rs := by
    have e : rs.getD i [] = rs[i] := by simp [hi]
    rw [e]; exact List.getElem_mem hi
  have key : ∀ (z : Nat), z < rs.length → ∀ y ∈ rs.getD i [], ((ps.getD y.toNat 0 : Nat) : Int) = ((ps.getD (z : Int).toNat 0 : Nat) : Int) → y = (z : Int) := fun z hz y hy e => by
    obtain ⟨y0, y1⟩ := rng _ hr y hy
    have := ps_inj pm (i := y.toNat) (j := (z : Int).toNat) (by omega) (by omega) (by omega)
    omega
  have := spot_map (f := fun x => ((ps.getD x.toNat 0 : Nat) : Int)) (l := rs.getD i []) (h := (i : Int)) (x := (x : Int)) (key i hi) (key x hx) (fun e => by
    have := ps_inj pm (i := (x : Int).toNat) (j := (i : Int).toNat) (by omega) (by omega) (by omega)
    omega)
  simpa [newRow] using this
/-- setting row after row -/
def setRows (ps : List Nat) (rs : List (List Int)) : Nat → List (List Int)
  | 0 => List.replicate rs.length []
  | k + 1 => (setRows ps rs k).set (ps.getD k 0) (newRow ps (rs.getD k []))
theorem setRows_length (ps : List Nat) (rs : List (List Int)) : ∀ k, (setRows ps rs k).length = rs.length
  | 0 => by simp [setRows]
  | k + 1 => by rw [setRows, List.length_set, setRows_length ps rs k]
theorem setRows_get {ps : List Nat} {rs : List (List Int)} (pm : ps.Perm (List.range rs.length)) : ∀ {k : Nat}, k ≤ rs.length → ∀ i, i < k → (setRows ps rs k).getD (ps.getD i 0) [] = newRow ps (rs.getD i [])
  | 0, _, i, h => by omega
  | k + 1, hk, i, h => by
    have hl := setRows_length ps rs k
    have hp := ps_lt pm (i := i) (by omega)
    by_cases e : i = k
    · subst e
      simp only [setRows, List.getD_eq_getElem?_getD]
      rw [List.getElem?_set_self (by rw [hl]; simpa using hp)]
      rfl
    · have ne : ps.getD k 0 ≠ ps.getD i 0 := fun z => e (ps_inj pm (by omega) (by omega) z.symm)
      have := setRows_get pm (k := k) (by omega) i (by omega)
      rw [← this]
      simp only [setRows, List.getD_eq_getElem?_getD]
      rw [List.getElem?_set_ne (by simpa using ne)]
theorem setRows_mem {ps : List Nat} {rs : List (List Int)} : ∀ {k : Nat} {r : List Int}, k ≤ rs.length → r ∈ setRows ps rs k → r = [] ∨ ∃ q ∈ rs, r = newRow ps q
  | 0, r, _, h => .inl (List.mem_replicate.mp h).2
  | k + 1, r, hk, h => by
    rcases List.mem_or_eq_of_mem_set h with z | z
    · exact setRows_mem (by omega) z
    · refine .inr ⟨rs.getD k [], ?_, z⟩
      have e : rs.getD k [] = rs[k]'(by omega) := by simp [show k < rs.length by omega]
      rw [e]; exact List.getElem_mem _
theorem newRow_nodup {n : Nat} {ps : List Nat} {r : List Int} (pm : ps.Perm (List.range n)) (nd : r.Nodup) (rng : ∀ x ∈ r, 0 ≤ x ∧ x < (n : Int)) : (newRow ps r).Nodup ∧ ∀ x ∈ newRow ps r, 0 ≤ x ∧ x < (n : Int) := by
  refine ⟨map_nodup nd fun x hx y hy e => ?_, fun x hx => ?_⟩
  · have h1 := rng x hx
    have h2 := rng y hy
    have := ps_inj pm (i := x.toNat) (j := y.toNat) (by omega) (by omega) (by omega)
    omega
  · obtain ⟨y, hy, e⟩ := List.mem_map.mp hx
    have h1 := rng y hy
    have := ps_lt pm (i := y.toNat) (by omega)
    omega
theorem honest_list {rs : List (List Int)} {ds es : List Nat} {h : Nat} {r' : List Int} (hl : ∀ r ∈ rs, r.length < 1000) (D : DealOf rs ds) (D' : DealOf (rs.set h r') es) (hh : h < rs.length) : rk rs h (ds.getD h 0) ≤ rk rs h (es.getD h 0) := by
  obtain ⟨_, t, C⟩ := D
  obtain ⟨_, t', C'⟩ := D'
  rw [List.length_set] at C'
  refine C.honest (pref_of hl) C' hh fun j _ hj x => ?_
  unfold rk
  rw [List.getD_eq_getElem?_getD, List.getElem?_set_ne (Ne.symm hj), ← List.getD_eq_getElem?_getD]
end KM

namespace KM
/-! How the program finds the rings of a round. -/
/-- a ring, told as a list -/
def Cyc (f : Nat → Nat) (a : List Nat) : Prop := a ≠ [] ∧ ∀ k (h : k < a.length), f a[k] = a.getD ((k + 1) % a.length) 0
theorem getD_get {a : List Nat} {k : Nat} (h : k < a.length) : a.getD k 0 = a[k] := by simp [h]
theorem rot_get {l1 l2 : List Nat} {k : Nat} (h : k < (l2 ++ l1).length) : (l2 ++ l1).getD k 0 = (l1 ++ l2).getD ((k + l1.length) % (l1 ++ l2).length) 0 := by
  simp only [List.length_append] at h ⊢
  by_cases c : k < l2.length
  · rw [Nat.mod_eq_of_lt (by omega)]
    simp only [List.getD_eq_getElem?_getD]
    rw [List.getElem?_append_left c, List.getElem?_append_right (by omega)]
    congr 2
    omega
  · have e : (k + l1.length) % (l1.length + l2.length) = k - l2.length := by
      rw [show k + l1.length = (k - l2.length) + (l1.length + l2.length) by omega, Nat.add_mod_right, Nat.mod_eq_of_lt (by omega)]
    rw [e]
    simp only [List.getD_eq_getElem?_getD]
    rw [List.getElem?_append_right (by omega), List.getElem?_append_left (by omega)]
theorem Cyc.rot {f : Nat → Nat} {l1 l2 : List Nat} (h : Cyc f (l1 ++ l2)) : Cyc f (l2 ++ l1) := by
  obtain ⟨ne, nx⟩ := h
  have hl : (l2 ++ l1).length = (l1 ++ l2).length := by simp [Nat.add_comm]
  refine ⟨fun e => ne ?_, fun k hk => ?_⟩
  · obtain ⟨e1, e2⟩ := List.append_eq_nil_iff.mp e
    rw [e1, e2]; rfl
  · have hk' : k < (l1 ++ l2).length := by omega
    have hn : 0 < (l1 ++ l2).length := by omega
    have hm := Nat.mod_lt (k + l1.length) hn
    have e1 := rot_get (l1 := l1) (l2 := l2) (k := (k + 1) % (l2 ++ l1).length) (Nat.mod_lt _ (by omega))
    rw [e1, ← getD_get hk, rot_get hk, getD_get hm, nx _ hm, hl]
    congr 1
    rw [Nat.mod_add_mod, Nat.mod_add_mod]
    congr 1
    omega
theorem drop_orbit (f : Nat → Nat) (s k j : Nat) (h : j ≤ k) : (orbit f s k).drop j = orbit f (it f j s) (k - j) := by
  refine List.ext_getElem (by simp [orbit]) fun i h1 h2 => ?_
  simp only [orbit, List.length_map, List.length_range] at h2
  simp only [orbit, List.getElem_drop, List.getElem_map, List.getElem_range]
  rw [Nat.add_comm, it_add]
theorem orbit_cyc {f : Nat → Nat} {c p : Nat} (hp : 0 < p) (per : it f p c = c) : Cyc f (orbit f c p) := by
  have hl := orbit_length f c p
  refine ⟨fun e => ?_, fun k hk => ?_⟩
  · rw [e] at hl; simp at hl; omega
  · rw [hl] at hk ⊢
    have e1 : (orbit f c p)[k]'(by rw [hl]; exact hk) = it f k c := by simp [orbit]
    have hm := Nat.mod_lt (k + 1) hp
    have e2 : (orbit f c p).getD ((k + 1) % p) 0 = it f ((k + 1) % p) c := by
      rw [getD_get (by rw [hl]; exact hm)]
      simp [orbit]
    rw [e1, e2]
    show it f (k + 1) c = _
    by_cases l : k + 1 < p
    · rw [Nat.mod_eq_of_lt l]
    · have : k + 1 = p := by omega
      rw [this, Nat.mod_self, per]
      rfl
theorem Cyc.into {f : Nat → Nat} {a : List Nat} (h : Cyc f a) {x : Nat} (hx : x ∈ a) : f x ∈ a := by
  obtain ⟨k, hk, e⟩ := List.getElem_of_mem hx
  rw [← e, h.2 k hk]
  exact getD_mem (Nat.mod_lt _ (by omega))
/-- a ring told from its least one on -/
structure Ring (f : Nat → Nat) (a : List Nat) : Prop where
  cyc : Cyc f a
  nd : a.Nodup
  least : ∀ x ∈ a, a.headD 0 ≤ x
/-- the walks so far: W have been come to, g are the rings found -/
structure Part (f : Nat → Nat) (ts W : List Nat) (g : List (List Nat)) : Prop where
  ndW : W.Nodup
  sub : ∀ x ∈ W, x ∈ ts
  into : ∀ x ∈ W, f x ∈ W
  ring : ∀ a ∈ g, Ring f a
  nd : g.flatten.Nodup
  inW : ∀ x ∈ g.flatten, x ∈ W
  reach : ∀ x ∈ W, ∃ k, it f k x ∈ g.flatten
theorem Part.start (f : Nat → Nat) (ts : List Nat) : Part f ts [] [] := ⟨List.nodup_nil, by simp, by simp, by simp, by simp, by simp, by simp⟩
section
variable {f : Nat → Nat} {ts W : List Nat} {g : List (List Nat)} {s k : Nat}
theorem Part.walk_nd (P : Part f ts W g) (nd : (orbit f s k).Nodup) (ap : ∀ x ∈ orbit f s k, x ∉ W) : (W ++ orbit f s k).Nodup :=
  List.nodup_append.mpr ⟨P.ndW, nd, fun a ha b hb e => ap b hb (by rw [← e]; exact ha)⟩
theorem walk_into (P : Part f ts W g) (e : it f k s ∈ W ++ orbit f s k) : ∀ x ∈ W ++ orbit f s k, f x ∈ W ++ orbit f s k := fun x hx => by
  rcases List.mem_append.mp hx with h | h
  · exact List.mem_append_left _ (P.into x h)
  · obtain ⟨i, hi, q⟩ := mem_orbit.mp h
    rw [← q]
    by_cases l : i + 1 < k
    · exact List.mem_append_right _ (mem_orbit.mpr ⟨i + 1, l, rfl⟩)
    · have : i + 1 = k := by omega
      show it f (i + 1) s ∈ _
      rw [this]; exact e
theorem it_orbit {i : Nat} (h : i ≤ k) : it f (k - i) (it f i s) = it f k s := by rw [← it_add]; congr 1; omega
/-- the walk came to one who had been come to before it -/
theorem Part.old (P : Part f ts W g) (nd : (orbit f s k).Nodup) (ap : ∀ x ∈ orbit f s k, x ∉ W) (hts : ∀ x ∈ orbit f s k, x ∈ ts) (e : it f k s ∈ W) : Part f ts (W ++ orbit f s k) g where
  ndW := P.walk_nd nd ap
  sub := fun x hx => (List.mem_append.mp hx).elim (P.sub x) (hts x)
  into := walk_into P (List.mem_append_left _ e)
  ring := P.ring
  nd := P.nd
  inW := fun x hx => List.mem_append_left _ (P.inW x hx)
  reach := fun x hx => by
    rcases List.mem_append.mp hx with h | h
    · exact P.reach x h
    · obtain ⟨i, hi, q⟩ := mem_orbit.mp h
      obtain ⟨m, hm⟩ := P.reach _ e
      refine ⟨m + (k - i), ?_⟩
      rw [it_add, ← q, it_orbit (by omega)]
      exact hm
/-- the walk came to one of its own: a ring -/
theorem Part.found (P : Part f ts W g) (nd : (orbit f s k).Nodup) (ap : ∀ x ∈ orbit f s k, x ∉ W) (hts : ∀ x ∈ orbit f s k, x ∈ ts) (e : it f k s ∈ orbit f s k) {i : Nat} {l : List Nat} (hl : l = (orbit f s k).drop ((orbit f s k).idxOf (it f k s)))
    (least : ∀ x ∈ l, l.getD i 0 ≤ x) (hi : i < l.length) : Part f ts (W ++ orbit f s k) (g ++ [l.drop i ++ l.take i]) := by
  have hj : (orbit f s k).idxOf (it f k s) < (orbit f s k).length := List.idxOf_lt_length_of_mem e
  have hk := orbit_length f s k
  generalize hjj : (orbit f s k).idxOf (it f k s) = j at *
  have ej : it f j s = it f k s := by
    have : (orbit f s k)[j]'hj = it f k s := by
      have := List.getElem_idxOf (x := it f k s) (xs := orbit f s k) (by rw [hjj]; exact hj)
      simpa [hjj] using this
    rw [← this]
    simp [orbit]
  have lo : l = orbit f (it f j s) (k - j) := by rw [hl, drop_orbit f s k j (by omega)]
  have cl : Cyc f l := by
    rw [lo]
    exact orbit_cyc (by omega) (by rw [it_orbit (by omega), ej])
  have ndl : l.Nodup := by rw [hl]; exact nd.sublist (List.drop_sublist _ _)
  have pm : (l.drop i ++ l.take i).Perm l := (List.perm_append_comm).trans (by rw [List.take_append_drop])
  have mem : ∀ x, x ∈ l.drop i ++ l.take i ↔ x ∈ l := fun x => pm.mem_iff
  have lsub : ∀ x ∈ l, x ∈ orbit f s k := fun x hx => by rw [hl] at hx; exact List.mem_of_mem_drop hx
  have hd : (l.drop i ++ l.take i).headD 0 = l.getD i 0 := by
    rw [getD_get hi]
    have : l.drop i = l[i] :: l.drop (i + 1) := by simp
    rw [this]
    rfl
  have cyc : Cyc f (l.drop i ++ l.take i) := Cyc.rot (by rw [List.take_append_drop]; exact cl)
  have e2 : it f k s ∈ l := by
    rw [lo, ← ej]
    exact mem_orbit.mpr ⟨0, by omega, rfl⟩
  refine ⟨P.walk_nd nd ap, fun x hx => (List.mem_append.mp hx).elim (P.sub x) (hts x), walk_into P (List.mem_append_right _ e), fun a ha => ?_, ?_, fun x hx => ?_, fun x hx => ?_⟩
  · rcases List.mem_append.mp ha with h | h
    · exact P.ring a h
    · rw [List.mem_singleton.mp h]
      exact ⟨cyc, pm.nodup_iff.mpr ndl, fun x hx => by rw [hd]; exact least x ((mem x).mp hx)⟩
  · rw [List.flatten_append, List.nodup_append]
    refine ⟨P.nd, by simpa using pm.nodup_iff.mpr ndl, fun a ha b hb q => ?_⟩
    have hb : b ∈ l := (mem b).mp (by simpa using hb)
    exact ap b (lsub b hb) (by rw [← q]; exact P.inW a ha)
  · rw [List.flatten_append] at hx
    rcases List.mem_append.mp hx with h | h
    · exact List.mem_append_left _ (P.inW x h)
    · exact List.mem_append_right _ (lsub x ((mem x).mp (by simpa using h)))
  · rw [List.flatten_append]
    rcases List.mem_append.mp hx with h | h
    · obtain ⟨m, hm⟩ := P.reach x h
      exact ⟨m, List.mem_append_left _ hm⟩
    · obtain ⟨i', hi', q⟩ := mem_orbit.mp h
      refine ⟨k - i', List.mem_append_right _ ?_⟩
      rw [← q, it_orbit (by omega)]
      simpa using (mem _).mpr e2
end
/-- a round as the program finds it, sorted -/
structure RoundF (f : Nat → Nat) (ts : List Nat) (g : List (List Nat)) : Prop where
  ring : ∀ a ∈ g, Ring f a
  nd : g.flatten.Nodup
  sub : ∀ x ∈ g.flatten, x ∈ ts
  reach : ∀ x ∈ ts, ∃ k, it f k x ∈ g.flatten
  rise : (g.map fun a => a.headD 0).Pairwise (· < ·)
theorem flatten_perm {α : Type} {g g' : List (List α)} (h : g.Perm g') : g.flatten.Perm g'.flatten := by
  induction h with
  | nil => exact List.Perm.refl _
  | cons x _ ih => rw [List.flatten_cons, List.flatten_cons]; exact List.Perm.append_left _ ih
  | swap x y l =>
    rw [List.flatten_cons, List.flatten_cons, List.flatten_cons, List.flatten_cons, ← List.append_assoc, ← List.append_assoc]
    exact List.Perm.append_right _ List.perm_append_comm
  | trans _ _ h1 h2 => exact h1.trans h2
theorem map_getD_range {α : Type} (g : List α) (d : α) : (List.range g.length).map (fun i => g.getD i d) = g := List.ext_getElem (by simp) fun i h1 h2 => by simp [h2]
theorem Part.sorted {f : Nat → Nat} {ts W : List Nat} {g : List (List Nat)} (P : Part f ts W g) (all : ∀ x ∈ ts, x ∈ W) {p : List Nat} (hp : p.Perm (List.range g.length))
    (rise : ((p.map fun i => g.getD i []).map fun a => a.headD 0).Pairwise (· < ·)) : RoundF f ts (p.map fun i => g.getD i []) := by
  have pm : (p.map fun i => g.getD i []).Perm g := by
    have := hp.map fun i => g.getD i []
    rwa [map_getD_range] at this
  have fp := flatten_perm pm
  exact ⟨fun a ha => P.ring a (pm.mem_iff.mp ha), fp.nodup_iff.mpr P.nd, fun x hx => P.sub x (P.inW x (fp.mem_iff.mp hx)), fun x hx => let ⟨k, h⟩ := P.reach x (all x hx); ⟨k, fp.mem_iff.mpr h⟩, rise⟩
theorem Part.heads {f : Nat → Nat} {ts W : List Nat} {g : List (List Nat)} (P : Part f ts W g) : (g.map fun a => a.headD 0).Nodup := by
  refine map_nodup ?_ fun a ha b hb e => ?_
  · have go : ∀ {g : List (List Nat)}, (∀ a ∈ g, a ≠ []) → g.flatten.Nodup → g.Nodup := by
      intro g
      induction g with
      | nil => intro _ _; exact List.nodup_nil
      | cons a g ih =>
        intro h nd
        rw [List.flatten_cons, List.nodup_append] at nd
        refine List.nodup_cons.mpr ⟨fun m => ?_, ih (fun b hb => h b (List.mem_cons_of_mem _ hb)) nd.2.1⟩
        have ne := h a List.mem_cons_self
        obtain ⟨x, r, e⟩ := List.exists_cons_of_ne_nil ne
        have hx : x ∈ a := by rw [e]; exact List.mem_cons_self
        exact nd.2.2 x hx x (List.mem_flatten.mpr ⟨a, m, hx⟩) rfl
    exact go (fun a ha => (P.ring a ha).cyc.1) P.nd
  · have hm : ∀ a ∈ g, a.headD 0 ∈ a := fun a ha => by
      obtain ⟨x, r, q⟩ := List.exists_cons_of_ne_nil (P.ring a ha).cyc.1
      rw [q]; exact List.mem_cons_self
    exact flatten_same P.nd ha hb (hm a ha) (by rw [e]; exact hm b hb)
theorem it_congr {f f' : Nat → Nat} {ts : List Nat} (hf : ∀ x ∈ ts, f x ∈ ts) (e : ∀ x ∈ ts, f x = f' x) {x : Nat} (hx : x ∈ ts) : ∀ k, it f k x = it f' k x
  | 0 => rfl
  | k + 1 => by
    show f (it f k x) = f' (it f' k x)
    rw [← it_congr hf e hx k, e _ (it_mem hf hx k)]
theorem RoundF.ok {f : Nat → Nat} {ts : List Nat} {g : List (List Nat)} {r : Nat → Nat → Nat} (F : RoundF f ts g) (hne : ts ≠ []) (hf : ∀ x ∈ ts, f x = look r ts x) : RoundOk r ts g := by
  have hin : ∀ x ∈ ts, f x ∈ ts := fun x hx => by rw [hf x hx]; exact look_mem hx
  have stay : ∀ x ∈ g.flatten, ∀ j, it f j x ∈ g.flatten := fun x hx j => it_mem (fun y hy => by
    obtain ⟨a, ha, h⟩ := List.mem_flatten.mp hy
    exact List.mem_flatten.mpr ⟨a, ha, (F.ring a ha).cyc.into h⟩) hx j
  refine ⟨fun e => ?_, fun a ha => (F.ring a ha).cyc.1, F.nd, F.sub, fun a ha => (F.ring a ha).least, F.rise, fun a ha k hk => ?_, fun x hx => ?_⟩
  · obtain ⟨x, l, q⟩ := List.exists_cons_of_ne_nil hne
    obtain ⟨k, h⟩ := F.reach x (by rw [q]; exact List.mem_cons_self)
    rw [e] at h; cases h
  · rw [← hf _ (F.sub _ (List.mem_flatten.mpr ⟨a, ha, List.getElem_mem hk⟩))]
    exact (F.ring a ha).cyc.2 k hk
  · obtain ⟨k, h⟩ := F.reach x hx
    rw [← it_congr hin hf hx]
    obtain ⟨p, p0, _, pe⟩ := periodic hin hx (Nat.le_refl ts.length)
    by_cases c : k ≤ ts.length
    · have := stay _ h (ts.length - k)
      rwa [← it_add, show ts.length - k + k = ts.length by omega] at this
    · have e1 : it f (k * p) (it f ts.length x) = it f ts.length x := it_period pe k
      have hkp : k ≤ k * p := Nat.le_mul_of_pos_right k p0
      have := stay _ h (k * p + ts.length - k)
      rw [← it_add, show k * p + ts.length - k + k = k * p + ts.length by omega, it_add, e1] at this
      exact this
/-- rounds told so far, and those to come -/
def Upto (r : Nat → Nat → Nat) (ts0 : List Nat) (gs : List (List (List Nat))) (ts : List Nat) : Prop := ∀ rest, AllRounds r ts rest → AllRounds r ts0 (gs ++ rest)
theorem Upto.start (r : Nat → Nat → Nat) (ts : List Nat) : Upto r ts [] ts := fun _ h => h
theorem Upto.snoc {r : Nat → Nat → Nat} {ts0 ts : List Nat} {gs : List (List (List Nat))} (U : Upto r ts0 gs ts) {g : List (List Nat)} (O : RoundOk r ts g) : Upto r ts0 (gs ++ [g]) (ts.filter fun x => decide (x ∉ g.flatten)) := fun rest h => by
  rw [List.append_assoc]
  exact U (g :: rest) ⟨O, h⟩
theorem Upto.done {r : Nat → Nat → Nat} {ts0 : List Nat} {gs : List (List (List Nat))} (U : Upto r ts0 gs []) : AllRounds r ts0 gs := by
  have := U [] rfl
  rwa [List.append_nil] at this
/-- the first of an order's houses that are still there is the one looked to -/
theorem filter_head_min {p : Int → Bool} : ∀ {o : List Int} {hd : Int} {tl : List Int}, o.filter p = hd :: tl → ∀ x ∈ o, p x = true → o.idxOf hd ≤ o.idxOf x
  | [], _, _, h, _, _, _ => by simp at h
  | y :: o, hd, tl, h, x, hx, px => by
    by_cases py : p y = true
    · rw [List.filter_cons_of_pos py] at h
      have : y = hd := (List.cons.inj h).1
      rw [this, List.idxOf_cons_self]
      exact Nat.zero_le _
    · rw [List.filter_cons_of_neg py] at h
      have hm : hd ∈ o.filter p := by rw [h]; exact List.mem_cons_self
      have n1 : y ≠ hd := fun e => py (by rw [e]; exact (List.mem_filter.mp hm).2)
      have n2 : y ≠ x := fun e => py (by rw [e]; exact px)
      rcases List.mem_cons.mp hx with e | e
      · exact absurd e.symm n2
      · rw [List.idxOf_cons, List.idxOf_cons, beq_eq_false_iff_ne.mpr n1, beq_eq_false_iff_ne.mpr n2]
        exact Nat.succ_le_succ (filter_head_min h x e px)
theorem look_head {rs : List (List Int)} {ts : List Nat} {h : Nat} {r : List Int} (hr : rs[h]? = some r) (hl : r.length < 1000) (hh : h ∈ ts) :
    ∃ tl, (order r (h : Int)).filter (fun y => decide (y ∈ ts.map fun n : Nat => (n : Int))) = ((look (rk rs) ts h : Nat) : Int) :: tl := by
  have er : rs.getD h [] = r := by simp [List.getD_eq_getElem?_getD, hr]
  have own : (h : Int) ∈ order r (h : Int) := by unfold order; simp
  have hm : (h : Int) ∈ (order r (h : Int)).filter (fun y => decide (y ∈ ts.map fun n : Nat => (n : Int))) := List.mem_filter.mpr ⟨own, decide_eq_true (List.mem_map.mpr ⟨h, hh, rfl⟩)⟩
  cases e : (order r (h : Int)).filter (fun y => decide (y ∈ ts.map fun n : Nat => (n : Int))) with
  | nil => rw [e] at hm; cases hm
  | cons hd tl =>
    refine ⟨tl, ?_⟩
    congr 1
    have h1 : hd ∈ (order r (h : Int)).filter (fun y => decide (y ∈ ts.map fun n : Nat => (n : Int))) := by rw [e]; exact List.mem_cons_self
    obtain ⟨ho, ht⟩ := List.mem_filter.mp h1
    obtain ⟨n, hn, en⟩ := List.mem_map.mp (of_decide_eq_true ht)
    subst en
    have lb : rk rs h (look (rk rs) ts h) ≤ rk rs h n := look_best hn
    have lm : look (rk rs) ts h ∈ ts := look_mem hh
    unfold rk at lb
    rw [er] at lb
    obtain ⟨s1, s2⟩ := order_mem ho
    have lo : ((look (rk rs) ts h : Nat) : Int) ∈ order r (h : Int) := by
      by_cases q : ((look (rk rs) ts h : Nat) : Int) ∈ order r (h : Int)
      · exact q
      · have := order_not q
        unfold rk at this
        omega
    obtain ⟨s3, s4⟩ := order_mem lo
    have mn := filter_head_min e _ lo (decide_eq_true (List.mem_map.mpr ⟨_, lm, rfl⟩))
    have eq : spot r (h : Int) (n : Int) = spot r (h : Int) ((look (rk rs) ts h : Nat) : Int) := by
      unfold rk at *
      omega
    exact spot_strict hl eq (by omega)
/-- a dealing written place by place -/
theorem fill_all {ds hs : List Nat} (hl : hs.length = ds.length) (h : ∀ x, x < ds.length → hs.getD x 0 = ds.getD x 0) : hs = ds :=
  List.ext_getElem hl fun i h1 h2 => by
    have := h i h2
    rw [getD_get h1, getD_get h2] at this
    exact this
theorem set_fill {ds hs : List Nat} {x v : Nat} (hl : hs.length = ds.length) (hv : v = ds.getD x 0) {D : Nat → Prop} (h : ∀ y, D y → hs.getD y 0 = ds.getD y 0) : ∀ y, (D y ∨ y = x) → y < ds.length → (hs.set x v).getD y 0 = ds.getD y 0 := fun y q hy => by
  by_cases e : y = x
  · subst e
    simp only [List.getD_eq_getElem?_getD]
    rw [List.getElem?_set_self (by omega), Option.getD_some, hv]
    simp [List.getD_eq_getElem?_getD]
  · have := h y (q.elim id fun z => absurd z e)
    rw [← this]
    simp [List.getD_eq_getElem?_getD, List.getElem?_set_ne (Ne.symm e)]
end KM

set_option Elab.async false
set_option linter.all false
set_option maxRecDepth 100000
set_option maxHeartbeats 4000000
/-! Own rules over the layer: insert, index, isinstance, a list comprehension. -/
namespace L2
open PySem PySem.Spec PyProof.Rows

section
variable {X : Cx}
def insV {α : Type} (xs : List α) (k : Nat) (y : α) : List α := xs.take k ++ y :: xs.drop k
theorem insV_length {α : Type} (xs : List α) (k : Nat) (y : α) : (insV xs k y).length = xs.length + 1 := by
  unfold insV
  rw [List.length_append, List.length_cons, List.length_take, List.length_drop]
  omega
theorem insV_map {α β : Type} (f : α → β) (xs : List α) (k : Nat) (y : α) : (insV xs k y).map f = insV (xs.map f) k (f y) := by
  unfold insV
  simp [List.map_take, List.map_drop]
/-- xs.insert(i, y), the place within the list -/
def rInsert : V → List V → Hp → VK → Prop := fun x vs H Q => ∃ l xs i y, x = .ref l ∧ vs = [.int i, y] ∧ H l = some (.lst xs) ∧ 0 ≤ i ∧ i ≤ (xs.length : Int) ∧ xs.length < sizeLine ∧ Q .non (upd H l (.lst (insV xs i.toNat y)))
theorem mt_insert : MtM X "list.insert" rInsert := by
  intro pins s σ H x vs v us Q I rx rv h
  obtain ⟨l, xs, i, y, rfl, rfl, hH, h0, h1, hz, q⟩ := h
  cases rx
  obtain ⟨u, u', rfl, ⟨t, rfl⟩, ru⟩ := rv.two
  obtain ⟨z, its, n, r, hl, e⟩ := I.lstM hH
  have h63 := line63
  have hfit : Builtin.List.listFitsIndex i = true := fitsIndex_both (by omega) (by omega)
  refine call_meets F.slot_list_insert ⟨_, e, rfl⟩ F.entry_list_insert (F.args_list_insert_3 _ _ _) (AutoSeq1.list_insert_list_int_val_1 l its.toArray n i t u' (by simp [hfit]) (by rw [List.size_toArray]; omega)) ⟨e, ?_⟩
  refine ⟨.non, _, I.lset (its' := insV its i.toNat u') (ys := insV xs i.toNat y) hH e ?_ ?_ ?_, rfl, q⟩
  · have hk : (if i < 0 then (i + (its.toArray.size : Int)).toNat else min i.toNat its.toArray.size) = i.toNat := by
      rw [if_neg (by omega), List.size_toArray]
      omega
    show (its.toArray.extract 0 (if i < 0 then (i + (its.toArray.size : Int)).toNat else min i.toNat its.toArray.size)).push u' ++ its.toArray.extract (if i < 0 then (i + (its.toArray.size : Int)).toNat else min i.toNat its.toArray.size) = (insV its i.toNat u').toArray
    rw [hk]
    unfold insV
    apply Array.ext'
    simp [List.extract_eq_take_drop]
    try (rw [List.take_of_length_le]; simp)
  · unfold insV
    exact (r.take i.toNat).append (.cons ru (r.drop i.toNat))
  · rw [insV_length]
    omega
/-- xs.index(i) in a list of ints, where it is there -/
def rIndex (K : PySem.W.Frag) : V → List V → Hp → VK → Prop := fun x vs H Q => ∃ (l : Addr) (ns : List Int) (i : Int), x = .ref l ∧ vs = [.int i] ∧ SqL K H l (ns.map V.int) ∧ i ∈ ns ∧ Q (.int (ns.idxOf i : Nat)) H
theorem flat_ints (ns : List Int) : (ns.map V.int).all flatV = true := by
  rw [List.all_eq_true]
  intro v hv
  obtain ⟨n, _, rfl⟩ := List.mem_map.mp hv
  rfl
theorem idxOf_le_of {ns : List Int} {i : Int} : ∀ {m : Nat} {hm : m < ns.length}, ns[m] = i → ns.idxOf i ≤ m := by
  induction ns with
  | nil => intro m hm; cases hm
  | cons a r ih =>
    intro m hm e
    rw [List.idxOf_cons]
    cases q : a == i with
    | true => exact Nat.zero_le _
    | false =>
      cases m with
      | zero =>
        have e' : a = i := e
        rw [e'] at q
        simp at q
      | succ m => exact Nat.succ_le_succ (ih (m := m) (hm := by simpa using hm) (by simpa using e))
theorem mt_index : MtM X "list.index" (rIndex X.K) := by
  intro pins s σ H x vs v us Q I rx rv h
  obtain ⟨l, ns, i, rfl, rfl, hq, hi, q⟩ := h
  cases rx
  obtain ⟨u, rfl, ru⟩ := rv.one
  obtain ⟨its, r, pl, hz⟩ := I.list hq
  obtain ⟨o, n, e, hc, hd, hdt⟩ := pl
  obtain ⟨c, d, dt, sl⟩ := o
  dsimp only at hc hd hdt
  subst hc hd hdt
  have hlen := r.length
  rw [List.length_map] at hlen hz
  have hjl : ns.idxOf i < ns.length := List.idxOf_lt_length_of_mem hi
  have hj : ns.idxOf i < its.toArray.size := by rw [List.size_toArray]; omega
  have h63 := line63
  have at' : ∀ m (hm : m < its.toArray.size) (hn : m < ns.length), eqU (.int i) its.toArray[m] = (ns[m] == i) := fun m hm hn => by
    obtain ⟨w, hw, rw'⟩ := r.get (i := m) (x := V.int ns[m]) (by simp [hn])
    have ew : its.toArray[m] = w := by
      have h1 : its[m]'(by rw [List.size_toArray] at hm; exact hm) = w := (List.getElem?_eq_some_iff.mp hw).2
      rw [← h1]
      simp
    rw [ew, eqU_of rw' rfl]
    rfl
  refine call_meets F.slot_list_index ⟨_, e, rfl⟩ F.entry_list_index (F.args_list_index_2 _ _) (SeqAt.list_indexAt l its.toArray n none sl u (eqU (.int i)) (ns.idxOf i) hj (by omega) ?_ ?_) ⟨e, fun y hy => mem_eqAt ru rfl r (flat_ints ns) y (by simpa using hy), ?_⟩
  · rw [at' _ hj hjl]
    simp
  · intro m hm hlt
    rw [at' m hm (by omega)]
    exact beq_eq_false_iff_ne.mpr fun z => Nat.lt_irrefl _ (Nat.lt_of_lt_of_le hlt (idxOf_le_of z))
  · exact ⟨.int _, H, I.tok _, ⟨_, rfl⟩, q⟩

/-- isinstance(x, T), T a built-in type -/
theorem call_isinst : CallR X (.builtin "isinstance") (fun xs H Q => ∃ x n t b, xs = [x, .ty n] ∧ TyOf X.K H x t ∧ PySem.W.kitOne X.K t (.type n) = some b ∧ Q (.bl b) H) := by
  intro pins s σ H xs us Q I r h
  obtain ⟨x, n, t, b, rfl, ty, hk, q⟩ := h
  obtain ⟨u, u', rfl, r1, r2⟩ := vals2 r
  cases r2
  exact isinst_ok I r1 ty hk fun tk => ⟨.bl b, H, I.tok tk, rfl, q⟩
end

section
variable {X : Cx}
/-- list(x), len(x) by a name of their own (a comprehension's block wants the reading said) -/
def rListOf (K : PySem.W.Frag) : List V → Hp → VK → Prop := fun xs H Q => ∃ p ys, xs = [.ref p] ∧ (SqL K H p ys ∨ SqT K H p ys) ∧ ∀ l, H l = none → Q (.ref l) (upd H l (.lst ys))
theorem call_listR : CallR X (.type "list") (rListOf X.K) := call_list_of
def rLenOf (K : PySem.W.Frag) : List V → Hp → VK → Prop := fun xs H Q => ∃ p ys, xs = [.ref p] ∧ (SqL K H p ys ∨ SqT K H p ys) ∧ Q (.int ys.length) H
theorem call_lenR : CallR X (.builtin "len") (rLenOf X.K) := call_len_seq
end

/-! ### a list comprehension -/
/-- the cells that a block closes over -/
def clOf (env : Env) (names : List (Str × NameKind)) (acc : List (Str × Addr)) : List (Str × Addr) :=
  names.foldl (fun cs y => if y.2 = .free then (y.1, (env.cells.lookup y.1).getD 0) :: cs else cs) acc
theorem clOf_forIn {env : Env} : ∀ {names : List (Str × NameKind)} {acc : List (Str × Addr)}, (∀ y ∈ names, y.2 = .free → ∃ c, env.cells.lookup y.1 = some c) →
    (forIn names acc (fun (y : Str × NameKind) (r : List (Str × Addr)) => (if (y.2 == NameKind.free) = true then (do let c ← cellOf env y.1; pure (ForInStep.yield ((y.1, c) :: r))) else pure (ForInStep.yield r) : Sem (ForInStep (List (Str × Addr)))))) = pure (clOf env names acc)
  | [], acc, _ => rfl
  | (n, k) :: r, acc, h => by
    rw [List.forIn_cons]
    have hr : ∀ y ∈ r, y.2 = .free → ∃ c, env.cells.lookup y.1 = some c := fun y hy => h y (List.mem_cons_of_mem _ hy)
    by_cases hk : k = .free
    · subst hk
      obtain ⟨c, hc⟩ := h (n, .free) List.mem_cons_self rfl
      have hcell : cellOf env n = pure c := by unfold cellOf; rw [hc]
      have e : clOf env ((n, NameKind.free) :: r) acc = clOf env r ((n, c) :: acc) := by
        unfold clOf
        rw [List.foldl_cons]
        simp [hc]
      rw [e, ← clOf_forIn hr]
      simp [hcell]
    · have e : clOf env ((n, k) :: r) acc = clOf env r acc := by
        unfold clOf
        rw [List.foldl_cons]
        simp [hk]
      have hb : (k == NameKind.free) = false := by simpa using hk
      rw [e, ← clOf_forIn hr]
      simp [hb]
theorem closure_of {env : Env} {scope : Scope} (h : ∀ y ∈ scope.names, y.2 = .free → ∃ c, env.cells.lookup y.1 = some c) : closureFor scope env = pure (clOf env scope.names []) := by
  have q := clOf_forIn (env := env) (acc := []) h
  simp only [closureFor]
  rw [q]
  rfl
theorem clOf_mem {env : Env} : ∀ {names : List (Str × NameKind)} {acc : List (Str × Addr)} {p : Str × Addr}, (∀ y ∈ names, y.2 = .free → ∃ c, env.cells.lookup y.1 = some c) → p ∈ clOf env names acc → p ∈ acc ∨ env.cells.lookup p.1 = some p.2
  | [], acc, p, _, hp => .inl hp
  | (n, k) :: r, acc, p, h, hp => by
    have hr : ∀ y ∈ r, y.2 = .free → ∃ c, env.cells.lookup y.1 = some c := fun y hy => h y (List.mem_cons_of_mem _ hy)
    unfold clOf at hp
    rw [List.foldl_cons] at hp
    by_cases hk : k = .free
    · obtain ⟨c, hc⟩ := h (n, k) List.mem_cons_self hk
      rw [if_pos hk] at hp
      rcases clOf_mem (acc := (n, (env.cells.lookup n).getD 0) :: acc) hr hp with q | q
      · rcases List.mem_cons.mp q with q | q
        · right
          rw [q]
          show env.cells.lookup n = some ((env.cells.lookup n).getD 0)
          have hc : env.cells.lookup n = some c := hc
          rw [hc]
          rfl
        · exact .inl q
      · exact .inr q
    · rw [if_neg hk] at hp
      exact clOf_mem (acc := acc) hr hp
theorem clOf_sub {env : Env} : ∀ {names : List (Str × NameKind)} {acc : List (Str × Addr)} {p : Str × Addr}, p ∈ acc → p ∈ clOf env names acc
  | [], _, _, h => h
  | (n, k) :: r, acc, p, h => by
    unfold clOf
    rw [List.foldl_cons]
    by_cases hk : k = .free
    · rw [if_pos hk]
      exact clOf_sub (names := r) (acc := (n, (env.cells.lookup n).getD 0) :: acc) (List.mem_cons_of_mem _ h)
    · rw [if_neg hk]
      exact clOf_sub (names := r) h
theorem clOf_has {env : Env} {n : Str} : ∀ {names : List (Str × NameKind)} {acc : List (Str × Addr)}, (n, NameKind.free) ∈ names → ∃ c, (n, c) ∈ clOf env names acc
  | [], _, h => by cases h
  | (m, k) :: r, acc, h => by
    unfold clOf
    rw [List.foldl_cons]
    rcases List.mem_cons.mp h with e | h
    · cases e
      rw [if_pos rfl]
      exact ⟨_, clOf_sub (names := r) (acc := (n, (env.cells.lookup n).getD 0) :: acc) List.mem_cons_self⟩
    · exact clOf_has (names := r) h
theorem lookup_some_of_mem {α : Type} : ∀ {l : List (Str × α)} {n : Str} {c : α}, (n, c) ∈ l → ∃ c', l.lookup n = some c'
  | [], _, _, h => by cases h
  | (m, d) :: r, n, c, h => by
    rw [List.lookup_cons]
    cases e : n == m with
    | true => exact ⟨d, rfl⟩
    | false =>
      rcases List.mem_cons.mp h with z | z
      · cases z
        simp at e
      · exact lookup_some_of_mem z
def rl (env : Env) (n : Str) (k : NameKind) : NameKind := if (k == NameKind.free && env.scope.kind == .function && env.kindOf n == some .cell) = true then .cell else k
theorem relabel_names (scope : Scope) (env : Env) : (relabel scope env).names = scope.names.map fun p => (p.1, rl env p.1 p.2) := by
  unfold relabel
  refine List.map_congr_left fun p _ => ?_
  obtain ⟨n, k⟩ := p
  show (if (k == NameKind.free && env.scope.kind == .function && env.kindOf n == some .cell) = true then (n, NameKind.cell) else (n, k)) = (n, rl env n k)
  unfold rl
  by_cases hc : (k == NameKind.free && env.scope.kind == .function && env.kindOf n == some .cell) = true
  · rw [if_pos hc, if_pos hc]
  · rw [if_neg hc, if_neg hc]
theorem lookup_map_snd (g : Str → NameKind → NameKind) (y : Str) : ∀ l : List (Str × NameKind), (l.map fun p => (p.1, g p.1 p.2)).lookup y = (l.lookup y).map (g y)
  | [] => rfl
  | (n, k) :: r => by
    rw [List.map_cons, List.lookup_cons, List.lookup_cons]
    cases e : y == n with
    | true =>
      have e' : y = n := by simpa using e
      subst e'
      rfl
    | false => exact lookup_map_snd g y r
theorem relabel_fwd {scope : Scope} {env : Env} {y : Str} {k : NameKind} (h : (relabel scope env).names.lookup y = some k) : ∃ k0, scope.names.lookup y = some k0 ∧ (k = k0 ∨ (k0 = .free ∧ k = .cell)) := by
  rw [relabel_names, lookup_map_snd] at h
  cases e : scope.names.lookup y with
  | none => rw [e] at h; cases h
  | some k0 =>
    rw [e] at h
    have h' : rl env y k0 = k := Option.some.inj h
    refine ⟨k0, rfl, ?_⟩
    unfold rl at h'
    by_cases hc : (k0 == NameKind.free && env.scope.kind == .function && env.kindOf y == some .cell) = true
    · rw [if_pos hc] at h'
      simp only [Bool.and_eq_true, beq_iff_eq] at hc
      exact .inr ⟨hc.1.1, h'.symm⟩
    · rw [if_neg hc] at h'
      exact .inl h'.symm
theorem relabel_free {scope : Scope} {env : Env} {y : Str} (h : scope.names.lookup y = some .free) : (relabel scope env).names.lookup y = some .cell ∨ (relabel scope env).names.lookup y = some .free := by
  rw [relabel_names, lookup_map_snd, h]
  show some (rl env y .free) = some .cell ∨ some (rl env y .free) = some .free
  unfold rl
  by_cases hc : (NameKind.free == NameKind.free && env.scope.kind == .function && env.kindOf y == some .cell) = true
  · rw [if_pos hc]; exact .inl rfl
  · rw [if_neg hc]; exact .inr rfl

/-- the context of a comprehension's block -/
def compCx (X : Cx) (scope : Scope) (cl : List (Str × Addr)) (N : List Str) (C : Addr) (s : Shared) (H : Hp) (fp : List Addr) : Cx :=
  { X with env := compEnvC scope cl C X.env, N := N, s₀ := s, H₀ := H, outer := X.stack, stack := X.stack, ex := fp, fn := fun _ => false, pn := [], xe := fun _ _ => False }
/-- what the block's scope has: its own name x; the names fr of the def around (in its slots ix) -/
structure CompScope (X : Cx) (scope : Scope) (x : Str) (fr : List Str) (ix : List Nat) : Prop where
  kind : scope.kind = .function
  cell : ∀ y ∈ scope.names, y.2 ≠ .cell
  names : ∀ y ∈ scope.names, y.2 = .local → scope.names.lookup y.1 = some .local
  own : scope.names.lookup x = some .local
  nd : (x :: fr).Nodup
  out : ∀ y ∈ scope.names, y.2 = .free → X.env.kindOf y.1 = some .cell ∨ X.env.kindOf y.1 = some .free
  frs : ∀ y ∈ fr, scope.names.lookup y = some .free
  slots : fr.map some = ix.map fun k => X.N[k]?
theorem compScope {X : Cx} {scope : Scope} {x : Str} {fr : List Str} {ix : List Nat} (sc : Scope) (N : List Str) (hsc : X.env.scope = sc) (hN : X.N = N)
    (h : scope.kind = .function ∧ (∀ y ∈ scope.names, y.2 ≠ .cell) ∧ (∀ y ∈ scope.names, y.2 = .local → scope.names.lookup y.1 = some .local) ∧ scope.names.lookup x = some .local ∧ (x :: fr).Nodup ∧
      (∀ y ∈ scope.names, y.2 = .free → sc.names.lookup y.1 = some .cell ∨ sc.names.lookup y.1 = some .free) ∧ (∀ y ∈ fr, scope.names.lookup y = some .free) ∧ fr.map some = ix.map fun k => N[k]?) : CompScope X scope x fr ix := by
  subst hsc hN
  obtain ⟨h1, h2, h3, h4, h5, h6, h7, h8⟩ := h
  exact ⟨h1, h2, h3, h4, h5, h6, h7, h8⟩
/-- the block's names' values -/
def cSt (ix : List Nat) (σ : St) (o : Option V) : St := o :: ix.map fun k => (σ[k]?).getD none

section
variable {X : Cx} {pins : List (Addr × Obj)} {σ : St} {H H' : Hp} {s s1 : Shared} {scope : Scope} {x : Str} {fr : List Str} {ix : List Nat} {fp : List Addr}
theorem CompScope.cells (S : CompScope X scope x fr ix) (ok : X.Ok) : ∀ y ∈ scope.names, y.2 = .free → ∃ c, X.env.cells.lookup y.1 = some c := fun y hy hf => ok.has y.1 (S.out y hy hf)
theorem CompScope.sub (S : CompScope X scope x fr ix) (ok : X.Ok) {y : Str} {c : Addr} (h : (clOf X.env scope.names []).lookup y = some c) : X.env.cells.lookup y = some c := by
  rcases clOf_mem (S.cells ok) (PySem.mem_of_lookup h) with q | q
  · cases q
  · exact q
theorem CompScope.cl_has (S : CompScope X scope x fr ix) (ok : X.Ok) {y : Str} (h : scope.names.lookup y = some .free) : ∃ c, (clOf X.env scope.names []).lookup y = some c := by
  obtain ⟨c, hc⟩ := clOf_has (env := X.env) (acc := []) (PySem.mem_of_lookup h)
  exact lookup_some_of_mem hc

theorem comp_inv (I : Inv X pins σ H s) (S : CompScope X scope x fr ix) (hf : ∀ b ∈ fp, FpOk X pins H b) (hlt : ∀ b ∈ fp, b < s.heap.objs.size) {h₁ : Heap} {tk : Nat} {m : Str → Option Value}
    (hns : h₁.Ns s.heap.objs.size m) (hk : ∀ b o, s.heap.get? b = some o → h₁.get? b = some o) :
    Inv (compCx X scope (clOf X.env scope.names []) (x :: fr) s.heap.objs.size s H fp) [] (cSt ix σ none) H { s with heap := h₁, toks := tk } := by
  have nst : ∀ b ∈ fp, b ∉ frs X.stack := fun b hb hs => by
    rcases List.mem_cons.mp (I.stkSub b hs) with e | e
    · exact (hf b hb).2.1 e
    · exact (hf b hb).2.2.1 e
  refine ⟨⟨I.ok.mod, S.kind, I.ok.glob, I.ok.blt, Nat.le_refl _, fun y z c h1 h2 => I.ok.inj y z c (S.sub I.ok h1) (S.sub I.ok h2), fun y hy => ?_, fun y c h => ?_, I.ok.hd, I.ok.frames, .inl rfl, fun b hb => ⟨Nat.ne_of_lt (hlt b hb), fun y c h => (hf b hb).2.2.2.2.1 y c (S.sub I.ok h)⟩,
      I.bs, Nat.le_trans I.ok.bsz I.sz, fun b o e hb => ?_, nst, I.stack, I.stkFree⟩,
    rfl, I.bare, Un.kept hk, ⟨m, hns, fun i y v h1 h2 h3 => ?_⟩, fun y c h => ?_, I.hok.fresh (Nat.le_refl _), fun y c h => I.freeC y c (S.sub I.ok h), fun p hp => absurd (show p ∈ ([] : List (Addr × Obj)) from hp) (by simp), I.hok.kept hk, ?_⟩
  · -- has
    have hy' : (relabel scope X.env).names.lookup y = some .cell ∨ (relabel scope X.env).names.lookup y = some .free := hy
    have : scope.names.lookup y = some .free := by
      rcases hy' with h | h
      · obtain ⟨k0, e, h2⟩ := relabel_fwd h
        rcases h2 with h2 | h2
        · exact absurd h2.symm (S.cell _ (PySem.mem_of_lookup e))
        · rw [e, h2.1]
      · obtain ⟨k0, e, h2⟩ := relabel_fwd h
        rcases h2 with h2 | h2
        · rw [e, ← h2]
        · exact absurd h2.2 (by decide)
    exact S.cl_has I.ok this
  · exact absurd (show false = true from h) Bool.false_ne_true
  · -- noex
    have fp0 := hf b hb
    rcases fp0.2.2.2.1 with z | z
    · exact I.ok.noex b o e z
    · have l : b < X.base.objs.size := Heap.lt_size e
      exact absurd (Nat.lt_of_lt_of_le l (Nat.le_trans I.ok.bsz z)) (Nat.lt_irrefl _)
  · -- loc
    cases i with
    | zero => exact absurd h2 (by simp [cSt])
    | succ j =>
      have h1' : fr[j]? = some y := by simpa [compCx] using h1
      have h2' : (ix.map fun k => (σ[k]?).getD none)[j]? = some (some v) := by simpa [cSt] using h2
      rw [List.getElem?_map] at h2'
      cases ej : ix[j]? with
      | none => rw [ej] at h2'; cases h2'
      | some k =>
        rw [ej] at h2'
        have hv : (σ[k]?).getD none = some v := Option.some.inj h2'
        have hσ : σ[k]? = some (some v) := by
          cases e : σ[k]? with
          | none => rw [e] at hv; cases hv
          | some w => rw [e] at hv; exact congrArg some hv
        have hN : X.N[k]? = some y := by
          have q := congrArg (fun l => l[j]?) S.slots
          simp only [List.getElem?_map, h1', ej, Option.map_some] at q
          exact (Option.some.inj q).symm
        have hfree := S.frs y (List.mem_of_getElem? h1')
        have hkind := S.out (y, .free) (PySem.mem_of_lookup hfree) rfl
        have vis : Vis X.env.scope y := hkind.elim (fun q => .inr (.inl q)) fun q => .inr (.inr q)
        obtain ⟨m0, hn0, hl0⟩ := I.loc
        obtain ⟨u, ru, lk⟩ := hl0 k y v hN hσ vis
        rcases lk with ⟨q, _⟩ | ⟨_, c, hc, hcell⟩
        · rcases hkind with z | z
          · rw [q] at z; cases z
          · rw [q] at z; cases z
        · obtain ⟨c', hc'⟩ := S.cl_has I.ok hfree
          have : c' = c := by
            have z := S.sub I.ok hc'
            rw [hc] at z
            exact (Option.some.inj z).symm
          subst this
          refine ⟨u, ru, .inr ⟨?_, c', hc', hcell.keeps hk⟩⟩
          exact relabel_free (env := X.env) hfree
  · obtain ⟨w, hc⟩ := I.cell y c (S.sub I.ok h)
    exact ⟨w, hc.keeps hk⟩
  · show (cSt ix σ none).length = (x :: fr).length
    have q := congrArg List.length S.slots
    simp only [List.length_map] at q
    simp [cSt, q]
/-- back in the def -/
theorem comp_back {cl : List (Str × Addr)} {N : List Str} {C : Addr} {σ' : St} (I : Inv X pins σ H s) (hf : ∀ b ∈ fp, FpOk X pins H b) (J : Inv (compCx X scope cl N C s H fp) [] σ' H' s1) : Inv X pins σ H' s1 :=
  I.call' (ch := fp) J.os J.base J.hok J.bare fun b hb => ⟨(hf b hb).2.2.2.1, (hf b hb).2.1, (hf b hb).2.2.2.2.1, (hf b hb).2.2.2.2.2⟩

/-- the tests of a clause -/
def PIfs (X : Cx) (ifs : List Expr) (tt : TT) : Prop :=
  ∀ (pins : List (Addr × Obj)) (s : Shared) (σ : St) (H : Hp) (Q : Bool → Hp → Prop), Inv X pins σ H s → tt σ H Q →
    wpAny (model X.prog X.w) X.A (forIn ifs true fun c r => if r = true then do let ok ← isTrue c X.env (eval c X.env); pure (ForInStep.yield ok) else pure (ForInStep.yield r)) (TP X pins σ Q) X.xe s
def tTrue : TT := fun _ H Q => Q true H
theorem pifs_nil : PIfs X [] tTrue := fun _ _ _ H _ I h => wpAny_tests_nil ⟨H, I, h⟩
theorem pifs_one {c : Expr} {tt : TT} (h : PT X c tt) : PIfs X [c] tt := fun pins s σ H Q I hw => wpAny_tests_one (h pins s σ H Q I hw)

/-- what a block's turns want: W by the turn, a measure, the items so far, the heap -/
def LcW (J : It) (tt : TT) (te : TE) (ix : List Nat) (σ : St) (acc : Addr) (Q : Hp → Prop) (W : Nat → Nat → List V → Hp → Prop) : Prop :=
  ∀ i m ys H, W i m ys H → H acc = some (.lst ys) ∧
    ((J.stop i H ∧ Q H) ∨ (J.go i H ∧ ∃ N : List V → Hp → Prop, (∀ zs H', N zs H' → ∃ m', m' < m ∧ W (i + 1) m' zs H') ∧ ∀ x H', J.yld i H x H' → tt (cSt ix σ (some x)) H' fun b H2 => if b = true then te (cSt ix σ (some x)) H2 fun y H3 => H3 acc = some (.lst ys) ∧ ys.length < sizeLine ∧ N (ys ++ [y]) (upd H3 acc (.lst (ys ++ [y])))
      else N ys H2))
/-- [elt for x in iter if test] -/
def tLc (wi : TI) (tt : TT) (te : TE) (ix : List Nat) : TE := fun σ H Q => wi σ H fun J H1 => ∀ acc, H1 acc = none → ∃ W : Nat → Nat → List V → Hp → Prop,
  (∃ m, W 0 m [] (upd H1 acc (.lst []))) ∧ LcW J tt te ix σ acc (Q (.ref acc)) W

variable {elt iter : Expr} {ifs : List Expr} {px pos : Pos} {wi : TI} {tt : TT} {te : TE}
/-- the block's turns -/
theorem comp_loop {R : Result → Shared → Prop} {it acc C : Addr} {tn : Nat → Heap → Prop} {J : It} {Q : Hp → Prop} {cl : List (Str × Addr)} {s₀ : Shared} {H₀ : Hp} {W : Nat → Nat → List V → Hp → Prop} (hc : X.calm = true) (S : CompScope X scope x fr ix)
    (ht : PIfs (compCx X scope cl (x :: fr) C s₀ H₀ fp) ifs tt) (he : PE (compCx X scope cl (x :: fr) C s₀ H₀ fp) elt te)
    (T : Turn X.prog X.w X.K (.Name x px) J fp it tn) (fpC : ∀ {H' : Hp}, (∀ b ∈ fp, H' b = none) → ∀ b ∈ fp, FpOk (compCx X scope cl (x :: fr) C s₀ H₀ fp) [] H' b)
    (turn : LcW J tt te ix σ acc Q W) (fin : ∀ σ' H' s', Inv (compCx X scope cl (x :: fr) C s₀ H₀ fp) [] σ' H' s' → Q H' → R (.ok .next) s') (n : Nat)
    (start : ∃ i ys o H', Inv (compCx X scope cl (x :: fr) C s₀ H₀ fp) [] (cSt ix σ o) H' s ∧ tn i s.heap ∧ (∀ b ∈ fp, H' b = none) ∧ W i n ys H') :
    codeAny (model X.prog X.w) X.A (.compLoop (.ListComp elt [⟨.Name x px, iter, ifs, 0⟩] scope pos) 0 (.ref it) (.ref acc) (compEnvC scope cl C X.env)) R s := by
  refine codeAny_loop rfl (fun n s => ∃ i ys o H', Inv (compCx X scope cl (x :: fr) C s₀ H₀ fp) [] (cSt ix σ o) H' s ∧ tn i s.heap ∧ (∀ b ∈ fp, H' b = none) ∧ W i n ys H') (fun n s1 hI => ?_) n start
  obtain ⟨i, ys, o, H1, I1, st1, fr1, w1⟩ := hI
  show wpAny _ X.A ((compTurn (.ListComp elt [⟨.Name x px, iter, ifs, 0⟩] scope pos) 0 (.ref it) (.ref acc) (compEnvC scope cl C X.env)).onRaise (fun x => do noteFrame x (compEnvC scope cl C X.env); theTreesLotGoes x)) _ _ s1
  refine wpAny_noted ?_
  rw [compTurn_list]
  refine wpAny_bind (wpAny_standAt (wpAny_bind ?_))
  obtain ⟨hacc, q⟩ := turn i n ys H1 w1
  rcases q with ⟨stop, qe⟩ | ⟨go, N, hN, step⟩
  · refine thn (T.done (compCx X scope cl (x :: fr) C s₀ H₀ fp) rfl rfl rfl hc i [] s1 _ H1 _ I1 (fpC fr1) st1 stop) fun r s2 ⟨hr, I2⟩ => ?_
    subst hr
    exact wpAny_pure (fin _ _ _ I2 qe)
  · refine thn (T.item (compCx X scope cl (x :: fr) C s₀ H₀ fp) rfl rfl rfl hc i [] s1 _ H1 _ I1 (fpC fr1) st1 go) fun r s2 ⟨u, hr, h4⟩ => ?_
    subst hr
    refine wpAny_bind (thn h4 fun _ s3 ⟨v, H3, I3, r3, y3, st3, fr3⟩ => ?_)
    have I3' := I3.pinned (fpC fr3) (T.obj _ _ st3)
    have again : ∀ {σ7 : St} {H7 : Hp} {s7 : Shared} {m' : Nat} {zs : List V}, Inv (compCx X scope cl (x :: fr) C s₀ H₀ fp) ([] ++ pinsAt fp s3.heap) σ7 H7 s7 → σ7 = cSt ix σ (some v) → m' < n → W (i + 1) m' zs H7 →
        ∃ m, m < n ∧ ∃ i ys o H', Inv (compCx X scope cl (x :: fr) C s₀ H₀ fp) [] (cSt ix σ o) H' s7 ∧ tn i s7.heap ∧ (∀ b ∈ fp, H' b = none) ∧ W i m ys H' := fun {σ7 H7 s7 m' zs} I7 e7 hm w7 => by
      subst e7
      refine ⟨m', hm, i + 1, zs, some v, H7, I7.unpinned, T.keep _ _ _ st3 fun b hb o e => (I7.pin (b, o) (List.mem_append_right _ (List.mem_append_right _ (mem_pinsAt hb e)))).1, fun b hb => ?_, w7⟩
      obtain ⟨o, e, d⟩ := T.obj _ _ st3 b hb
      exact (I7.pin (b, o) (List.mem_append_right _ (List.mem_append_right _ (mem_pinsAt hb e)))).2.1
    have hg := pg_name (X := compCx X scope cl (x :: fr) C s₀ H₀ fp) (i := 0) (x := x) (pos := px) S.nd rfl (.inl (lookup_relabel_local S.own)) (.inr (lookup_relabel_local S.own)) _ s3 _ H3 v u (fun σ' H' => σ' = cSt ix σ (some v) ∧ H' = H3) I3' r3 ⟨rfl, rfl⟩
    refine wpAny_bind (wpAny_mono hg (fun _ s4 ⟨σ4, H4, I4, e4, eH⟩ => ?_) fun _ _ z => z.elim)
    subst e4
    subst eH
    refine wpAny_bind (wpAny_mono (ht _ s4 _ H4 _ I4 (step v H4 y3)) (fun ok s5 ⟨H5, I5, q5⟩ => ?_) fun _ _ z => z.elim)
    cases ok with
    | false => exact wpAny_pure ⟨rfl, let ⟨m', hm, w7⟩ := hN _ _ q5; again I5 rfl hm w7⟩
    | true =>
      refine wpAny_bind (wpAny_bind (wpAny_mono (he _ s5 _ H5 _ I5 q5) (fun u6 s6 ⟨y, H6, I6, r6, hacc6, hl6, n6⟩ => ?_) fun _ _ z => z.elim))
      refine wpAny_bind (wpAny_mono (mt_append (X := compCx X scope cl (x :: fr) C s₀ H₀ fp) _ s6 _ H6 (.ref acc) [y] (.ref acc) [u6] (fun _ H' => H' = upd H6 acc (.lst (ys ++ [y]))) I6 rfl (.cons r6 .nil) ⟨acc, ys, y, rfl, rfl, hacc6, hl6, rfl⟩)
        (fun _ s7 ⟨_, H7, I7, _, e7⟩ => ?_) fun _ _ z => z.elim)
      subst e7
      obtain ⟨m', hm, w6⟩ := hN _ _ n6
      exact wpAny_pure (wpAny_pure ⟨rfl, again I7 rfl hm w6⟩)
/-- the block, from the new list on -/
theorem comp_run {E : Value → Shared → Prop} {R : Value → Addr → Result → Shared → Prop} {it : Addr} {tn : Nat → Heap → Prop} {J : It} {Q : Hp → Addr → Prop} (hc : X.calm = true) (S : CompScope X scope x fr ix)
    (ht : ∀ cl C s H fp, PIfs (compCx X scope cl (x :: fr) C s H fp) ifs tt) (he : ∀ cl C s H fp, PE (compCx X scope cl (x :: fr) C s H fp) elt te)
    (I : Inv X pins σ H s) (T : Turn X.prog X.w X.K (.Name x px) J fp it tn) (st : tn 0 s.heap) (hf : ∀ b ∈ fp, FpOk X pins H b)
    (h : ∀ acc, H acc = none → ∃ W : Nat → Nat → List V → Hp → Prop, (∃ m, W 0 m [] (upd H acc (.lst []))) ∧ LcW J tt te ix σ acc (fun H' => Q H' acc) W)
    (hR : ∀ acc C H' s', Inv X pins σ H' s' → Q H' acc → FpOk X pins H' C → (∃ m, s'.heap.Ns C m) → R (.ref acc) C (.ok .next) s') :
    wpAny (model X.prog X.w) X.A (newList []) (fun acc s₃ => wpAny (model X.prog X.w) X.A (newFunctionEnv scope X.env.globals (clOf X.env scope.names []) [] X.env.qual none .none (some X.env)) (fun cenv s₄ =>
      codeAny (model X.prog X.w) X.A (.compStart (.ListComp elt [⟨.Name x px, iter, ifs, 0⟩] scope pos) 0 (.ref it) acc { cenv with scope := relabel scope X.env }) (R acc cenv.locals) s₄) E s₃) E s := by
  refine wpAny_newObj_type (wpAny_newFunctionEnv S.cell (by intro y hy; simp at hy) (fun h₁ hns₁ hsb₁ => ?_) S.kind)
  dsimp only at hns₁ hsb₁ ⊢
  have I3 : Inv X pins σ (upd H s.heap.objs.size (.lst [])) { s with heap := s.heap.push { cls := .type "list", data := .seq ([] : List Value).toArray } } := I.lnew (ys := []) (t' := s.toks) .nil (Nat.zero_le _)
  have hlt0 : ∀ b ∈ fp, b < s.heap.objs.size := fun b hb => by
    obtain ⟨o, e, _⟩ := T.obj 0 s.heap st b hb
    exact Heap.lt_size e
  have hf3 : ∀ b ∈ fp, FpOk X pins (upd H s.heap.objs.size (.lst [])) b := fun b hb => ⟨by rw [upd_ne (Nat.ne_of_lt (hlt0 b hb))]; exact (hf b hb).1, (hf b hb).2⟩
  have hlt3 : ∀ b ∈ fp, b < (s.heap.push { cls := .type "list", data := .seq ([] : List Value).toArray }).objs.size := fun b hb => by
    rw [Heap.size_push]
    exact Nat.lt_succ_of_lt (hlt0 b hb)
  have hk1 : ∀ b o, (s.heap.push { cls := .type "list", data := .seq ([] : List Value).toArray }).get? b = some o → h₁.get? b = some o := fun b o e =>
    hsb₁.extBut b o (Nat.ne_of_lt (Heap.lt_size e)) (Heap.get?_push_of_some _ e)
  have st4 : tn 0 h₁ := T.keep 0 _ _ st fun b hb o e => hk1 b o (Heap.get?_push_of_some _ e)
  have J0 := comp_inv (tk := s.toks + ([] : List (Str × Value)).length) I3 S hf3 hlt3 hns₁ hk1
  obtain ⟨W, ⟨m0, w0⟩, turn⟩ := h s.heap.objs.size I.fresh
  have nst : ∀ b ∈ fp, b ∉ frs X.stack := fun b hb hs => by
    rcases List.mem_cons.mp (I.stkSub b hs) with e | e
    · exact (hf b hb).2.1 e
    · exact (hf b hb).2.2.1 e
  have loop : codeAny (model X.prog X.w) X.A (.compLoop (.ListComp elt [⟨.Name x px, iter, ifs, 0⟩] scope pos) 0 (.ref it) (.ref s.heap.objs.size) (compEnvC scope (clOf X.env scope.names []) (s.heap.push { cls := .type "list", data := .seq ([] : List Value).toArray }).objs.size X.env))
      (R (.ref s.heap.objs.size) (s.heap.push { cls := .type "list", data := .seq ([] : List Value).toArray }).objs.size) { s with heap := h₁, toks := s.toks + ([] : List (Str × Value)).length } := by
    refine comp_loop hc S (ht _ _ _ _ _) (he _ _ _ _ _) T (fun {H'} hn b hb => ⟨hn b hb, Nat.ne_of_lt (hlt3 b hb), nst b hb, .inl hb, fun y c e => (hf b hb).2.2.2.2.1 y c (S.sub I.ok e), fun p hp => absurd (show p ∈ ([] : List (Addr × Obj)) from hp) (by simp)⟩)
      turn (fun σ' H' s' J' q => ?_) m0 ⟨0, [], none, _, J0, st4, fun b hb => (hf3 b hb).1, w0⟩
    have I' : Inv X pins σ H' s' := comp_back I3 hf3 J'
    obtain ⟨m, hm, _⟩ := J'.loc
    exact hR _ _ H' s' I' q (I3.fpOk (Nat.le_refl _) J'.free) ⟨m, hm⟩
  exact codeAny_compStart_list loop (T.self X.A 0 _ _ _ st4 loop)

theorem pe_lc (hc : X.calm = true) (S : CompScope X scope x fr ix) (hi : PI X (.Name x px) iter wi)
    (ht : ∀ cl C s H fp, PIfs (compCx X scope cl (x :: fr) C s H fp) ifs tt) (he : ∀ cl C s H fp, PE (compCx X scope cl (x :: fr) C s H fp) elt te) (hs : ∀ x, foldedSetIterable iter X.env x = pure x := by intro _; rfl) :
    PE X (.ListComp elt [⟨.Name x px, iter, ifs, 0⟩] scope pos) (tLc wi tt te ix) := by
  intro pins s σ H Q I h
  rw [eval_ListComp]
  refine wpAny_comprehension_free (use := none) rfl hs (closure_of (S.cells I.ok)) S.kind S.names (thn (hi pins s σ H _ I h) fun v s1 h1 => thn h1 fun itv s2 h2 => ?_)
  obtain ⟨it, fp, tn, J, H2, e, I2, T, st2, f2, hW⟩ := h2
  subst e
  refine comp_run (Q := fun H' acc => Q (.ref acc) H') (R := fun acc C => compPost (model X.prog X.w) X.A X.xe none (EP X pins σ Q) acc C) hc S ht he I2 T st2 f2 hW ?_
  intro acc C H' s' I' q fC ⟨m, hm⟩
  refine ⟨m, hm, fun h' hs' => ?_⟩
  exact ⟨.ref acc, H', I'.turned (t' := s'.toks) (fun b o hb e => (hs'.2 b hb).trans e) fC.1 fC.2.1 fC.2.2.2.1 fC.2.2.2.2.1 fC.2.2.2.2.2, rfl, q⟩
/-- name = [..] on one line -/
theorem ps_setLc {i : Nat} {y : Str} {py spos : Pos} (hN : X.N.Nodup) (hi' : X.N[i]? = some y) (hx : Loc X.env.scope y) (hc : X.calm = true) (S : CompScope X scope x fr ix) (hi : PI X (.Name x px) iter wi)
    (ht : ∀ cl C s H fp, PIfs (compCx X scope cl (x :: fr) C s H fp) ifs tt) (he : ∀ cl C s H fp, PE (compCx X scope cl (x :: fr) C s H fp) elt te)
    (hsw : swapsWith (.ListComp elt [⟨.Name x px, iter, ifs, 0⟩] scope pos) (some (.Name y py)) spos.line X.env = pure true := by rfl) (hs : ∀ x, foldedSetIterable iter X.env x = pure x := by intro _; rfl)
    (hf : X.fn y = true ∨ X.env.scope.names.lookup y = some .local := by first | exact .inl rfl | exact .inr rfl | assumption) :
    PS X (.Assign [.Name y py] (.ListComp elt [⟨.Name x px, iter, ifs, 0⟩] scope pos) spos) (tAsg (tLc wi tt te ix) (gName i)) := by
  intro pins s σ H D I h
  rw [exec_Assign_Name_used _ _ _ _ hsw]
  refine wpAny_bind (wpAny_standAt (wpAny_bind ?_))
  show wpAny _ _ (do let _ ← comprehension (.ListComp elt [⟨.Name x px, iter, ifs, 0⟩] scope pos) scope X.env _ (newList []) false (eval iter X.env) (some (assign (.Name y py) X.env))) _ _ s
  refine wpAny_bind (wpAny_mono (wpAny_comprehension_free (use := some (assign (.Name y py) X.env)) (Q := fun _ s' => SP X pins D .next s') rfl hs (closure_of (S.cells I.ok)) S.kind S.names
    (thn (hi pins s σ H _ I h) fun v s1 h1 => thn h1 fun itv s2 h2 => ?_)) (fun _ s' hq => wpAny_pure (wpAny_pure hq)) fun _ _ e => e)
  obtain ⟨it, fp, tn, J, H2, e, I2, T, st2, f2, hW⟩ := h2
  subst e
  refine comp_run (Q := fun H' acc => D.nx (σ.set i (some (.ref acc))) H') (R := fun acc C => compPost (model X.prog X.w) X.A X.xe (some (assign (.Name y py) X.env)) (fun _ s' => SP X pins D .next s') acc C) hc S ht he I2 T st2 f2 hW ?_
  intro acc C H' s' I' q fC ⟨m, hm⟩
  show wpAny _ _ (assign (.Name y py) X.env (.ref acc)) _ _ s'
  refine wpAny_assign_Name (store_ok2 I' hN hi' hx (v := .ref acc) rfl (fun s2 I2 ⟨a, sb, ha⟩ => ?_) hf)
  have hCa : C ≠ a := by
    rcases ha with e | e
    · rw [e]; exact fC.2.1
    · exact (fC.2.2.2.2.1 _ _ e).symm
  refine ⟨m, hm.sameBut sb hCa, fun h' hs' => ?_⟩
  exact ⟨_, H', I2.turned (t' := s2.toks) (fun b o hb e => (hs'.2 b hb).trans e) fC.1 fC.2.1 fC.2.2.2.1 fC.2.2.2.2.1 fC.2.2.2.2.2, q⟩
end

/-! ### the forms one uses -/
theorem lc_range {lo : Int} {n : Nat} {tt : TT} {te : TE} {ix : List Nat} {σ : St} {acc : Addr} {Q : Hp → Prop} {H : Hp} (Pv : Nat → List V → Hp → Prop) (h0 : Pv 0 [] (upd H acc (.lst []))) (hl : ∀ i ys H, i ≤ n → Pv i ys H → H acc = some (.lst ys))
    (hs : ∀ i ys H, i < n → Pv i ys H → tt (cSt ix σ (some (.int (lo + i)))) H fun b H2 => if b = true then te (cSt ix σ (some (.int (lo + i)))) H2 fun y H3 => H3 acc = some (.lst ys) ∧ ys.length < sizeLine ∧ Pv (i + 1) (ys ++ [y]) (upd H3 acc (.lst (ys ++ [y]))) else Pv (i + 1) ys H2)
    (hd : ∀ ys H, Pv n ys H → Q H) : ∃ W : Nat → Nat → List V → Hp → Prop, (∃ m, W 0 m [] (upd H acc (.lst []))) ∧ LcW (Itr lo n) tt te ix σ acc Q W := by
  refine ⟨fun i m ys H => m = n - i ∧ i ≤ n ∧ Pv i ys H, ⟨n, by simp, Nat.zero_le _, h0⟩, ?_⟩
  rintro i m ys H ⟨rfl, hi, p⟩
  refine ⟨hl i ys H hi p, ?_⟩
  by_cases hlt : i < n
  · refine .inr ⟨hlt, Pv (i + 1), fun ys' H' p' => ⟨n - (i + 1), by omega, rfl, hlt, p'⟩, fun x H' y => ?_⟩
    obtain ⟨e, y⟩ := y
    subst e y
    exact hs i ys _ hlt p
  · have e : i = n := by omega
    subst e
    exact .inl ⟨Nat.le_refl _, hd ys H p⟩
theorem lc_list {K : PySem.W.Frag} {a : Addr} {xs : List V} {tt : TT} {te : TE} {ix : List Nat} {σ : St} {acc : Addr} {Q : Hp → Prop} {H : Hp} (Pv : Nat → List V → Hp → Prop) (h0 : Pv 0 [] (upd H acc (.lst []))) (hl : ∀ i ys H, i ≤ xs.length → Pv i ys H → H acc = some (.lst ys) ∧ SqL K H a xs)
    (hs : ∀ i x ys H, xs[i]? = some x → Pv i ys H → tt (cSt ix σ (some x)) H fun b H2 => if b = true then te (cSt ix σ (some x)) H2 fun y H3 => H3 acc = some (.lst ys) ∧ ys.length < sizeLine ∧ Pv (i + 1) (ys ++ [y]) (upd H3 acc (.lst (ys ++ [y]))) else Pv (i + 1) ys H2)
    (hd : ∀ ys H, Pv xs.length ys H → Q H) : ∃ W : Nat → Nat → List V → Hp → Prop, (∃ m, W 0 m [] (upd H acc (.lst []))) ∧ LcW (Itl K a) tt te ix σ acc Q W := by
  refine ⟨fun i m ys H => m = xs.length - i ∧ i ≤ xs.length ∧ Pv i ys H, ⟨xs.length, by simp, Nat.zero_le _, h0⟩, ?_⟩
  rintro i m ys H ⟨rfl, hi, p⟩
  obtain ⟨h1, q⟩ := hl i ys H hi p
  refine ⟨h1, ?_⟩
  by_cases hlt : i < xs.length
  · refine .inr ⟨⟨xs, xs[i], q, by simp [hlt]⟩, Pv (i + 1), fun ys' H' p' => ⟨xs.length - (i + 1), by omega, rfl, hlt, p'⟩, fun x H' y => ?_⟩
    obtain ⟨e, y⟩ := y
    subst e
    exact hs i x ys _ (y xs q) p
  · have e : i = xs.length := by omega
    subst e
    exact .inl ⟨⟨xs, q, Nat.le_refl _⟩, hd ys H p⟩
theorem lc_range0 {lo : Int} {n : Nat} {te : TE} {ix : List Nat} {σ : St} {acc : Addr} {Q : Hp → Prop} {H : Hp} (Pv : Nat → List V → Hp → Prop) (h0 : Pv 0 [] (upd H acc (.lst []))) (hl : ∀ i ys H, i ≤ n → Pv i ys H → H acc = some (.lst ys))
    (hs : ∀ i ys H, i < n → Pv i ys H → te (cSt ix σ (some (.int (lo + i)))) H fun y H3 => H3 acc = some (.lst ys) ∧ ys.length < sizeLine ∧ Pv (i + 1) (ys ++ [y]) (upd H3 acc (.lst (ys ++ [y]))))
    (hd : ∀ ys H, Pv n ys H → Q H) : ∃ W : Nat → Nat → List V → Hp → Prop, (∃ m, W 0 m [] (upd H acc (.lst []))) ∧ LcW (Itr lo n) tTrue te ix σ acc Q W :=
  lc_range Pv h0 hl (fun i ys H hi p => by
    unfold tTrue
    dsimp only
    rw [if_pos rfl]
    exact hs i ys H hi p) hd
theorem lc_list0 {K : PySem.W.Frag} {a : Addr} {xs : List V} {te : TE} {ix : List Nat} {σ : St} {acc : Addr} {Q : Hp → Prop} {H : Hp} (Pv : Nat → List V → Hp → Prop) (h0 : Pv 0 [] (upd H acc (.lst []))) (hl : ∀ i ys H, i ≤ xs.length → Pv i ys H → H acc = some (.lst ys) ∧ SqL K H a xs)
    (hs : ∀ i x ys H, xs[i]? = some x → Pv i ys H → te (cSt ix σ (some x)) H fun y H3 => H3 acc = some (.lst ys) ∧ ys.length < sizeLine ∧ Pv (i + 1) (ys ++ [y]) (upd H3 acc (.lst (ys ++ [y]))))
    (hd : ∀ ys H, Pv xs.length ys H → Q H) : ∃ W : Nat → Nat → List V → Hp → Prop, (∃ m, W 0 m [] (upd H acc (.lst []))) ∧ LcW (Itl K a) tTrue te ix σ acc Q W :=
  lc_list Pv h0 hl (fun i x ys H hi p => by
    unfold tTrue
    dsimp only
    rw [if_pos rfl]
    exact hs i x ys H hi p) hd
end L2

set_option Elab.async false
set_option linter.all false
set_option maxRecDepth 100000
set_option maxHeartbeats 4000000
/-! More own rules: lists compared, list(range(n)), min of a list, a consequence rule. -/
namespace L2
open PySem PySem.Spec PyProof.Rows
theorem pss_imp {X : Cx} {sts : List Stmt} {t t' : TS} (h : PSs X sts t) (hi : ∀ D σ H, t' D σ H → t D σ H) : PSs X sts t' := fun pins s σ H D I hw => h pins s σ H D I (hi D σ H hw)
theorem vals_int_at {ns : List Int} {its : List Value} (r : Vals (ns.map V.int) its) {j : Nat} (h : j < its.length) (h' : j < ns.length) : ∃ t, its[j] = Value.int ns[j] t := by
  obtain ⟨u, hu, ru⟩ := r.get (i := j) (x := V.int ns[j]) (by simp [h'])
  obtain ⟨t, rfl⟩ := ru
  exact ⟨t, by have := (List.getElem?_eq_some_iff.mp hu).2; exact this⟩
theorem all_range_eq {ns ms : List Int} (h : ns.length = ms.length) : ((List.range ns.length).all fun j => ns.getD j 0 == ms.getD j 0) = decide (ns = ms) := by
  by_cases e : ns = ms
  · subst e
    simp
  · rw [decide_eq_false e]
    by_cases q : ((List.range ns.length).all fun j => ns.getD j 0 == ms.getD j 0) = true
    · exfalso
      refine e (List.ext_getElem h fun i h1 h2 => ?_)
      rw [List.all_eq_true] at q
      have := q i (List.mem_range.mpr h1)
      simpa [h1, h2] using this
    · simpa using q
section
variable {X : Cx}
/-- two lists of ints -/
def rEqL (K : PySem.W.Frag) : R2 := fun x y H Q => ∃ (a b : Addr) (ns ms : List Int), x = .ref a ∧ y = .ref b ∧ SqL K H a (ns.map V.int) ∧ SqL K H b (ms.map V.int) ∧ Q (.bl (decide (ns = ms))) H
def rNeL (K : PySem.W.Frag) : R2 := fun x y H Q => ∃ (a b : Addr) (ns ms : List Int), x = .ref a ∧ y = .ref b ∧ SqL K H a (ns.map V.int) ∧ SqL K H b (ms.map V.int) ∧ Q (.bl (!decide (ns = ms))) H
theorem op_eqL (hu : X.A.units < cLine) : OpR X (compareOp .Eq) (rEqL X.K) := by
  intro pins s σ H x y v u Q I rx ry h
  obtain ⟨a, b, ns, ms, rfl, rfl, h1, h2, q⟩ := h
  cases rx
  cases ry
  obtain ⟨i1, r1, p1, _⟩ := I.list h1
  obtain ⟨i2, r2, p2, _⟩ := I.list h2
  have l1 := r1.length
  have l2 := r2.length
  rw [List.length_map] at l1 l2
  by_cases e : ns.length = ms.length
  · refine SeqAt.eq_listAt (e := fun j => ns.getD j 0 == ms.getD j 0) p1.isList p2.isList (by simp; omega) hu (fun j g1 g2 => ?_) ⟨.bl _, H, I, rfl, ?_⟩
    · rw [List.size_toArray] at g1 g2
      obtain ⟨t, e1⟩ := vals_int_at r1 g1 (by omega)
      obtain ⟨t', e2⟩ := vals_int_at r2 g2 (by omega)
      have z1 : i1.toArray[j] = Value.int ns[j] t := by rw [← e1]; simp
      have z2 : i2.toArray[j] = Value.int ms[j] t' := by rw [← e2]; simp
      rw [z1, z2]
      have w : (ns.getD j 0 == ms.getD j 0) = (ns[j] == ms[j]) := by simp [show j < ns.length by omega, show j < ms.length by omega]
      rw [w]
      exact SeqAt.EqAt.int_int _ _ _ _
    · rw [List.size_toArray, ← l1, all_range_eq e]
      exact q
  · refine SeqAt.eq_list_lengthsAt p1.isList p2.isList (by simp; omega) hu ⟨.bl false, H, I, rfl, ?_⟩
    rw [decide_eq_false (fun z => e (by rw [z]))] at q
    exact q
theorem op_neL (hu : X.A.units < cLine) : OpR X (compareOp .NotEq) (rNeL X.K) := by
  intro pins s σ H x y v u Q I rx ry h
  obtain ⟨a, b, ns, ms, rfl, rfl, h1, h2, q⟩ := h
  cases rx
  cases ry
  obtain ⟨i1, r1, p1, _⟩ := I.list h1
  obtain ⟨i2, r2, p2, _⟩ := I.list h2
  have l1 := r1.length
  have l2 := r2.length
  rw [List.length_map] at l1 l2
  by_cases e : ns.length = ms.length
  · refine PySem.EqBoolInt.of_rcne (SeqAt.RcNeAt.lists (e := fun j => ns.getD j 0 == ms.getD j 0) p1.isList p2.isList (by simp; omega) hu (fun j g1 g2 => ?_)) ⟨.bl _, H, I, rfl, ?_⟩
    · rw [List.size_toArray] at g1 g2
      obtain ⟨t, e1⟩ := vals_int_at r1 g1 (by omega)
      obtain ⟨t', e2⟩ := vals_int_at r2 g2 (by omega)
      have z1 : i1.toArray[j] = Value.int ns[j] t := by rw [← e1]; simp
      have z2 : i2.toArray[j] = Value.int ms[j] t' := by rw [← e2]; simp
      rw [z1, z2]
      have w : (ns.getD j 0 == ms.getD j 0) = (ns[j] == ms[j]) := by simp [show j < ns.length by omega, show j < ms.length by omega]
      rw [w]
      exact SeqAt.EqAt.int_int _ _ _ _
    · rw [List.size_toArray, ← l1, all_range_eq e]
      exact q
  · refine PySem.EqBoolInt.of_rcne (SeqAt.RcNeAt.lists_lengths p1.isList p2.isList (by simp; omega) hu) ⟨.bl true, H, I, rfl, ?_⟩
    rw [decide_eq_false (fun z => e (by rw [z]))] at q
    exact q
/-- a list against the empty one -/
def rEqNil (K : PySem.W.Frag) : R2 := fun x y H Q => ∃ (a b : Addr) (xs : List V), x = .ref a ∧ y = .ref b ∧ SqL K H a xs ∧ SqL K H b [] ∧ Q (.bl xs.isEmpty) H
def rNeNil (K : PySem.W.Frag) : R2 := fun x y H Q => ∃ (a b : Addr) (xs : List V), x = .ref a ∧ y = .ref b ∧ SqL K H a xs ∧ SqL K H b [] ∧ Q (.bl (!xs.isEmpty)) H
theorem op_eqNil (hu : X.A.units < cLine) : OpR X (compareOp .Eq) (rEqNil X.K) := by
  intro pins s σ H x y v u Q I rx ry h
  obtain ⟨a, b, xs, rfl, rfl, h1, h2, q⟩ := h
  cases rx
  cases ry
  obtain ⟨i1, r1, p1, _⟩ := I.list h1
  obtain ⟨i2, r2, p2, _⟩ := I.list h2
  have l1 := r1.length
  cases r2
  cases xs with
  | nil =>
    cases r1
    refine SeqAt.eq_listAt (e := fun _ => true) p1.isList p2.isList rfl hu (fun j g1 _ => absurd g1 (by simp)) ⟨.bl true, H, I, rfl, q⟩
  | cons x0 xr => exact SeqAt.eq_list_lengthsAt p1.isList p2.isList (by rw [List.size_toArray, ← l1]; simp) hu ⟨.bl false, H, I, rfl, q⟩
theorem op_neNil (hu : X.A.units < cLine) : OpR X (compareOp .NotEq) (rNeNil X.K) := by
  intro pins s σ H x y v u Q I rx ry h
  obtain ⟨a, b, xs, rfl, rfl, h1, h2, q⟩ := h
  cases rx
  cases ry
  obtain ⟨i1, r1, p1, _⟩ := I.list h1
  obtain ⟨i2, r2, p2, _⟩ := I.list h2
  have l1 := r1.length
  cases r2
  cases xs with
  | nil =>
    cases r1
    refine PySem.EqBoolInt.of_rcne (SeqAt.RcNeAt.lists (e := fun _ => true) p1.isList p2.isList rfl hu (fun j g1 _ => absurd g1 (by simp))) ⟨.bl false, H, I, rfl, q⟩
  | cons x0 xr => exact PySem.EqBoolInt.of_rcne (SeqAt.RcNeAt.lists_lengths p1.isList p2.isList (by rw [List.size_toArray, ← l1]; simp) hu) ⟨.bl true, H, I, rfl, q⟩
/-- range(e) as a value -/
def tRng1 (ta : TA) : TE := fun σ H Q => ta σ H fun vs H1 => ∃ j : Int, vs = [.int j] ∧ ∀ p, H1 p = none → Q (.ref p) (upd H1 p (.rng 0 j))
theorem pe_range1 {a : Expr} {ta : TA} {p pos : Pos} (hg : Gl X "range") (hm : X.mg "range" = none) (ha : PA X [a] ta) (hs : starEach [a] X.env = [(false, eval a X.env)] := by rfl) : PE X (.Call (.Name "range" p) [a] [] pos) (tRng1 ta) := by
  intro pins s σ H Q I h
  refine Call_ (ld_blt I hg hm boot_range (PyProof.Rows.callWith_type1 (thn (ha pos pins s σ H _ I h) fun us s1 ⟨vs, H1, I1, r1, q1⟩ => ?_) hs rfl))
  obtain ⟨j, e, q⟩ := q1
  subst e
  cases r1 with
  | cons r rr =>
    cases rr
    obtain ⟨t, rfl⟩ := r
    refine call_range_1 ?_
    exact ⟨.ref s1.heap.objs.size, _, I1.laid (o := .rng 0 j) (fun b ob q => Heap.get?_push_of_some _ q) (Nat.le_refl _) ⟨_, _, _, Heap.get?_push_size _ rfl⟩, rfl, q _ I1.fresh⟩
/-- the ints of a range from nought -/
def upTo (n : Nat) : List Int := (List.range n).map fun i : Nat => (i : Int)
theorem upTo_length (n : Nat) : (upTo n).length = n := by simp [upTo]
theorem vals_upTo {its : List Value} {n : Nat} (hl : its.length = n) (h : ∀ i (hi : i < its.length), ∃ t, its[i] = Value.int (i : Int) t) : Vals ((upTo n).map V.int) its := by
  have key : ∀ (k : Nat) (l : List Value), (∀ i (hi : i < l.length), ∃ t, l[i] = Value.int ((k + i : Nat) : Int) t) → Vals (((List.range l.length).map fun i : Nat => ((k + i : Nat) : Int)).map V.int) l := by
    intro k l
    induction l generalizing k with
    | nil => intro _; exact .nil
    | cons u l ih =>
      intro h
      rw [List.length_cons, List.range_succ_eq_map]
      obtain ⟨t, e⟩ := h 0 (by simp)
      refine .cons ⟨t, by simpa using e⟩ ?_
      have := ih (k + 1) fun i hi => by
        obtain ⟨t, e⟩ := h (i + 1) (by simpa using hi)
        exact ⟨t, by rw [show k + 1 + i = k + (i + 1) by omega]; simpa using e⟩
      simpa [List.map_map, Function.comp_def, Nat.add_assoc, Nat.add_comm 1] using this
  have := key 0 its fun i hi => by
    obtain ⟨t, e⟩ := h i hi
    exact ⟨t, by rw [Nat.zero_add]; exact e⟩
  rw [hl] at this
  simpa [upTo] using this
/-- list(range(n)) -/
theorem call_list_rng (hc : X.calm = true) : CallR X (.type "list") (fun xs H Q => ∃ (p : Addr) (n : Nat), xs = [.ref p] ∧ H p = some (.rng 0 (n : Int)) ∧ n ≤ 1000 ∧ ∀ l, H l = none → Q (.ref l) (upd H l (.lst ((upTo n).map V.int)))) := by
  intro pins s σ H xs us Q I r h
  obtain ⟨p, n, rfl, hp, hn, q⟩ := h
  obtain ⟨u, rfl, rx⟩ := vals1 r
  cases rx
  obtain ⟨t, t', t'', e⟩ := (show ObjOk X.prog X.w H s.heap p (.rng 0 (n : Int)) from I.hok p _ hp)
  refine call_list_range (n := n) (I.ok.hd hc) e (small_one (by omega) (by omega) (by omega) (by omega)) (by rw [rangeSize_one]; split <;> omega) (Nat.le_trans hn (by decide)) fun h' tk acc' c' kp e' it => ?_
  have hv : Vals ((upTo n).map V.int) acc'.toList := by
    obtain ⟨hsz, hi⟩ := it
    refine vals_upTo (by simpa using hsz) fun i hi' => ?_
    have hi2 : i < acc'.size := by simpa using hi'
    obtain ⟨t, e⟩ := hi i _ (by rw [Array.getElem?_eq_getElem hi2])
    refine ⟨t, ?_⟩
    rw [Array.getElem_toList, e]
    simp
  refine ⟨.ref s.heap.objs.size, _, I.laid (t' := tk) (o := .lst ((upTo n).map V.int)) kp (Nat.le_refl _) ⟨by rw [List.length_map, upTo_length]; exact Nat.le_of_lt (small1000 hn), acc'.toList, c', hv, by simpa using e'⟩, rfl, q _ I.fresh⟩
/-- min(xs) of a list of ints -/
theorem call_minL (hc : X.calm = true) : CallR X (.builtin "min") (fun xs H Q => ∃ (a : Addr) (ns : List Int), xs = [.ref a] ∧ SqL X.K H a (ns.map V.int) ∧ 0 < ns.length ∧ ∀ M : Int, M ∈ ns → (∀ z ∈ ns, M ≤ z) → Q (.int M) H) := by
  intro pins s σ H xs us Q I r h
  obtain ⟨a, ns, rfl, hs, hne, q⟩ := h
  obtain ⟨u, rfl, rx⟩ := vals1 r
  cases rx
  obtain ⟨its, rv, pl, _⟩ := I.list hs
  have hi := intsAre_of rv
  obtain ⟨xs, e⟩ := hi.allInts.items
  have hns : ns = xs.toList.map (·.1) := by
    rw [← hi.numsOf, ← nums_intItems, ← e]
  have hsz : 0 < xs.size := by
    have h3 := hne
    rw [hns, List.length_map, Array.length_toList] at h3
    exact h3
  have hl := pl.isList
  rw [e] at hl
  refine min_intList (I.ok.hd hc) hl hsz fun v h' tk hv hk => ?_
  obtain ⟨t, rfl⟩ := intItems_at hv
  obtain ⟨h1, h2⟩ := argBest_lt (numAt xs) (xs.size - 1)
  refine ⟨.int _, H, I.kept hk, ⟨t, rfl⟩, q _ ?_ fun z hz => ?_⟩
  · rw [hns, numAt_eq]
    exact PySem.getD_mem (by rw [List.length_map, Array.length_toList]; omega)
  · rw [hns] at hz
    obtain ⟨j, hj, rfl⟩ := mem_getD hz
    rw [List.length_map, Array.length_toList] at hj
    rw [← numAt_eq]
    exact h2 j (by omega)
end
end L2

set_option Elab.async false
set_option linter.all false
set_option maxRecDepth 100000
set_option maxHeartbeats 4000000
/-! list(reversed(xs)) -/
namespace L2
open PySem PySem.Spec PyProof.Rows
theorem lri_len : typeLookup (.type "list_reverseiterator") "__len__" = pure none := by rw [typeLookup_type, builtinLookup_eq_fast]; kernel_rfl
theorem lri_hint : typeLookup (.type "list_reverseiterator") "__length_hint__" = pure (some (.builtin "list_reverseiterator.__length_hint__")) := by rw [typeLookup_type, builtinLookup_eq_fast]; kernel_rfl
section
variable {prog : Program} {w : World} {A : Around} {E : Value → Shared → Prop} {s : Shared}
theorem extend_rev {R : Result → Shared → Prop} (hh : A.handled = none) {it l : Addr} {items : Array Value} (hit : s.heap.IsRevIter it l ((items.size : Int) - 1)) (hl : s.heap.IsList l items) (hil : l ≠ it) (S : Addr) (hSl : S ≠ l) (hSi : S ≠ it) (res : Value) (c₀ : Nat) (hS : s.heap.get? S = some { cls := .type "list", data := .seq #[] c₀ })
    (hR : ∀ h' tk acc' c', (∀ b o, b ≠ S → b ≠ it → s.heap.get? b = some o → h'.get? b = some o) → h'.get? S = some { cls := .type "list", dict := none, data := .seq acc' c', slots := #[] } →
      ItemsOf (fun i v => items[items.size - 1 - i]? = some v) acc' items.size → R (.ok (.ret res)) { s with heap := h', toks := tk }) (hn : items.size ≤ sizeLine) :
    wpAny (model prog w) A.in1 (Builtin.List.listExtendWith (.ref S) (.ref it) res)
      (fun fin s' => match fin with | .done f => R (.ok f) s' | .again c' => c'.quiet = true ∧ codeAny (model prog w) A c' R s') (fun e s' => R (.error e) s') s := by
  have hSf : S ∉ [it, l] := fun hm => by
    rcases List.mem_cons.mp hm with e | e
    · exact hSi e
    · exact hSl (List.mem_singleton.mp e)
  unfold Builtin.List.listExtendWith
  refine wpAny_bind (wpAny_typeOf (T := "list_reverseiterator") hit.typeIs ?_)
  have h1 : Builtin.List.listSameRef (.ref S) (.ref it) = false := by simp [Builtin.List.listSameRef, hSi]
  have h2 : (Value.type "list_reverseiterator" == Value.type "list") = false := by decide
  have h3 : (Value.type "list_reverseiterator" == Value.type "tuple") = false := by decide
  simp only [h1, h2, h3, Bool.or_false, Bool.false_eq_true, if_false]
  refine wpAny_bind (wpAny_pyIter_revIter hit ?_)
  refine wpAny_bind (wpAny_holding ?_)
  unfold Builtin.List.listLengthHint
  refine wpAny_bind (wpAny_specialOf (T := "list_reverseiterator") hit.typeIs lri_len ?_)
  show wpAny _ _ (specialOf (.ref it) "__length_hint__" >>= _) _ _ s
  refine wpAny_bind (wpAny_specialOf (T := "list_reverseiterator") hit.typeIs lri_hint ?_)
  generalize hid : ("list_reverseiterator.__length_hint__" : String) = id0
  wp_delta
  rw [show splitId id0 = some ("list_reverseiterator", "__length_hint__") from by subst hid; decide +kernel]
  subst hid
  refine wpAny_bind (wpAny_isInstance (T := "list_reverseiterator") (b := true) hit.typeIs (by rw [isSubtype_type]; kernel_rfl) ?_)
  refine wpAny_ite_split (fun hab => absurd hab (by decide)) (fun _ => ?_)
  refine wpAny_ite_split (fun _ => ?_) (fun hab => absurd (by decide +kernel) hab)
  refine wpAny_ite_split (fun hab => absurd hab (by decide)) (fun _ => ?_)
  refine wpAny_pure ?_
  rw [if_neg (by decide)]
  have W := (Walks.listRev (prog := prog) (w := w) (A := A.in1) hh it l hil items).toS
  refine wpAny_pure ⟨plainId_quiet F.plain_extend_loop _, codeAny_extend_loopS W hn _ hSf _ items.size 0 _ _ _ rfl (Nat.zero_le _) ⟨Nat.zero_le _, by simpa using hit, hl⟩ hS (ItemsOf.nil _) fun s' acc' c' hm hS' hacc => ?_⟩
  rw [Moved.eq_with hm]
  refine hR s'.heap s'.toks acc' c' (fun b ob hb hbi e => hm.heap b ob (fun hmem => ?_) e) hS' hacc
  rcases List.mem_cons.mp hmem with e' | hmem
  · exact hb e'
  · exact hbi (List.mem_singleton.mp hmem)
theorem call_list_rev {Q : Value → Shared → Prop} {it l : Addr} {items : Array Value} (hh : A.handled = none) (hit : s.heap.IsRevIter it l ((items.size : Int) - 1)) (hl : s.heap.IsList l items) (hil : l ≠ it) (hn : items.size ≤ sizeLine)
    (hQ : ∀ h' tk acc' c', (∀ b o, b ≠ it → s.heap.get? b = some o → h'.get? b = some o) →
      h'.get? s.heap.objs.size = some { cls := .type "list", dict := none, data := .seq acc' c', slots := #[] } → ItemsOf (fun i v => items[items.size - 1 - i]? = some v) acc' items.size → Q (.ref s.heap.objs.size) { s with heap := h', toks := tk }) :
    wpAny (model prog w) A (call (.type "list") [.ref it]) Q E s := by
  refine callType_codes (Q₁ := fun obj s₁ => obj = .ref s.heap.objs.size ∧ s₁ = { s with heap := s.heap.push { cls := .type "list", data := .seq #[] } }) F.called_list (F.typeCall_list_1 _) F.entry_list_init
    (code_list_new _ ⟨rfl, rfl⟩) fun obj s₁ h₁ => ?_
  obtain ⟨rfl, rfl⟩ := h₁
  have hS : (s.heap.push { cls := .type "list", data := .seq #[] }).get? s.heap.objs.size = some { cls := .type "list", data := .seq #[] } := Heap.get?_push_size _ rfl
  obtain ⟨oi, hoi, hoi'⟩ := id hit
  obtain ⟨ol, hol, hol'⟩ := id hl
  have hSi : s.heap.objs.size ≠ it := Nat.ne_of_gt (Heap.lt_size hoi)
  have hSl : s.heap.objs.size ≠ l := Nat.ne_of_gt (Heap.lt_size hol)
  refine ⟨⟨_, hS, rfl⟩, F.args_list_init_2 _ _, ?_⟩
  show wpAny _ _ (do let old ← Builtin.List.listItems (.ref s.heap.objs.size); Builtin.List.listUpdate (.ref s.heap.objs.size) (fun _ => #[]); letGo old.toList.reverse; Builtin.List.listExtendWith (.ref s.heap.objs.size) (.ref it) .none) _ _ _
  refine wpAny_bind ?_
  unfold Builtin.List.listItems
  refine wpAny_bind (wpAny_seqItems hS rfl (wpAny_pure ?_))
  show wpAny _ _ (updateSeq s.heap.objs.size (fun _ => #[]) >>= fun _ => letGo (#[] : Array Value).toList.reverse >>= fun _ => Builtin.List.listExtendWith (.ref s.heap.objs.size) (.ref it) .none) _ _ _
  refine wpAny_bind (wpAny_updateSeq hS rfl ?_)
  have hS₂ := Heap.get?_update_self (Obj.mapSeq (fun _ => (#[] : Array Value))) hS rfl
  have oth : ∀ b o, b ≠ s.heap.objs.size → s.heap.get? b = some o → ((s.heap.push { cls := .type "list", data := .seq #[] }).update s.heap.objs.size (Obj.mapSeq (fun _ => (#[] : Array Value)))).get? b = some o :=
    fun b o hb e => (Heap.get?_update_other _ _ (Ne.symm hb)).trans (Heap.get?_push_of_some _ e)
  refine wpAny_bind (wpAny_letGo ?_)
  refine extend_rev (A := A.in1) (s := { s with heap := ((s.heap.push { cls := .type "list", data := .seq #[] }).update s.heap.objs.size (Obj.mapSeq (fun _ => (#[] : Array Value)))) }) hh ⟨oi, oth it oi hSi.symm hoi, hoi'⟩ ⟨ol, oth l ol hSl.symm hol, hol'⟩ hil _ hSl hSi .none _ (by exact hS₂) (fun h' tk acc' c' hk hS' hacc => ?_) hn
  exact ⟨rfl, hQ h' tk acc' c' (fun b o hb e => hk b o (Nat.ne_of_lt (Heap.lt_size e)) hb (oth b o (Nat.ne_of_lt (Heap.lt_size e)) e)) hS' hacc⟩
end
section
variable {X : Cx}
/-- list(reversed(xs)), the two calls in one -/
def tLstRev (K : PySem.W.Frag) (ta : TA) : TE := fun σ H Q => ta σ H fun vs H1 => ∃ (a : Addr) (xs : List V), vs = [.ref a] ∧ SqL K H1 a xs ∧ ∀ l, H1 l = none → Q (.ref l) (upd H1 l (.lst xs.reverse))
theorem rev_vals {xs : List V} {its : List Value} (r : Vals xs its) {acc : Array Value} (h : ItemsOf (fun i v => its.toArray[its.toArray.size - 1 - i]? = some v) acc its.toArray.size) : Vals xs.reverse acc.toList := by
  have e : acc.toList = its.reverse := by
    obtain ⟨hs, hi⟩ := h
    refine List.ext_getElem (by simp at hs ⊢; omega) fun i h1 h2 => ?_
    have hi' : i < acc.size := by simpa using h1
    have := hi i acc[i] (by rw [Array.getElem?_eq_getElem hi'])
    rw [List.size_toArray] at this
    rw [Array.getElem_toList, List.getElem_reverse]
    have h3 : its.length - 1 - i < its.length := by simp at hs; omega
    rw [Array.getElem?_eq_getElem (by simpa using h3)] at this
    have := Option.some.inj this
    rw [← this]
    simp
  rw [e]
  exact r.reverse
theorem pe_lstrev {e : Expr} {ta : TA} {p p2 pos pos2 : Pos} (hc : X.calm = true) (hg : Gl X "list") (hm : X.mg "list" = none) (hg2 : Gl X "reversed") (hm2 : X.mg "reversed" = none) (ha : PA X [e] ta)
    (hs : starEach [e] X.env = [(false, eval e X.env)] := by rfl)
    (hs2 : starEach [.Call (.Name "reversed" p2) [e] [] pos2] X.env = [(false, eval (.Call (.Name "reversed" p2) [e] [] pos2) X.env)] := by rfl) :
    PE X (.Call (.Name "list" p) [.Call (.Name "reversed" p2) [e] [] pos2] [] pos) (tLstRev X.K ta) := by
  intro pins s σ H Q I h
  have inner : wpAny (model X.prog X.w) X.A (eval (.Call (.Name "reversed" p2) [e] [] pos2) X.env) (fun v s2 => ∃ (it a : Addr) (xs : List V) (its : List Value) (H1 : Hp), v = .ref it ∧ Inv X pins σ H1 s2 ∧ FpOk X pins H1 it ∧ a ≠ it ∧ Vals xs its ∧ xs.length ≤ sizeLine ∧ s2.heap.IsList a its.toArray ∧ s2.heap.IsRevIter it a ((its.toArray.size : Int) - 1) ∧ ∀ l, H1 l = none → Q (.ref l) (upd H1 l (.lst xs.reverse))) X.xe s := by
    refine Call_ (ld_blt I hg2 hm2 boot_reversed (PyProof.Rows.callWith_type1 (thn (ha pos2 pins s σ H _ I h) fun us s1 ⟨vs, H1, I1, r1, q1⟩ => ?_) hs rfl))
    obtain ⟨a, xs, rfl, hq, q⟩ := q1
    obtain ⟨u, rfl, ru⟩ := vals1 r1
    cases ru
    obtain ⟨its, rv, pl, hz⟩ := I1.list hq
    refine call_reversed_list pl.isList ?_
    have I2 : Inv X pins σ H1 { s1 with heap := s1.heap.push (revObj a ((its.toArray.size : Int) - 1)) } := I1.kept (t' := s1.toks) fun b o e => Heap.get?_push_of_some _ e
    obtain ⟨ol, hol, hol'⟩ := id pl.isList
    exact ⟨s1.heap.objs.size, a, xs, its, H1, rfl, I2, I1.fpOk (Nat.le_refl _) I1.fresh, Nat.ne_of_lt (Heap.lt_size hol), rv, hz, ⟨ol, Heap.get?_push_of_some _ hol, hol'⟩, ⟨_, Heap.get?_push_size _ rfl, rfl, rfl⟩, q⟩
  refine Call_ (ld_blt I hg hm boot_list (PyProof.Rows.callWith_type1 ?_ hs2 rfl))
  rw [hs2]
  show wpAny _ _ (spliced ((false, eval (.Call (.Name "reversed" p2) [e] [] pos2) X.env) :: backTo pos (starEach [] X.env))) _ _ s
  refine Calls.spliced_cons (thn inner fun v s2 h2 => Calls.spliced_nil ?_)
  obtain ⟨it, a, xs, its, H1, rfl, I2, fp, hne, rv, hz, hl, hit, q⟩ := h2
  have hlen := rv.length
  refine call_list_rev (I.ok.hd hc) hit hl hne (by rw [List.size_toArray]; omega) fun h' tk acc' c' hk hS' hacc => ?_
  have hfr : H1 s2.heap.objs.size = none := I2.fresh
  have nit : ∀ b u, H1 b = some u → b ≠ it := fun b u e z => by rw [z, fp.1] at e; cases e
  refine ⟨.ref s2.heap.objs.size, upd H1 s2.heap.objs.size (.lst xs.reverse), ?_, rfl, q _ hfr⟩
  refine I2.step (g' := s2.gens) (d' := s2.drawn) (ch := [it]) (fun b hb => ?_) (fun b o _ _ hc e _ => hk b o (fun z => hc (by simp [z])) e) (fun b o _ _ hc e _ => ⟨o.slots, hk b o (fun z => hc (by simp [z])) e⟩) (fun b o hc e n => ?_) (fun b o hc e => ⟨o, hk b o (fun z => hc (by simp [z])) e⟩)
    (fun b ys e => by rw [upd_ne (ne_of_none e hfr)]; exact e) (fun b o u e => by rw [upd_ne (ne_of_none e hfr)]; exact e) (fun b ps e => ⟨#[], by rw [upd_ne (ne_of_none e hfr), e]; simp⟩) (fun m hm => ?_) (fun b u e => ?_) I2.bare
  · have e : b = it := by simpa using hb
    subst e
    exact ⟨fp.2.2.2.1, fp.2.1, fp.2.2.2.2.1, fp.2.2.2.2.2⟩
  · rw [upd_ne (Nat.ne_of_lt (Heap.lt_size e))]
    exact n
  · obtain ⟨o, es, ep, ho, r⟩ := hm
    exact ⟨o, es, ep, hk _ o fp.2.1.symm ho, r⟩
  · by_cases hb : b = s2.heap.objs.size
    · subst hb
      rw [upd_same] at e
      cases e
      exact ⟨by rw [List.length_reverse]; exact hz, acc'.toList, c', rev_vals rv hacc, by simpa using hS'⟩
    · rw [upd_ne hb] at e
      refine (I2.hok b u e).stay (fun c v hc q => hk c v ?_ q) (fun c q => by rw [upd_ne (ne_of_none q hfr)]; exact q) fun c ys q => by rw [upd_ne (ne_of_none q hfr)]; exact q
      rcases hc with z | z
      · rw [z]; exact nit b u e
      · exact nit c _ z
end
end L2

set_option Elab.async false
set_option linter.all false
set_option maxRecDepth 100000
set_option maxHeartbeats 4000000
/-! Loops over enumerate, zip and a dict's keys; set(xs) and its length. -/
namespace L2
open PySem PySem.Spec PyProof.Rows
section
variable {X : Cx} {pins : List (Addr × Obj)} {σ : St} {H : Hp} {s : Shared} {h' : Heap}
/-- several records of ours have turned -/
theorem Inv.turns {t' : Nat} {fp : List Addr} (I : Inv X pins σ H s) (k : ∀ b u, b ∉ fp → s.heap.get? b = some u → h'.get? b = some u) (hf : ∀ b ∈ fp, FpOk X pins H b) : Inv X pins σ H { s with heap := h', toks := t' } := by
  have nit : ∀ b u, H b = some u → b ∉ fp := fun b u e z => by rw [(hf b z).1] at e; cases e
  refine I.step (g' := s.gens) (d' := s.drawn) (ch := fp) (fun b hb => ⟨(hf b hb).2.2.2.1, (hf b hb).2.1, (hf b hb).2.2.2.2.1, (hf b hb).2.2.2.2.2⟩) (fun b u _ _ hc e _ => k b u hc e)
    (fun b u _ _ hc e _ => ⟨u.slots, k b u hc e⟩) (fun _ _ _ _ n => n) (fun b u hc e => ⟨u, k b u hc e⟩) (fun _ _ e => e) (fun _ _ _ e => e) (fun b ps e => ⟨#[], by rw [e]; simp⟩) (fun m hm => ?_) (fun b u e => ?_) I.bare
  · obtain ⟨o, es, ep, ho, r⟩ := hm
    exact ⟨o, es, ep, k _ o (fun z => (hf _ z).2.1 rfl) ho, r⟩
  · refine (I.hok b u e).stay (fun c v hc q => k c v ?_ q) (fun _ q => q) fun _ _ q => q
    rcases hc with z | z
    · rw [z]; exact nit b u e
    · exact nit c _ z
/-- .. and a new object is laid and tracked -/
theorem Inv.turnsLaid {t' : Nat} {fp : List Addr} {T : Addr} {o : HO} (I : Inv X pins σ H s) (k : ∀ b u, b ∉ fp → s.heap.get? b = some u → h'.get? b = some u) (hf : ∀ b ∈ fp, FpOk X pins H b)
    (hp : s.heap.objs.size ≤ T) (new : ObjOk X.prog X.w (upd H T o) h' T o) : Inv X pins σ (upd H T o) { s with heap := h', toks := t' } := by
  have hn := I.hok.fresh hp
  have nit : ∀ b u, H b = some u → b ∉ fp := fun b u e z => by rw [(hf b z).1] at e; cases e
  refine I.step (g' := s.gens) (d' := s.drawn) (ch := fp) (fun b hb => ⟨(hf b hb).2.2.2.1, (hf b hb).2.1, (hf b hb).2.2.2.2.1, (hf b hb).2.2.2.2.2⟩) (fun b u _ _ hc e _ => k b u hc e)
    (fun b u _ _ hc e _ => ⟨u.slots, k b u hc e⟩) (fun b u hc e n => by rw [upd_ne (Nat.ne_of_lt (Nat.lt_of_lt_of_le (Heap.lt_size e) hp))]; exact n) (fun b u hc e => ⟨u, k b u hc e⟩)
    (fun b ys e => by rw [upd_ne (ne_of_none e hn)]; exact e) (fun b v u e => by rw [upd_ne (ne_of_none e hn)]; exact e) (fun b ps e => ⟨#[], by rw [upd_ne (ne_of_none e hn), e]; simp⟩) (fun m hm => ?_) (fun b u e => ?_) I.bare
  · obtain ⟨o, es, ep, ho, r⟩ := hm
    exact ⟨o, es, ep, k _ o (fun z => (hf _ z).2.1 rfl) ho, r⟩
  · by_cases hb : b = T
    · subst hb
      rw [upd_same] at e
      cases e
      exact new
    · rw [upd_ne hb] at e
      refine (I.hok b u e).stay (fun c v hc q => k c v ?_ q) (fun c q => by rw [upd_ne (ne_of_none q hn)]; exact q) fun c ys q => by rw [upd_ne (ne_of_none q hn)]; exact q
      rcases hc with z | z
      · rw [z]; exact nit b u e
      · exact nit c _ z
end
theorem two_fits {x y : V} : ([x, y] : List V).length ≤ sizeLine := by
  show 2 ≤ sizeLine
  rw [sizeLine_eq]; decide
theorem fp2_le {n b : Nat} (h : b ∈ [n + 1, n]) : n ≤ b := by
  rcases List.mem_cons.mp h with z | z
  · omega
  · have z := List.mem_singleton.mp z
    omega
theorem succ_ne {n : Nat} : n + 1 ≠ n := by omega

/-! ### enumerate(xs) -/
def Ite (K : PySem.W.Frag) (a : Addr) : It :=
  ⟨fun i H => ∃ xs x, SqL K H a xs ∧ xs[i]? = some x, fun i H x H' => ∃ T v, H T = none ∧ x = .ref T ∧ H' = upd H T (.tup [.int (i : Int), v]) ∧ ∀ xs, SqL K H a xs → xs[i]? = some v, fun i H => ∃ xs, SqL K H a xs ∧ xs.length ≤ i⟩
theorem turn_enum {P : Program} {w : World} {K : PySem.W.Frag} {elts : List Expr} {ek} {ps : Pos} (a e it : Addr) (hei : e ≠ it) :
    Turn P w K (.Tuple elts ek ps) (Ite K a) [e, it] e (fun i h => (∃ old, IsEnum h e it (i : Int) old) ∧ h.IsListIter it a i) where
  mem := by simp
  obj := fun i h st b hb => by
    obtain ⟨⟨old, he⟩, o, ho, hc, hd⟩ := st
    rcases List.mem_cons.mp hb with z | z
    · subst z
      exact ⟨_, he, fun v z => by
        have z' : Data.fields _ = Data.cell v := z
        cases z'⟩
    · have z := List.mem_singleton.mp z
      subst z
      exact ⟨o, ho, fun v z => by rw [hd] at z; cases z⟩
  keep := fun i h h' st k => by
    obtain ⟨⟨old, he⟩, hit⟩ := st
    exact ⟨⟨old, k e (by simp) _ he⟩, hit.at fun o q => k it (by simp) o q⟩
  item := by
    intro X hP hw hK hc i pins s σ H E I hf st hg
    subst hP hw hK
    obtain ⟨⟨old, he⟩, hit⟩ := st
    obtain ⟨xs, x, hq, hx⟩ := hg
    obtain ⟨its, rv, p, hz⟩ := I.list hq
    obtain ⟨u, hu, ru⟩ := rv.get hx
    refine wpAny_pyNext_enum_item he hit p.isList (x := u) (by simpa using hu) hei fun h' ho hit' hT hsz hk => ?_
    refine ⟨.ref s.heap.objs.size, rfl, wpAny_letOwnedTupleGo_enum ho fun h2 he2 hs2 => ?_⟩
    have hTe : s.heap.objs.size ≠ e := Nat.ne_of_gt (Heap.lt_size he)
    have hT2 : h2.get? s.heap.objs.size = some { cls := .type "tuple", data := .seq #[.int (i : Int) s.toks, u] } := (hs2.2 _ hTe).trans hT
    have kp : ∀ b o, b ∉ [e, it] → s.heap.get? b = some o → h2.get? b = some o := fun b o hb q => by
      have b1 : b ≠ e := fun z => hb (by simp [z])
      have b2 : b ≠ it := fun z => hb (by simp [z])
      exact (hs2.2 b b1).trans (hk b o b1 b2 q)
    have I2 := I.turnsLaid (t' := s.toks + 1) (o := .tup [.int (i : Int), x]) kp hf (Nat.le_refl s.heap.objs.size) ⟨two_fits, [.int (i : Int) s.toks, u], .cons ⟨_, rfl⟩ (.cons ru .nil), _, hT2, rfl, _, rfl⟩
    refine ⟨.ref s.heap.objs.size, _, I2, rfl, ⟨_, x, I.fresh, rfl, rfl, fun ys hy => by rw [I.list_inj hy hq]; exact hx⟩, ⟨⟨_, he2⟩, hit'.at fun o q => (hs2.2 it (Ne.symm hei)).trans q⟩, fun b hb => ?_⟩
    have hlt : b < s.heap.objs.size := by
      rcases List.mem_cons.mp hb with z | z
      · rw [z]; exact Heap.lt_size he
      · have z := List.mem_singleton.mp z
        rw [z]
        obtain ⟨o, q, _⟩ := hit
        exact Heap.lt_size q
    rw [upd_ne (Nat.ne_of_lt hlt)]
    exact (hf b hb).1
  done := by
    intro X hP hw hK hc i pins s σ H E I hf st hg
    subst hP hw hK
    obtain ⟨⟨old, he⟩, hit⟩ := st
    obtain ⟨xs, hq, hx⟩ := hg
    obtain ⟨its, rv, p, hz⟩ := I.list hq
    have hl := rv.length
    refine wpAny_pyNext_enum_end (I.ok.hd hc) he hit p.isList (by simp; omega) fun h' eb => ⟨rfl, ?_⟩
    exact I.turns (t' := s.toks) (fp := [e, it]) (fun b o hb q => eb b o (fun z => hb (by simp [z])) q) hf
  self := fun _ _ _ _ _ st h => by
    obtain ⟨⟨old, he⟩, _⟩ := st
    exact wpAny_pyIter_enum he h
section
variable {X : Cx}
def iEnum (K : PySem.W.Frag) (ta : TA) : TI := fun σ H R => ta σ H fun vs H1 => ∃ a, vs = [.ref a] ∧ (∃ xs, SqL K H1 a xs) ∧ R (Ite K a) H1
theorem pi_enum {a : Expr} {ta : TA} {p pos ps : Pos} {elts : List Expr} {ek} (hg : Gl X "enumerate") (hm : X.mg "enumerate" = none) (ha : PA X [a] ta) (hs : starEach [a] X.env = [(false, eval a X.env)] := by rfl) :
    PI X (.Tuple elts ek ps) (.Call (.Name "enumerate" p) [a] [] pos) (iEnum X.K ta) := by
  intro pins s σ H R I h
  refine Call_ (ld_blt I hg hm boot_enumerate (PyProof.Rows.callWith_type1 (thn (ha pos pins s σ H _ I h) fun us s1 ⟨vs, H1, I1, r1, q1⟩ => ?_) hs rfl))
  obtain ⟨a, rfl, ⟨xs, hq⟩, q⟩ := q1
  obtain ⟨u, rfl, ru⟩ := vals1 r1
  cases ru
  obtain ⟨its, rv, p, hz⟩ := I1.list hq
  refine call_enumerate_list p.isList fun h' he hit hsz kp => ?_
  refine wpAny_pyIter_enum he ?_
  refine ⟨s1.heap.objs.size + 1, [s1.heap.objs.size + 1, s1.heap.objs.size], _, _, H1, rfl, I1.kept (t' := s1.toks) kp, turn_enum a _ _ succ_ne, ⟨⟨_, he⟩, hit⟩, fun b hb => ?_, q⟩
  have hb' : s1.heap.objs.size ≤ b := fp2_le hb
  exact I1.fpOk hb' (I1.hok.fresh hb')
end
theorem for_enum {K : PySem.W.Frag} {a : Addr} {xs : List V} {g : TG} {tb : TS} {D : Ends} {σ : St} {H : Hp} (Pv : Nat → St → Hp → Prop) (h0 : Pv 0 σ H) (hl : ∀ i σ H, i ≤ xs.length → Pv i σ H → SqL K H a xs)
    (hs : ∀ i x T σ H, xs[i]? = some x → Pv i σ H → H T = none → g (.ref T) σ (upd H T (.tup [.int (i : Int), x])) fun σ2 H2 => tb { D with nx := Pv (i + 1), ct := Pv (i + 1), bk := D.nx } σ2 H2) (hd : ∀ σ H, Pv xs.length σ H → D.nx σ H) :
    ∃ W : Nat → Nat → St → Hp → Prop, (∃ m, W 0 m σ H) ∧ ∀ i m σ H, W i m σ H →
      ((Ite K a).stop i H ∧ D.nx σ H) ∨ ((Ite K a).go i H ∧ ∃ N : St → Hp → Prop, (∀ σ' H', N σ' H' → ∃ m', m' < m ∧ W (i + 1) m' σ' H') ∧ ∀ x H', (Ite K a).yld i H x H' → g x σ H' fun σ2 H2 => tb { D with nx := N, ct := N, bk := D.nx } σ2 H2) := by
  refine ⟨fun i m σ H => m = xs.length - i ∧ i ≤ xs.length ∧ Pv i σ H, ⟨xs.length, by simp, Nat.zero_le _, h0⟩, ?_⟩
  rintro i m σ H ⟨rfl, hi, p⟩
  have q := hl i σ H hi p
  by_cases hlt : i < xs.length
  · refine .inr ⟨⟨xs, xs[i], q, by simp [hlt]⟩, Pv (i + 1), fun σ' H' p' => ⟨xs.length - (i + 1), by omega, rfl, hlt, p'⟩, fun x H' y => ?_⟩
    obtain ⟨T, v, hn, rfl, rfl, y⟩ := y
    exact hs i v T σ _ (y xs q) p hn
  · have e : i = xs.length := by omega
    subst e
    exact .inl ⟨⟨xs, q, Nat.le_refl _⟩, hd σ H p⟩

/-! ### zip(xs, ys) -/
def Itz (K : PySem.W.Frag) (a b : Addr) : It :=
  ⟨fun i H => ∃ xs ys x y, SqL K H a xs ∧ SqL K H b ys ∧ xs[i]? = some x ∧ ys[i]? = some y,
   fun i H x H' => ∃ T v u, H T = none ∧ x = .ref T ∧ H' = upd H T (.tup [v, u]) ∧ (∀ xs, SqL K H a xs → xs[i]? = some v) ∧ ∀ ys, SqL K H b ys → ys[i]? = some u,
   fun i H => ∃ xs ys, SqL K H a xs ∧ SqL K H b ys ∧ (xs.length ≤ i ∨ ys.length ≤ i)⟩
theorem zip_apart (n a b : Nat) (ha : a < n) (hb : b < n) : ZipApart (n + 4) (n + 2) (n + 3) n (n + 1) a b := PySem.W.ktu_apart n a b ha hb
theorem fp5 {n b : Nat} (h : b ∈ [n + 4, n + 2, n + 3, n, n + 1]) : b = n + 4 ∨ b = n + 2 ∨ b = n + 3 ∨ b = n ∨ b = n + 1 := by simpa using h
theorem fp5_le {n b : Nat} (h : b ∈ [n + 4, n + 2, n + 3, n, n + 1]) : n ≤ b := by rcases fp5 h with z | z | z | z | z <;> omega
theorem fp5_lt {n b m : Nat} (h : b ∈ [n + 4, n + 2, n + 3, n, n + 1]) (hm : n + 4 < m) : b < m := by rcases fp5 h with z | z | z | z | z <;> omega
theorem turn_zip {P : Program} {w : World} {K : PySem.W.Frag} {elts : List Expr} {ek} {ps : Pos} (a b n : Addr) (hla : a < n) (hlb : b < n) :
    Turn P w K (.Tuple elts ek ps) (Itz K a b) [n + 4, n + 2, n + 3, n, n + 1] (n + 4)
      (fun i h => IsZip h (n + 4) (n + 2) (n + 3) .none ∧ IsPair h (n + 2) (.ref n) (.ref (n + 1)) ∧ (∃ c d, IsPair h (n + 3) c d) ∧ h.IsListIter n a i ∧ h.IsListIter (n + 1) b i) where
  mem := by simp
  obj := fun i h st c hb => by
    obtain ⟨hz, hI, ⟨x, y, hO⟩, ⟨o1, g1, _, d1⟩, ⟨o2, g2, _, d2⟩⟩ := st
    rcases fp5 hb with z | z | z | z | z
    · subst z; exact ⟨_, hz, fun v z => by have z' : Data.fields _ = Data.cell v := z; cases z'⟩
    · subst z; exact ⟨_, hI, fun v z => by have z' : Data.seq _ _ = Data.cell v := z; cases z'⟩
    · subst z; exact ⟨_, hO, fun v z => by have z' : Data.seq _ _ = Data.cell v := z; cases z'⟩
    · subst z; exact ⟨o1, g1, fun v z => by rw [d1] at z; cases z⟩
    · subst z; exact ⟨o2, g2, fun v z => by rw [d2] at z; cases z⟩
  keep := fun i h h' st k => by
    obtain ⟨hz, hI, ⟨x, y, hO⟩, h1, h2⟩ := st
    exact ⟨k _ (by simp) _ hz, k _ (by simp) _ hI, ⟨x, y, k _ (by simp) _ hO⟩, h1.at fun o q => k _ (by simp) o q, h2.at fun o q => k _ (by simp) o q⟩
  item := by
    intro X hP hw hK hc i pins s σ H E I hf st hg
    subst hP hw hK
    have D := zip_apart n a b hla hlb
    obtain ⟨hz, hI, ⟨c, d, hO⟩, h1, h2⟩ := st
    obtain ⟨xs, ys, x, y, q1, q2, x1, x2⟩ := hg
    obtain ⟨its, rv, p, _⟩ := I.list q1
    obtain ⟨its', rv', p', _⟩ := I.list q2
    obtain ⟨u, hu, ru⟩ := rv.get x1
    obtain ⟨u', hu', ru'⟩ := rv'.get x2
    refine wpAny_pyNext_zip_item D hz hI hO h1 h2 p.isList p'.isList (x := u) (y := u') (by simpa using hu) (by simpa using hu') fun h' a1 a2 a3 a4 a5 a6 hk => ?_
    refine ⟨.ref s.heap.objs.size, rfl, wpAny_letOwnedTupleGo_zip a1 fun h2' hz2 hs2 => ?_⟩
    have hlt : n + 4 < s.heap.objs.size := Heap.lt_size hz
    have hT2 : IsPair h2' s.heap.objs.size u u' := (hs2.2 _ (Nat.ne_of_gt hlt)).trans a5
    have kp : ∀ b o, b ∉ [n + 4, n + 2, n + 3, n, n + 1] → s.heap.get? b = some o → h2'.get? b = some o := fun b o hb q => by
      have b1 : b ≠ n + 4 := fun z => hb (by simp [z])
      have b2 : b ≠ n + 3 := fun z => hb (by simp [z])
      have b3 : b ≠ n := fun z => hb (by simp [z])
      have b4 : b ≠ n + 1 := fun z => hb (by simp [z])
      exact (hs2.2 b b1).trans (hk b o b1 b2 b3 b4 q)
    have I2 := I.turnsLaid (t' := s.toks) (o := .tup [x, y]) kp hf (Nat.le_refl s.heap.objs.size) ⟨two_fits, [u, u'], .cons ru (.cons ru' .nil), _, hT2, rfl, _, rfl⟩
    refine ⟨.ref s.heap.objs.size, _, I2, rfl, ⟨_, x, y, I.fresh, rfl, rfl, fun ys hy => by rw [I.list_inj hy q1]; exact x1, fun ys hy => by rw [I.list_inj hy q2]; exact x2⟩,
      ⟨hz2, (hs2.2 _ D.TIz).trans (hk _ _ D.TIz D.TITO D.TIi1 D.TIi2 hI), ⟨_, _, (hs2.2 _ D.TOz).trans a2⟩, a3.at fun o q => (hs2.2 _ D.i1z).trans q, a4.at fun o q => (hs2.2 _ D.i2z).trans q⟩, fun c hc => ?_⟩
    have hlt' : c < s.heap.objs.size := fp5_lt hc hlt
    rw [upd_ne (Nat.ne_of_lt hlt')]
    exact (hf c hc).1
  done := by
    intro X hP hw hK hc i pins s σ H E I hf st hg
    subst hP hw hK
    have D := zip_apart n a b hla hlb
    obtain ⟨hz, hI, ⟨c, d, hO⟩, h1, h2⟩ := st
    obtain ⟨xs, ys, q1, q2, hx⟩ := hg
    obtain ⟨its, rv, p, _⟩ := I.list q1
    obtain ⟨its', rv', p', _⟩ := I.list q2
    have l1 := rv.length
    have l2 := rv'.length
    refine wpAny_pyNext_zip_end (I.ok.hd hc) D hz hI hO h1 h2 p.isList p'.isList ?_ fun h' hk => ⟨rfl, ?_⟩
    · rcases hx with z | z
      · exact .inl (by simp; omega)
      · exact .inr (by simp; omega)
    · exact I.turns (t' := s.toks) (fp := [n + 4, n + 2, n + 3, n, n + 1]) (fun b o hb q => hk b o (fun z => hb (by simp [z])) (fun z => hb (by simp [z])) (fun z => hb (by simp [z])) (fun z => hb (by simp [z])) q) hf
  self := fun _ _ _ _ _ st h => wpAny_pyIter_zip st.1 h
section
variable {X : Cx}
def iZip (K : PySem.W.Frag) (ta : TA) : TI := fun σ H R => ta σ H fun vs H1 => ∃ a b, vs = [.ref a, .ref b] ∧ (∃ xs, SqL K H1 a xs) ∧ (∃ ys, SqL K H1 b ys) ∧ R (Itz K a b) H1
theorem pi_zip {a b : Expr} {ta : TA} {p pos ps : Pos} {elts : List Expr} {ek} (hg : Gl X "zip") (hm : X.mg "zip" = none) (ha : PA X [a, b] ta) (hs : starEach [a, b] X.env = [(false, eval a X.env), (false, eval b X.env)] := by rfl)
    (hs2 : starEach [b] X.env = [(false, eval b X.env)] := by rfl) : PI X (.Tuple elts ek ps) (.Call (.Name "zip" p) [a, b] [] pos) (iZip X.K ta) := by
  intro pins s σ H R I h
  refine Call_ (ld_blt I hg hm boot_zip (PyProof.Rows.callWith_type1 (thn (ha pos pins s σ H _ I h) fun us s1 ⟨vs, H1, I1, r1, q1⟩ => ?_) (by rw [hs, hs2]) (by rw [hs2]; rfl)))
  obtain ⟨a, b, rfl, ⟨xs, hq⟩, ⟨ys, hq'⟩, q⟩ := q1
  obtain ⟨u, u', rfl, ru, ru'⟩ := vals2 r1
  cases ru
  cases ru'
  obtain ⟨its, rv, p, hz⟩ := I1.list hq
  obtain ⟨its', rv', p', hz'⟩ := I1.list hq'
  have la : a < s1.heap.objs.size := by
    obtain ⟨o, z, _⟩ := p.isList
    exact Heap.lt_size z
  have lb : b < s1.heap.objs.size := by
    obtain ⟨o, z, _⟩ := p'.isList
    exact Heap.lt_size z
  refine call_zip_2 p.isList p'.isList fun h' a1 a2 a3 a4 a5 a6 kp => ?_
  refine wpAny_pyIter_zip a1 ?_
  refine ⟨s1.heap.objs.size + 4, _, _, _, H1, rfl, I1.kept (t' := s1.toks) kp, turn_zip a b s1.heap.objs.size la lb, ⟨a1, a2, ⟨_, _, a3⟩, a4, a5⟩, fun c hc => ?_, q⟩
  have hb' : s1.heap.objs.size ≤ c := fp5_le hc
  exact I1.fpOk hb' (I1.hok.fresh hb')
end
theorem for_zip {K : PySem.W.Frag} {a b : Addr} {xs ys : List V} {g : TG} {tb : TS} {D : Ends} {σ : St} {H : Hp} (Pv : Nat → St → Hp → Prop) (hxy : xs.length = ys.length) (h0 : Pv 0 σ H)
    (hl : ∀ i σ H, i ≤ xs.length → Pv i σ H → SqL K H a xs ∧ SqL K H b ys)
    (hs : ∀ i x y T σ H, xs[i]? = some x → ys[i]? = some y → Pv i σ H → H T = none → g (.ref T) σ (upd H T (.tup [x, y])) fun σ2 H2 => tb { D with nx := Pv (i + 1), ct := Pv (i + 1), bk := D.nx } σ2 H2) (hd : ∀ σ H, Pv xs.length σ H → D.nx σ H) :
    ∃ W : Nat → Nat → St → Hp → Prop, (∃ m, W 0 m σ H) ∧ ∀ i m σ H, W i m σ H →
      ((Itz K a b).stop i H ∧ D.nx σ H) ∨ ((Itz K a b).go i H ∧ ∃ N : St → Hp → Prop, (∀ σ' H', N σ' H' → ∃ m', m' < m ∧ W (i + 1) m' σ' H') ∧ ∀ x H', (Itz K a b).yld i H x H' → g x σ H' fun σ2 H2 => tb { D with nx := N, ct := N, bk := D.nx } σ2 H2) := by
  refine ⟨fun i m σ H => m = xs.length - i ∧ i ≤ xs.length ∧ Pv i σ H, ⟨xs.length, by simp, Nat.zero_le _, h0⟩, ?_⟩
  rintro i m σ H ⟨rfl, hi, p⟩
  obtain ⟨q, q'⟩ := hl i σ H hi p
  by_cases hlt : i < xs.length
  · have hlt' : i < ys.length := by omega
    refine .inr ⟨⟨xs, ys, xs[i], ys[i], q, q', by simp [hlt], by simp [hlt']⟩, Pv (i + 1), fun σ' H' p' => ⟨xs.length - (i + 1), by omega, rfl, hlt, p'⟩, fun x H' y => ?_⟩
    obtain ⟨T, v, u, hn, rfl, rfl, y1, y2⟩ := y
    exact hs i v u T σ _ (y1 xs q) (y2 ys q') p hn
  · have e : i = xs.length := by omega
    subst e
    exact .inl ⟨⟨xs, ys, q, q', .inl (Nat.le_refl _)⟩, hd σ H p⟩

/-! ### a dict's keys: the dict is known while (and after) it is walked -/
def Itd (d : Addr) (o : Obj) (kvs : List (Key × V)) : It :=
  ⟨fun i H => H d = some (.frz o (.dK kvs)) ∧ i < kvs.length, fun i H x H' => H' = H ∧ ∃ kv, kvs[i]? = some kv ∧ x = kV kv.1, fun i H => H d = some (.frz o (.dK kvs)) ∧ kvs.length ≤ i⟩
theorem paired_length {α β : Type} {R : α → β → Prop} {xs : List α} {ys : List β} (r : Paired R xs ys) : xs.length = ys.length := Paired.length r
theorem KV.at : ∀ {kvs : List (Key × V)} {vs : List (Key × Value)} {i : Nat} {kv : Key × V}, KV kvs vs → kvs[i]? = some kv → ∃ v, vs[i]? = some (kv.1, v) := by
  intro kvs vs i kv r
  unfold KV at r
  induction r generalizing i with
  | nil => intro h; simp at h
  | @cons p q ps qs h t ih =>
    intro hi
    cases i with
    | zero =>
      simp only [List.getElem?_cons_zero, Option.some.injEq] at hi
      subst hi
      exact ⟨q.2, by rw [List.getElem?_cons_zero, h.1]⟩
    | succ i =>
      simp only [List.getElem?_cons_succ] at hi
      obtain ⟨v, e⟩ := ih hi
      exact ⟨v, by rw [List.getElem?_cons_succ]; exact e⟩
theorem relV_key {k : Key} {v : Value} (h : keyIs k v = true) : RelV (kV k) v := by
  rcases keyIs_shape h with ⟨i, t, rfl, rfl⟩ | ⟨x, t, rfl, rfl⟩
  · exact ⟨t, rfl⟩
  · exact ⟨t, rfl⟩
theorem dict_at {P : Program} {w : World} {H : Hp} {h : Heap} {d : Addr} {o : Obj} {kvs : List (Key × V)} (ok : HOk P w H h) (e : H d = some (.frz o (.dK kvs))) {ep : Nat} (he : ∃ es, o.data = .dict es ep) :
    ∃ vs, KV kvs vs ∧ h.DictAt (mixKind P w) d vs ep ∧ vs.length = kvs.length := by
  obtain ⟨g, _, _, vs, r, o', es, ep', g', x1, x2, x3⟩ := (show ObjOk P w H h d (.frz o (.dK kvs)) from ok d _ e)
  rw [g] at g'
  cases g'
  obtain ⟨es', x2'⟩ := he
  rw [x2] at x2'
  cases x2'
  exact ⟨vs, r, ⟨o, es, g, x1, x2, x3⟩, (paired_length r).symm⟩
theorem turn_dict {P : Program} {w : World} {K : PySem.W.Frag} {tg : Expr} (d it : Addr) (o : Obj) (kvs : List (Key × V)) (ep : Nat) (he : ∃ es, o.data = .dict es ep) :
    Turn P w K tg (Itd d o kvs) [it] it (fun i h => h.IsKeyIter it d i kvs.length ep) where
  mem := by simp
  obj := fun i h st b hb => by
    have e : b = it := by simpa using hb
    subst e
    obtain ⟨o, e, c, q⟩ := st
    exact ⟨o, e, fun v z => by rw [q] at z; cases z⟩
  keep := fun i h h' st k => st.at fun o e => k it (by simp) o e
  item := by
    intro X hP hw hK hc i pins s σ H E I hf st hg
    subst hP hw hK
    obtain ⟨hd, hi⟩ := hg
    obtain ⟨vs, r, da, hl⟩ := dict_at I.hok hd he
    have hx : kvs[i]? = some kvs[i] := by simp [hi]
    obtain ⟨v, hv⟩ := KV.at r hx
    obtain ⟨f0, f1, f2, f3, f4, f5⟩ := hf it (by simp)
    refine wpAny_pyNext_dict_item (kvs := vs) (by rw [hl]; exact st) da hv fun key h' hkey hit' hs' => ?_
    have I1 : Inv X pins σ H { s with heap := h' } := I.turned (t' := s.toks) (fun b o hb e => (hs'.2 b hb).trans e) f0 f1 f3 f4 f5
    rw [hl] at hit'
    obtain ⟨oi, e, c, q⟩ := id hit'
    exact ⟨key, rfl, go_of (s := { s with heap := h' }) e c q (by decide) ⟨kV kvs[i].1, H, I1, relV_key hkey, ⟨rfl, _, hx, rfl⟩, hit', fun b hb => (hf b hb).1⟩⟩
  done := by
    intro X hP hw hK hc i pins s σ H E I hf st hg
    subst hP hw hK
    obtain ⟨hd, hi⟩ := hg
    obtain ⟨vs, r, da, hl⟩ := dict_at I.hok hd he
    obtain ⟨f0, f1, f2, f3, f4, f5⟩ := hf it (by simp)
    exact wpAny_pyNext_dict_end (I.ok.hd hc) (kvs := vs) (by rw [hl]; exact st) da (by simp; omega) fun h' eb => ⟨rfl, I.turned (t' := s.toks) (fun b o hb e => eb b o hb e) f0 f1 f3 f4 f5⟩
  self := fun _ _ _ _ _ st h => wpAny_pyIter_keyiter st h
section
variable {X : Cx} {tg : Expr}
def iDict (tl : TE) : TI := fun σ H R => tl σ H fun x H1 => ∃ d kvs, x = .ref d ∧ Rd H1 d (.dK kvs) ∧ ∀ o H2, H2 d = some (.frz o (.dK kvs)) → (∀ b, b ≠ d → H2 b = H1 b) → R (Itd d o kvs) H2
theorem pi_dict {l : Expr} {tl : TE} (hl : PE X l tl) : PI X tg l (iDict tl) := by
  intro pins s σ H R I h
  refine thn (hl pins s σ H _ I h) fun v s1 ⟨x, H1, I1, r1, q1⟩ => ?_
  obtain ⟨d, kvs, rfl, rd, q⟩ := q1
  cases r1
  -- known by its object
  have fz : ∃ o H2, H2 d = some (.frz o (.dK kvs)) ∧ (∀ b, b ≠ d → H2 b = H1 b) ∧ Inv X pins σ H2 s1 := by
    rcases rd with e | ⟨o, e⟩
    · obtain ⟨z, y, vs, r, o, es, ep, g, x⟩ := (show ObjOk X.prog X.w H1 s1.heap d (.dK kvs) from I1.hok d _ e)
      exact ⟨o, upd H1 d (.frz o (.dK kvs)), upd_same, fun b hb => upd_ne hb, I1.write (t' := s1.toks) (h' := s1.heap) (x := d) (e := d) (o := .frz o (.dK kvs)) (by rw [e]; exact trivial) (.inl rfl) (fun b u _ q => q) ⟨o, g⟩ ⟨g, z, y, vs, r, o, es, ep, g, x⟩⟩
    · exact ⟨o, H1, e, fun b _ => rfl, I1⟩
  obtain ⟨o, H2, e2, o2, I2⟩ := fz
  obtain ⟨g, z, y, vs, r, o', es, ep, g', x1, x2, x3⟩ := (show ObjOk X.prog X.w H2 s1.heap d (.frz o (.dK kvs)) from I2.hok d _ e2)
  have eo : o' = o := by rw [g] at g'; exact (Option.some.inj g').symm
  subst eo
  have hlen : vs.length = kvs.length := (paired_length r).symm
  refine wpAny_pyIter_dict (knd := mixKind X.prog X.w) (kvs := vs) (ep := ep) y ⟨o', es, g, x1, x2, x3⟩ ?_
  refine ⟨s1.heap.objs.size, [s1.heap.objs.size], _, _, H2, rfl, I2.kept (t' := s1.toks) fun b o e => Heap.get?_push_of_some _ e, turn_dict d _ o' kvs ep ⟨es, x2⟩, ⟨_, Heap.get?_push_size _ rfl, rfl, by rw [hlen]; rfl⟩, fun b hb => ?_, q o' H2 e2 o2⟩
  have e : b = s1.heap.objs.size := by simpa using hb
  subst e
  exact I2.fpOk (Nat.le_refl _) (I2.hok.fresh (Nat.le_refl _))
end
theorem for_dict {d : Addr} {o : Obj} {kvs : List (Key × V)} {g : TG} {tb : TS} {D : Ends} {σ : St} {H : Hp} (Pv : Nat → St → Hp → Prop) (h0 : Pv 0 σ H) (hl : ∀ i σ H, i ≤ kvs.length → Pv i σ H → H d = some (.frz o (.dK kvs)))
    (hs : ∀ i kv σ H, kvs[i]? = some kv → Pv i σ H → g (kV kv.1) σ H fun σ2 H2 => tb { D with nx := Pv (i + 1), ct := Pv (i + 1), bk := D.nx } σ2 H2) (hd : ∀ σ H, Pv kvs.length σ H → D.nx σ H) :
    ∃ W : Nat → Nat → St → Hp → Prop, (∃ m, W 0 m σ H) ∧ ∀ i m σ H, W i m σ H →
      ((Itd d o kvs).stop i H ∧ D.nx σ H) ∨ ((Itd d o kvs).go i H ∧ ∃ N : St → Hp → Prop, (∀ σ' H', N σ' H' → ∃ m', m' < m ∧ W (i + 1) m' σ' H') ∧ ∀ x H', (Itd d o kvs).yld i H x H' → g x σ H' fun σ2 H2 => tb { D with nx := N, ct := N, bk := D.nx } σ2 H2) := by
  refine ⟨fun i m σ H => m = kvs.length - i ∧ i ≤ kvs.length ∧ Pv i σ H, ⟨kvs.length, by simp, Nat.zero_le _, h0⟩, ?_⟩
  rintro i m σ H ⟨rfl, hi, p⟩
  have q := hl i σ H hi p
  by_cases hlt : i < kvs.length
  · refine .inr ⟨⟨q, hlt⟩, Pv (i + 1), fun σ' H' p' => ⟨kvs.length - (i + 1), by omega, rfl, hlt, p'⟩, fun x H' y => ?_⟩
    obtain ⟨rfl, kv, y, rfl⟩ := y
    exact hs i kv σ _ y p
  · have e : i = kvs.length := by omega
    subst e
    exact .inl ⟨⟨q, Nat.le_refl _⟩, hd σ H p⟩

/-! ### set(xs), its length -/
theorem dd_len : ∀ (ns acc : List Int), (ns.foldl step_dedup acc).length ≤ acc.length + ns.length ∧ ((ns.foldl step_dedup acc).length = acc.length + ns.length ↔ ns.Nodup ∧ ∀ x ∈ ns, x ∉ acc)
  | [], acc => by simp
  | n :: ns, acc => by
    rw [List.foldl_cons]
    have key : ∀ y, y ∈ step_dedup acc n ↔ y ∈ acc ∨ y = n := fun y => by
      have := step_any acc n y
      constructor
      · intro h
        have e : (step_dedup acc n).any (· == y) = true := List.any_eq_true.mpr ⟨y, h, by simp⟩
        rw [this, Bool.or_eq_true] at e
        rcases e with e | e
        · obtain ⟨z, h1, h2⟩ := List.any_eq_true.mp e
          exact .inl (by rw [← (by simpa using h2 : z = y)]; exact h1)
        · exact .inr (of_decide_eq_true e)
      · intro h
        have e : (step_dedup acc n).any (· == y) = true := by
          rw [this, Bool.or_eq_true]
          rcases h with h | h
          · exact .inl (List.any_eq_true.mpr ⟨y, h, by simp⟩)
          · exact .inr (decide_eq_true h)
        obtain ⟨z, h1, h2⟩ := List.any_eq_true.mp e
        rw [← (by simpa using h2 : z = y)]
        exact h1
    obtain ⟨i1, i2⟩ := dd_len ns (step_dedup acc n)
    have hlen : (step_dedup acc n).length = if n ∈ acc then acc.length else acc.length + 1 := by
      rw [step_length]
      by_cases h : n ∈ acc
      · rw [if_pos h, if_pos (List.any_eq_true.mpr ⟨n, h, by simp⟩)]
      · rw [if_neg h, if_neg fun z => by
          obtain ⟨y, h1, h2⟩ := List.any_eq_true.mp z
          exact h (by rw [← (by simpa using h2 : y = n)]; exact h1)]
    by_cases h : n ∈ acc
    · rw [if_pos h] at hlen
      refine ⟨by rw [List.length_cons]; omega, fun e => ?_, fun e => absurd h (e.2 n List.mem_cons_self)⟩
      rw [List.length_cons] at e
      omega
    · rw [if_neg h] at hlen
      refine ⟨by rw [List.length_cons]; omega, fun e => ?_, fun e => ?_⟩
      · rw [List.length_cons] at e
        obtain ⟨n1, n2⟩ := i2.mp (by omega)
        refine ⟨List.nodup_cons.mpr ⟨fun m => n2 n m ((key n).mpr (.inr rfl)), n1⟩, fun x hx => ?_⟩
        rcases List.mem_cons.mp hx with z | z
        · rw [z]; exact h
        · exact fun m => n2 x z ((key x).mpr (.inl m))
      · obtain ⟨e1, e2⟩ := e
        obtain ⟨e3, e4⟩ := List.nodup_cons.mp e1
        have := i2.mpr ⟨e4, fun x hx m => by
          rcases (key x).mp m with z | z
          · exact e2 x (List.mem_cons_of_mem _ hx) z
          · rw [z] at hx; exact e3 hx⟩
        rw [List.length_cons]
        omega
section
variable {X : Cx}
theorem range_getD (ns : List Int) : ((List.range ns.length).map fun i => ns.getD i 0) = ns := List.ext_getElem (by simp) fun i h1 h2 => by simp [h2]
/-- set(xs), xs a list of ints: n members, as many as xs has places where none comes twice -/
def rSetOf (K : PySem.W.Frag) : List V → Hp → VK → Prop := fun xs H Q => ∃ (a : Addr) (ns : List Int), xs = [.ref a] ∧ SqL K H a (ns.map V.int) ∧ ns.length ≤ 1000 ∧ ∀ l S n, H l = none → n ≤ ns.length → (n = ns.length ↔ ns.Nodup) → Q (.ref l) (upd H l (.set S n))
theorem call_setR (hc : X.calm = true) : CallR X (.type "set") (rSetOf X.K) := by
  intro pins s σ H xs us Q I r h
  obtain ⟨a, ns, rfl, hq, hz, q⟩ := h
  obtain ⟨u, rfl, ru⟩ := vals1 r
  cases ru
  obtain ⟨its, rv, pl, _⟩ := I.list hq
  have hl := rv.length
  rw [List.length_map] at hl
  have hi := intsAre_of rv
  have hsz : its.toArray.size = ns.length := by simp [hl]
  refine call_set_list (items := its.toArray) (ns := ns) (I.ok.hd hc) pl.isList (by simpa using hi) (by rw [hsz]; exact Nat.lt_of_le_of_lt (Nat.succ_le_succ hz) (by decide)) fun h' tk hS hk => ?_
  have e : firstMet (fun i => ns.getD i 0) its.toArray.size = ns.foldl step_dedup [] := by
    unfold firstMet
    rw [hsz, range_getD]
  obtain ⟨d1, d2⟩ := dd_len ns []
  rw [e] at hS
  refine ⟨.ref s.heap.objs.size, _, I.laid (t' := tk) (o := .set _ _) (fun b u z => hk b u (Heap.lt_size z) z) (Nat.le_refl _) hS, rfl, q _ _ _ I.fresh (by simpa using d1) ?_⟩
  have d2' : (ns.foldl step_dedup []).length = ns.length ↔ ns.Nodup := by simpa using d2
  exact d2'
def rLenS : List V → Hp → VK → Prop := fun xs H Q => ∃ a S n, xs = [V.ref a] ∧ H a = some (.set S n) ∧ Q (.int (n : Nat)) H
theorem call_lenS : CallR X (.builtin "len") rLenS := by
  intro pins s σ H xs us Q I r h
  obtain ⟨a, S, n, rfl, hq, q⟩ := h
  obtain ⟨u, rfl, ru⟩ := vals1 r
  cases ru
  obtain ⟨o, es, ep, t, ho, hex, hd, _, _, hlt, hf, hn⟩ := (show ObjOk X.prog X.w H s.heap a (.set S n) from I.hok a _ hq)
  have h4 : (es.size : Int) < 2 ^ 63 := by
    have : es.size < 4096 := hlt
    omega
  refine call_len_set ho hex hd hf h4 ⟨.int (n : Nat), H, I.tok _, ⟨_, by rw [hn]⟩, q⟩
end
end L2

set_option linter.all false
/-! What the sort's questions come to, where all keys differ: the places in the order of their keys. -/
namespace KS
open PySem.W PyProof.Rows
/-- the tree asked by a plain order, each question within n -/
def TreeOk (n : Nat) (lt : Nat → Nat → Bool) {α : Type} : KasT α → (α → Prop) → Prop
  | .ret a, Q => Q a
  | .ask i j k, Q => i < n ∧ j < n ∧ i ≠ j ∧ TreeOk n lt (k (lt i j)) Q
theorem TreeOk.mono {n : Nat} {lt : Nat → Nat → Bool} {α : Type} {Q Q' : α → Prop} (hq : ∀ a, Q a → Q' a) : ∀ {t : KasT α}, TreeOk n lt t Q → TreeOk n lt t Q'
  | .ret a, h => hq a h
  | .ask _ _ k, h => ⟨h.1, h.2.1, h.2.2.1, TreeOk.mono hq h.2.2.2⟩
theorem TreeOk.bind {n : Nat} {lt : Nat → Nat → Bool} {α β : Type} {f : α → KasT β} {Q : β → Prop} : ∀ {t : KasT α}, TreeOk n lt t (fun a => TreeOk n lt (f a) Q) → TreeOk n lt (t.bind f) Q
  | .ret a, h => h
  | .ask _ _ k, h => ⟨h.1, h.2.1, h.2.2.1, TreeOk.bind (t := k _) h.2.2.2⟩
section
variable {n : Nat} {key : Nat → Int}
abbrev ltK (key : Nat → Int) : Nat → Nat → Bool := fun i j => decide (key i < key j)
/-- the key at a place -/
def kp (key : Nat → Int) (p : Array Nat) (i : Nat) : Int := key (p.getD i 0)
/-- all places, each once, the keys apart -/
structure Pl (n : Nat) (key : Nat → Int) (p : Array Nat) : Prop where
  perm : p.toList.Perm (List.range n)
  apart : ∀ i j, i < n → j < n → key i = key j → i = j
def Up (key : Nat → Int) (p : Array Nat) (m : Nat) : Prop := ∀ i j, i < j → j < m → kp key p i < kp key p j
def Down (key : Nat → Int) (p : Array Nat) (m : Nat) : Prop := ∀ i j, i < j → j < m → kp key p j < kp key p i
theorem Pl.size {p : Array Nat} (P : Pl n key p) : p.size = n := by
  have := P.perm.length_eq
  simpa using this
theorem Pl.lt {p : Array Nat} (P : Pl n key p) {i : Nat} (h : i < n) : p.getD i 0 < n := by
  have hs := P.size
  have h1 : i < p.size := by omega
  have e : p.getD i 0 = p[i] := by simp [Array.getD, h1]
  rw [e]
  exact List.mem_range.mp (P.perm.mem_iff.mp (by simp))
theorem Pl.ne {p : Array Nat} (P : Pl n key p) {i j : Nat} (hi : i < n) (hj : j < n) (h : i ≠ j) : kp key p i ≠ kp key p j := fun e => by
  have := P.apart _ _ (P.lt hi) (P.lt hj) e
  have hs := P.size
  have nd : p.toList.Nodup := P.perm.nodup_iff.mpr List.nodup_range
  have h1 : i < p.size := by omega
  have h2 : j < p.size := by omega
  have e1 : p.getD i 0 = p.toList[i]'(by simpa using h1) := by simp [Array.getD, h1]
  have e2 : p.getD j 0 = p.toList[j]'(by simpa using h2) := by simp [Array.getD, h2]
  rw [e1, e2] at this
  exact h ((List.getElem_inj nd).mp this)
theorem Pl.ne' {p : Array Nat} (P : Pl n key p) {i j : Nat} (hi : i < n) (hj : j < n) (h : i ≠ j) : p.getD i 0 ≠ p.getD j 0 := fun e => P.ne hi hj h (congrArg key e)
theorem Up.snoc {p : Array Nat} {m : Nat} (h : Up key p m) (h1 : 1 ≤ m) (h2 : kp key p (m - 1) < kp key p m) : Up key p (m + 1) := fun i j hij hj => by
  by_cases e : j < m
  · exact h i j hij e
  · have e : j = m := by omega
    subst e
    by_cases e2 : i = j - 1
    · rw [e2]; exact h2
    · have := h i (j - 1) (by omega) (by omega)
      omega
theorem Down.snoc {p : Array Nat} {m : Nat} (h : Down key p m) (h1 : 1 ≤ m) (h2 : kp key p m < kp key p (m - 1)) : Down key p (m + 1) := fun i j hij hj => by
  by_cases e : j < m
  · exact h i j hij e
  · have e : j = m := by omega
    subst e
    by_cases e2 : i = j - 1
    · rw [e2]; exact h2
    · have := h i (j - 1) (by omega) (by omega)
      omega
theorem asc_ok {p : Array Nat} (P : Pl n key p) : ∀ f a, 1 ≤ a → a + f = n → Up key p a → TreeOk n (ltK key) (kas_asc p f a) (fun m => a ≤ m ∧ m ≤ n ∧ Up key p m ∧ (m < n → kp key p m < kp key p (m - 1)))
  | 0, a, h1, h2, hu => ⟨Nat.le_refl _, by omega, hu, fun h => by omega⟩
  | f + 1, a, h1, h2, hu => by
    refine ⟨P.lt (by omega), P.lt (by omega), P.ne' (by omega) (by omega) (by omega), ?_⟩
    by_cases c : kp key p a < kp key p (a - 1)
    · have e : ltK key (p.getD a 0) (p.getD (a - 1) 0) = true := decide_eq_true c
      rw [e]; dsimp only; rw [if_pos rfl]
      exact ⟨Nat.le_refl _, by omega, hu, fun _ => c⟩
    · have e : ltK key (p.getD a 0) (p.getD (a - 1) 0) = false := decide_eq_false c
      rw [e]; dsimp only; rw [if_neg (by simp)]
      have := P.ne (i := a) (j := a - 1) (by omega) (by omega) (by omega)
      exact TreeOk.mono (fun m h => ⟨by omega, h.2⟩) (asc_ok P f (a + 1) (by omega) (by omega) (hu.snoc h1 (by omega)))
theorem desc_ok {p : Array Nat} (P : Pl n key p) : ∀ f a, 1 ≤ a → a + f = n → Down key p a → TreeOk n (ltK key) (kas_desc f p a 0) (fun r => r.1 = p ∧ r.2.2 = 0 ∧ a ≤ r.2.1 ∧ r.2.1 ≤ n ∧ Down key p r.2.1)
  | 0, a, h1, h2, hu => ⟨rfl, rfl, Nat.le_refl _, by show a ≤ n; omega, hu⟩
  | f + 1, a, h1, h2, hu => by
    refine ⟨P.lt (by omega), P.lt (by omega), P.ne' (by omega) (by omega) (by omega), ?_⟩
    by_cases c : kp key p a < kp key p (a - 1)
    · have e : ltK key (p.getD a 0) (p.getD (a - 1) 0) = true := decide_eq_true c
      rw [e]; dsimp only; rw [if_pos rfl, if_neg (by omega)]
      exact TreeOk.mono (fun m h => ⟨h.1, h.2.1, by omega, h.2.2.2⟩) (desc_ok P f (a + 1) (by omega) (by omega) (hu.snoc h1 c))
    · have e : ltK key (p.getD a 0) (p.getD (a - 1) 0) = false := decide_eq_false c
      rw [e]; dsimp only; rw [if_neg (by simp)]
      have := P.ne (i := a) (j := a - 1) (by omega) (by omega) (by omega)
      refine ⟨P.lt (by omega), P.lt (by omega), P.ne' (by omega) (by omega) (by omega), ?_⟩
      have e : ltK key (p.getD (a - 1) 0) (p.getD a 0) = true := decide_eq_true (show kp key p (a - 1) < kp key p a by omega)
      rw [e]; dsimp only; rw [if_pos rfl]
      exact ⟨rfl, rfl, Nat.le_refl _, by show a ≤ n; omega, hu⟩
theorem getD_of {p q : Array Nat} {i j : Nat} (h : p[i]? = q[j]?) : p.getD i 0 = q.getD j 0 := by
  have e1 : p.getD i 0 = (p[i]?).getD 0 := by simp
  have e2 : q.getD j 0 = (q[j]?).getD 0 := by simp
  rw [e1, e2, h]
theorem Pl.rev {p : Array Nat} (P : Pl n key p) (m : Nat) : Pl n key (kas_rev p 0 m) := ⟨(mirror_perm p 0 m _).toList.trans P.perm, P.apart⟩
theorem kp_rev {p : Array Nat} {m i : Nat} (hm : m ≤ p.size) (h : i < m) : kp key (kas_rev p 0 m) i = kp key p (m - 1 - i) := by
  unfold kp
  congr 1
  refine getD_of ?_
  have := getElem?_mirror_all (xs := p) (i := 0) hm i
  rw [if_pos ⟨Nat.zero_le _, h⟩] at this
  rw [show m - 1 - i = 0 + m - 1 - i by omega]
  exact this
theorem Down.rev {p : Array Nat} (P : Pl n key p) {m : Nat} (hm : m ≤ n) (h : Down key p m) : Up key (kas_rev p 0 m) m := fun i j hij hj => by
  have hs := P.size
  rw [kp_rev (by omega) (by omega), kp_rev (by omega) hj]
  exact h _ _ (by omega) (by omega)
theorem count_ok {p : Array Nat} (P : Pl n key p) (h2 : 2 ≤ n) : TreeOk n (ltK key) (kas_count n p) (fun r => 1 ≤ r.1 ∧ r.1 ≤ n ∧ Pl n key r.2 ∧ Up key r.2 r.1) := by
  unfold kas_count
  refine TreeOk.bind (TreeOk.mono ?_ (asc_ok P (n - 1) 1 (Nat.le_refl _) (by omega) (fun i j h1 h2 => by omega)))
  rintro m ⟨m1, m2, mu, mn⟩
  by_cases e : m = n
  · subst e
    simp only [beq_self_eq_true, if_true]
    exact ⟨m1, m2, P, mu⟩
  · rw [if_neg (by simpa using e)]
    by_cases e1 : m > 1
    · rw [if_pos e1]
      refine ⟨P.lt (by omega), P.lt (by omega), P.ne' (by omega) (by omega) (by omega), ?_⟩
      have c : ltK key (p.getD 0 0) (p.getD (m - 1) 0) = true := decide_eq_true (mu 0 (m - 1) (by omega) (by omega))
      rw [c]; dsimp only; rw [if_pos rfl]
      exact ⟨m1, m2, P, mu⟩
    · rw [if_neg e1]
      have e1 : m = 1 := by omega
      subst e1
      have d2 : Down key p 2 := fun i j hij hj => by
        have h3 : i = 0 := by omega
        have h4 : j = 1 := by omega
        subst h3 h4
        exact mn (by omega)
      unfold kas_descPart
      refine TreeOk.bind (TreeOk.mono ?_ (desc_ok P (n - 2) 2 (by omega) (by omega) d2))
      rintro ⟨p', m', q⟩ ⟨rfl, rfl, a1, a2, a3⟩
      dsimp only at *
      rw [if_neg (by omega)]
      unfold kas_tail3
      refine TreeOk.bind (TreeOk.mono ?_ (asc_ok (P.rev m') (n - m') m' (by omega) (by omega) (a3.rev P a2)))
      rintro m'' ⟨b1, b2, b3, _⟩
      exact ⟨by show 1 ≤ m''; omega, b2, P.rev m', b3⟩
theorem place_ok {p : Array Nat} (P : Pl n key p) {k : Nat} (hk : k < n) (hu : Up key p k) : ∀ f l r, l ≤ r → r ≤ k → r - l ≤ f → (∀ i, i < l → kp key p i < kp key p k) → (∀ i, r ≤ i → i < k → kp key p k < kp key p i) →
    TreeOk n (ltK key) (kas_place p k f l r) (fun l => l ≤ k ∧ (∀ i, i < l → kp key p i < kp key p k) ∧ ∀ i, l ≤ i → i < k → kp key p k < kp key p i)
  | 0, l, r, h1, h2, h3, hl, hr => ⟨by omega, hl, fun i a b => hr i (by omega) b⟩
  | f + 1, l, r, h1, h2, h3, hl, hr => by
    unfold kas_place
    by_cases e : l ≥ r
    · rw [if_pos e]
      exact ⟨by omega, hl, fun i a b => hr i (by omega) b⟩
    · rw [if_neg e]
      refine ⟨P.lt hk, P.lt (by omega), P.ne' hk (by omega) (by omega), ?_⟩
      by_cases c : kp key p k < kp key p ((l + r) / 2)
      · have e : ltK key (p.getD k 0) (p.getD ((l + r) / 2) 0) = true := decide_eq_true c
        rw [e]; dsimp only; rw [if_pos rfl]
        refine place_ok P hk hu f l ((l + r) / 2) (by omega) (by omega) (by omega) hl fun i a b => ?_
        by_cases q : i = (l + r) / 2
        · rw [q]; exact c
        · have := hu ((l + r) / 2) i (by omega) b
          omega
      · have e : ltK key (p.getD k 0) (p.getD ((l + r) / 2) 0) = false := decide_eq_false c
        rw [e]; dsimp only; rw [if_neg (by simp)]
        have := P.ne (i := k) (j := (l + r) / 2) hk (by omega) (by omega)
        refine place_ok P hk hu f ((l + r) / 2 + 1) r (by omega) h2 (by omega) (fun i a => ?_) hr
        by_cases q : i = (l + r) / 2
        · rw [q]; omega
        · have := hu i ((l + r) / 2) (by omega) (by omega)
          omega
theorem Pl.bub {p : Array Nat} (P : Pl n key p) (k d : Nat) : Pl n key (bubble p k d) := ⟨(bubble_perm p k d).toList.trans P.perm, P.apart⟩
theorem kp_bub {p : Array Nat} {k l i : Nat} (hk : k < p.size) (hl : l ≤ k) : kp key (bubble p k (k - l)) i = if i = l then kp key p k else if l < i ∧ i ≤ k then kp key p (i - 1) else kp key p i := by
  have g := getElem?_bubble hk (k - l) (by omega) i
  rw [show k - (k - l) = l by omega] at g
  unfold kp
  by_cases e : i = l
  · rw [if_pos e] at g ⊢
    rw [getD_of g]
  · rw [if_neg e] at g ⊢
    by_cases e2 : l < i ∧ i ≤ k
    · rw [if_pos e2] at g ⊢
      rw [getD_of g]
    · rw [if_neg e2] at g ⊢
      rw [getD_of g]
theorem bub_up {p : Array Nat} (P : Pl n key p) {k l : Nat} (hk : k < n) (hu : Up key p k) (hl : l ≤ k) (h1 : ∀ i, i < l → kp key p i < kp key p k) (h2 : ∀ i, l ≤ i → i < k → kp key p k < kp key p i) : Up key (bubble p k (k - l)) (k + 1) := fun i j hij hj => by
  have hs := P.size
  rw [kp_bub (by omega) hl, kp_bub (by omega) hl]
  by_cases a1 : i = l
  · rw [if_pos a1, if_neg (by omega), if_pos (by omega)]
    exact h2 _ (by omega) (by omega)
  · rw [if_neg a1]
    by_cases a2 : l < i ∧ i ≤ k
    · rw [if_pos a2, if_neg (by omega), if_pos (by omega)]
      exact hu _ _ (by omega) (by omega)
    · rw [if_neg a2]
      by_cases a3 : j = l
      · rw [if_pos a3]
        exact h1 _ (by omega)
      · rw [if_neg a3]
        by_cases a4 : l < j ∧ j ≤ k
        · rw [if_pos a4]
          by_cases a5 : i = j - 1
          · omega
          · exact hu _ _ (by omega) (by omega)
        · rw [if_neg a4]
          exact hu _ _ hij (by omega)
theorem bin_ok : ∀ f {p : Array Nat} k, Pl n key p → k + f = n → Up key p k → TreeOk n (ltK key) (kas_bin f p k) (fun p' => Pl n key p' ∧ Up key p' n)
  | 0, p, k, P, h, hu => ⟨P, by
    have : k = n := by omega
    rw [← this]; exact hu⟩
  | f + 1, p, k, P, h, hu => by
    unfold kas_bin
    refine TreeOk.bind (TreeOk.mono ?_ (place_ok P (by omega) hu k 0 k (Nat.zero_le _) (Nat.le_refl _) (by omega) (fun i h => by omega) (fun i a b => by omega)))
    rintro l ⟨a, b, c⟩
    exact bin_ok f (k + 1) (P.bub k (k - l)) (by omega) (bub_up P (by omega) hu a b c)
theorem sort_ok (h2 : 2 ≤ n) (ha : ∀ i j, i < n → j < n → key i = key j → i = j) : TreeOk n (ltK key) (kas_sort n) (fun p => Pl n key p ∧ Up key p n) := by
  unfold kas_sort
  have P : Pl n key (List.toArray (List.range n)) := ⟨by simp, ha⟩
  refine TreeOk.bind (TreeOk.mono ?_ (count_ok P h2))
  rintro ⟨m, p⟩ ⟨a, b, c, d⟩
  dsimp only at *
  by_cases e : m < n
  · rw [if_pos e]
    exact bin_ok _ _ c (by omega) (by rw [show max m 1 = m by omega]; exact d)
  · rw [if_neg e]
    have : m = n := by omega
    subst this
    exact ⟨c, d⟩
end
end KS

set_option Elab.async false
set_option linter.all false
set_option maxRecDepth 100000
set_option maxHeartbeats 4000000
/-! sorted(xs), xs a list of lists of ints whose first ones differ. -/
namespace L2
open PySem PySem.Spec PyProof.Rows PySem.W KS
theorem wp_of_tree {n : Nat} {lt : Nat → Nat → Bool} {cmp : Nat → Nat → (Bool → Shared → Prop) → Shared → Prop} {J : Shared → Prop} (hc : ∀ i j C s, i < n → j < n → i ≠ j → J s → (∀ s', J s' → C (lt i j) s') → cmp i j C s) {α : Type} {Qp : α → Prop} {Q : α → Shared → Prop}
    (q : ∀ a s', Qp a → J s' → Q a s') : ∀ (t : KasT α) (s : Shared), TreeOk n lt t Qp → J s → t.kasWp cmp Q s
  | .ret a, s, h, hj => q a s h hj
  | .ask i j k, s, h, hj => hc i j _ s h.1 h.2.1 h.2.2.1 hj fun s' hs' => wp_of_tree hc q (k (lt i j)) s' h.2.2.2 hs'
section
variable {prog : Program} {w : World} {A : Around} {E : Value → Shared → Prop} {s : Shared}
theorem rich_lt_int {x y : Int} {t u : Tok} {Q : Value → Shared → Prop} (h : Q (.bool (decide (x < y))) s) : wpAny (model prog w) A (richCompare .Lt (.int x t) (.int y u)) Q E s :=
  wpAny_richCompare_same (typeIs_int s x t) (typeIs_int s y u) slot_int_lt (call_int_lt ⟨(fun z => nomatch z), h⟩)
end
theorem lt_loop (l b : Addr) (xs ys : Array Value) (n n2 : Nat) (dd dd2 : Option Addr) (sl sl2 : Array (Option Value)) (x y : Int) (t u : Tok) (hx : xs[0]? = some (.int x t)) (hy : ys[0]? = some (.int y u)) (hne : x ≠ y) :
    Meets (Builtin.«list.__eq__.loop» ⟨[.ref l, .ref b, rawInt 0, rawInt 0], []⟩)
      (fun A R s => s.heap.get? l = some { cls := .type "list", dict := dd, data := .seq xs n, slots := sl } ∧ s.heap.get? b = some { cls := .type "list", dict := dd2, data := .seq ys n2, slots := sl2 } ∧ R (.ok (.ret (.bool (decide (x < y))))) s) := by
  intro prog w A R s h
  obtain ⟨hp, g, d, tk, os⟩ := s
  obtain ⟨hl, hb, h⟩ := h
  have hx' : xs[(0 : Int).toNat]? = some (.int x t) := hx
  have hy' : ys[(0 : Int).toNat]? = some (.int y u) := hy
  have hf : (x == y) = false := by simpa using hne
  wp_walk using AutoSeq1.wpAny_loadPart' hl, AutoSeq1.wpAny_loadPart' hb
  rw [hx', hy']
  refine wpAny_bind (wpAny_eqBool_int ?_)
  rw [hf]
  wp_walk using AutoSeq1.wpAny_loadPart' hl, AutoSeq1.wpAny_loadPart' hb
  rw [hx', hy']
  refine wpAny_bind (rich_lt_int ?_)
  wp_walk
  exact h
theorem lt_meets (l b : Addr) (xs ys : Array Value) (n n2 : Nat) (dd dd2 : Option Addr) (sl sl2 : Array (Option Value)) (x y : Int) (t u : Tok) (hx : xs[0]? = some (.int x t)) (hy : ys[0]? = some (.int y u)) (hne : x ≠ y) :
    Meets (Builtin.«list.__lt__» ⟨[.ref l, .ref b], []⟩)
      (fun A R s => s.heap.get? l = some { cls := .type "list", dict := dd, data := .seq xs n, slots := sl } ∧ s.heap.get? b = some { cls := .type "list", dict := dd2, data := .seq ys n2, slots := sl2 } ∧ R (.ok (.ret (.bool (decide (x < y))))) s) := by
  intro prog w A R s h
  obtain ⟨hp, g, d, tk, os⟩ := s
  obtain ⟨hl, hb, h⟩ := h
  have f3 := AutoSeq1.sub_list_list
  wp_walk using AutoSeq1.wpAny_loadPart' hl, AutoSeq1.wpAny_loadPart' hb
  refine ⟨plainId_quiet PySem.MeetsSeq3.plain_eq_loop _, codeAny_builtin PySem.MeetsSeq3.entry_eq_loop ?_⟩
  rw [Around.under_plainId PySem.MeetsSeq3.plain_eq_loop _]
  exact lt_loop l b xs ys n n2 dd dd2 sl sl2 x y t u hx hy hne prog w A R _ ⟨hl, hb, h⟩
section
variable {prog : Program} {w : World} {A : Around} {E : Value → Shared → Prop} {s : Shared}
theorem key_lt_list {l b : Addr} {xs ys : Array Value} {x y : Int} {t u : Tok} {Q : Bool → Shared → Prop} (hu : A.units < cLine) (hl : s.heap.IsList l xs) (hb : s.heap.IsList b ys) (hx : xs[0]? = some (.int x t)) (hy : ys[0]? = some (.int y u)) (hne : x ≠ y)
    (h : Q (decide (x < y)) s) : wpAny (model prog w) A (keyLt' oneType' (.ref l) (.ref b)) Q E s := by
  obtain ⟨⟨c, d, dt, sl⟩, ho, hc, n, hd⟩ := hl
  obtain ⟨⟨c2, d2, dt2, sl2⟩, ho2, hc2, n2, hd2⟩ := hb
  dsimp only at hc hd hc2 hd2
  subst hc hd hc2 hd2
  rw [keyLt'_oneType, oneLt'_eq]
  simp only [if_true]
  refine wpAny_bind (wpAny_cRoomFor hu ?_)
  refine wpAny_bind (wpAny_callSpecialIfBound?_slot (T := "list") ⟨_, ho, rfl⟩ F.slot_list_lt (call_meets F.slot_list_lt ⟨_, ho, rfl⟩ F.entry_list_lt (F.args_list_lt_2 _ _) (lt_meets l b xs ys n n2 d d2 sl sl2 x y t u hx hy hne) ⟨ho, ho2, ?_⟩))
  exact wpAny_truthy_bool h
end

/-- the heap while a list is being sorted -/
abbrev midHeap (h : Heap) (a : Addr) (vs : List Value) : Heap := ((h.update a (Obj.mapSeq fun _ => #[])).push (seqObj "tuple" vs.toArray 0)).push (seqObj "list" #[] 0)
section
variable {prog : Program} {w : World} {A : Around} {E : Value → Shared → Prop} {s : Shared}
theorem midHeap_old {h : Heap} {a b : Addr} {vs : List Value} {o : Obj} (hb : b ≠ a) (e : h.get? b = some o) : (midHeap h a vs).get? b = some o :=
  Heap.get?_push_of_some _ (Heap.get?_push_of_some _ ((Heap.get?_update_ne _ _ _ _ hb).trans e))
theorem sort_short {a : Addr} {vs : List Value} {n : Nat} {P : PySem.Fin → Shared → Prop} (ho : s.heap.get? a = some (seqObj "list" vs.toArray n)) (hs : vs.length < 2)
    (h : P (.done (.ret .none)) { s with heap := sortedHeap s.heap a vs vs.toArray }) : wpAny (model prog w) A (Builtin.«list.sort» ⟨[.ref a], []⟩) P E s := by
  have h1000 : vs.length ≤ sizeLine := by rw [sizeLine_eq]; omega
  have small : vs.toArray.size < 2 := by rw [List.size_toArray]; exact hs
  rw [list_sort_plain]
  refine wpAny_bind (listItems_at ho rfl (wpAny_bind (listUpdate_at ho rfl ?_ (by rw [List.size_toArray]; exact h1000) (Nat.zero_le _))))
  have ho1 := get?_update_seq ho fun _ => (#[] : Array Value)
  refine wpAny_bind (seqEpoch_at ho1 rfl (wpAny_bind (wpAny_newTuple ?_ h1000)))
  refine wpAny_bind (wpAny_newList ?_ (Nat.zero_le _))
  refine wpAny_holding ?_
  have ho6 : (midHeap s.heap a vs).get? a = some _ := Heap.get?_push_of_some _ (Heap.get?_push_of_some _ ho1)
  show wpAny (model prog w) A _ P E { s with heap := midHeap s.heap a vs }
  dsimp only
  rw [if_pos small, if_pos small]
  refine wpAny_bind (wpAny_pure ?_)
  rw [StateT.run_pure]
  refine wpAny_bind (wpAny_pure ?_)
  dsimp only
  have eo : (arrOf (SortSt.mk' general' (vs.toArray.zip vs.toArray) #[] 7 none)).map (·.2) = vs.toArray := by
    show (vs.toArray.zip vs.toArray).map (·.2) = _
    apply Array.toList_inj.mp
    rw [Array.toList_map, Array.toList_zip]
    exact List.map_snd_zip (Nat.le_refl _)
  rw [eo]
  refine wpAny_bind (seqEpoch_at ho6 rfl (wpAny_bind (listUpdate_at ho6 rfl ?_ (Nat.zero_le _) (by rw [List.size_toArray]; omega))))
  simp only [bne_self_eq_false, Bool.false_eq_true, if_false]
  exact wpAny_pure h
theorem sort_asked {a : Addr} {vs : List Value} {n : Nat} {P : PySem.Fin → Shared → Prop} {G : Array Nat → Prop} (ho : s.heap.get? a = some (seqObj "list" vs.toArray n)) (h2 : 2 ≤ vs.length) (h64 : vs.length < 64)
    (hT : ∀ v ∈ vs, Looks (model prog w) (midHeap s.heap a vs) (typeOf v) (.type "list"))
    (ask : (kas_sort vs.length).kasWp (kas_ask prog w A oneType' vs) (fun p s' => G p ∧ ∃ tk, s' = { s with heap := midHeap s.heap a vs, toks := tk }) { s with heap := midHeap s.heap a vs })
    (h : ∀ p tk, G p → p.size = vs.length → P (.done (.ret .none)) { s with heap := sortedHeap s.heap a vs (List.toArray (p.toList.map fun i => vs.getD i Value.none)), toks := tk }) : wpAny (model prog w) A (Builtin.«list.sort» ⟨[.ref a], []⟩) P E s := by
  have h1000 : vs.length ≤ sizeLine := by rw [sizeLine_eq]; omega
  have large : ¬ vs.toArray.size < 2 := by rw [List.size_toArray]; omega
  rw [list_sort_plain]
  refine wpAny_bind (listItems_at ho rfl (wpAny_bind (listUpdate_at ho rfl ?_ (by rw [List.size_toArray]; exact h1000) (Nat.zero_le _))))
  have ho1 := get?_update_seq ho fun _ => (#[] : Array Value)
  refine wpAny_bind (seqEpoch_at ho1 rfl (wpAny_bind (wpAny_newTuple ?_ h1000)))
  refine wpAny_bind (wpAny_newList ?_ (Nat.zero_le _))
  refine wpAny_holding ?_
  have ho6 : (midHeap s.heap a vs).get? a = some _ := Heap.get?_push_of_some _ (Heap.get?_push_of_some _ ho1)
  show wpAny (model prog w) A _ P E { s with heap := midHeap s.heap a vs }
  dsimp only
  rw [if_neg large, if_neg large]
  refine wpAny_bind (kas_kind (T := .type "list") h2 hT (by decide) (by decide) ?_)
  have est : SortSt.mk' oneType' (vs.toArray.zip vs.toArray) #[] 7 none = kas_st oneType' (pairsOf vs) (List.toArray (List.range vs.length)) := by
    have e := kas_range (pairsOf vs)
    rw [pairsOf_size] at e
    show SortSt.mk' oneType' (pairsOf vs) #[] 7 none = SortSt.mk' oneType' _ #[] 7 none
    rw [e]
  rw [kas_ask_eq] at ask
  have run := kas_runs (E := E) (Q := fun _ st' s' => ∃ p : Array Nat, p.size = vs.length ∧ arrOf st' = p.map (kas_item (pairsOf vs)) ∧ failedOf st' = none ∧ G p ∧ ∃ tk, s' = { s with heap := midHeap s.heap a vs, toks := tk })
    h2 h64 (fun p' st' s' a1 a2 a3 a4 => ⟨p', a1, a2, a3, a4⟩) ask
  rw [← est] at run
  refine wpAny_bind (wpAny_mono run ?_ fun _ _ e => e)
  rintro ⟨⟨⟩, st'⟩ s' ⟨p, hp, har, hf, hg, tk, rfl⟩
  dsimp only
  have hout : (arrOf st').map (·.2) = List.toArray (p.toList.map fun i => vs.getD i Value.none) := by
    apply Array.toList_inj.mp
    rw [har, Array.map_map, Array.toList_map]
    exact List.map_congr_left fun i _ => by show (kas_item (pairsOf vs) i).2 = _; rw [kas_item_eq]
  rw [hout]
  refine wpAny_bind (seqEpoch_at ho6 rfl (wpAny_bind (listUpdate_at ho6 rfl ?_ (Nat.zero_le _) ?_)))
  · rw [hf]
    simp only [bne_self_eq_false, Bool.false_eq_true, if_false]
    exact wpAny_pure (h p tk hg hp)
  · rw [List.size_toArray, List.length_map, Array.length_toList, hp]
    omega
/-- sorted(xs): by what its list's sort does -/
theorem sorted_by {l : Addr} {vs : List Value} {Q : Value → Shared → Prop} (hl : s.heap.IsList l vs.toArray) (hz : vs.length ≤ sizeLine)
    (h : ∀ h1 : Heap, (∀ b o, s.heap.get? b = some o → h1.get? b = some o) → h1.get? (s.heap.objs.size + 1) = some (seqObj "list" vs.toArray 0) → h1.objs.size = s.heap.objs.size + 2 →
      wpAny (model prog w) A.in1.in1 (Builtin.«list.sort» ⟨[.ref (s.heap.objs.size + 1)], []⟩) (fun fin s' => fin = .done (.ret .none) ∧ Q (.ref (s.heap.objs.size + 1)) s') E { s with heap := h1 }) :
    wpAny (model prog w) A (call (.builtin "sorted") [.ref l]) Q E s := by
  refine Calls.call_function_entry kind_sorted plain_sorted entry_sorted (args_sorted1 _) ?_
  unfold Builtin.«sorted»
  refine wpAny_bind (m := checkCount "sorted" 1 1 _) (wpAny_pure (wpAny_bind (collect_list hl (wpAny_bind (wpAny_newList ?_ hz)) hz)))
  have hsz : ((s.heap.push (seqObj "list" #[] 0)).update s.heap.objs.size (Obj.mapSeq (· ++ vs.toArray))).objs.size = s.heap.objs.size + 1 := by rw [Heap.size_update, size_push']
  generalize hG : ((s.heap.push (seqObj "list" #[] 0)).update s.heap.objs.size (Obj.mapSeq (· ++ vs.toArray))) = h0 at hsz
  have keep : ∀ b o, s.heap.get? b = some o → (h0.push (seqObj "list" vs.toArray 0)).get? b = some o := fun b o q => by
    rw [← hG]
    exact Heap.get?_push_of_some _ ((Heap.get?_update_ne _ _ _ _ (Nat.ne_of_lt (Heap.lt_size q))).trans (Heap.get?_push_of_some _ q))
  have hoL : (h0.push (seqObj "list" vs.toArray 0)).get? (s.heap.objs.size + 1) = some (seqObj "list" vs.toArray 0) := by
    rw [← hsz]; exact Heap.get?_push_size _ rfl
  show wpAny _ _ _ _ _ { s with heap := h0.push (seqObj "list" vs.toArray 0) }
  rw [hsz]
  refine wpAny_bind (wpAny_holding (wpAny_call_entry slot_list_sort ⟨_, hoL, rfl⟩ entry_list_sort (wpAny_mono (h _ keep hoL (by rw [size_push', hsz])) (fun fin s' hf => ?_) fun _ _ e => e) (args_list_sort _)))
  exact ⟨_, hf.1, wpAny_pure ⟨_, rfl, hf.2⟩⟩
end
section
variable {X : Cx}
theorem getD_map_ref {bs : List Addr} {i : Nat} {b : Addr} (h : bs[i]? = some b) : (bs.map Value.ref).getD i Value.none = .ref b := by simp [List.getD_eq_getElem?_getD, h]
theorem vals_refs : ∀ {bs : List Addr} {its : List Value}, Vals (bs.map V.ref) its → its = bs.map Value.ref
  | [], its, r => by cases r; rfl
  | b :: bs, its, r => by
    cases r with
    | cons r1 r2 => cases r1; rw [vals_refs r2]; rfl
theorem vals_of_refs : ∀ bs : List Addr, Vals (bs.map V.ref) (bs.map Value.ref)
  | [] => .nil
  | b :: bs => .cons rfl (vals_of_refs bs)
/-- sorted(xs): the lists of xs, by their first ones -/
def rSortLL : List V → Hp → VK → Prop := fun xs H Q => ∃ (a : Addr) (bs : List Addr) (rs : List (List Int)), xs = [.ref a] ∧ H a = some (.lst (bs.map V.ref)) ∧ bs.length = rs.length ∧ (∀ (i : Nat) (b : Addr) (r : List Int), bs[i]? = some b → rs[i]? = some r → H b = some (.lst (r.map V.int))) ∧
  (∀ r ∈ rs, r ≠ []) ∧ (rs.map fun r => r.headD 0).Nodup ∧ bs.length < 64 ∧ ∀ (l : Addr) (p : List Nat), H l = none → p.Perm (List.range rs.length) → (p.map fun i => (rs.getD i []).headD 0).Pairwise (· < ·) → Q (.ref l) (upd H l (.lst (p.map fun i => V.ref (bs.getD i 0))))
theorem call_sortLL (hu : X.A.units + 16 < cLine) : CallR X (.builtin "sorted") rSortLL := by
  intro pins s σ H xs us Q I r h
  obtain ⟨a, bs, rs, rfl, hH, hlen, row, ne, ndh, h64, q⟩ := h
  obtain ⟨u, rfl, ru⟩ := vals1 r
  cases ru
  obtain ⟨z, its, n, rv, _, e⟩ := I.lstM hH
  have ei := vals_refs rv
  subst ei
  have hvl : (bs.map Value.ref).length = bs.length := List.length_map _
  refine sorted_by ⟨_, e, rfl, _, rfl⟩ (by rw [hvl]; rw [List.length_map] at z; exact z) fun h1 keep hL hsz1 => ?_
  -- behind the sort
  have fin : ∀ (h2 : Heap) (tk : Nat) (p : List Nat), (∀ b o, s.heap.get? b = some o → h2.get? b = some o) → (∃ c, h2.get? (s.heap.objs.size + 1) = some (seqObj "list" (p.map fun i => Value.ref (bs.getD i 0)).toArray c)) → p.Perm (List.range rs.length) →
      (p.map fun i => (rs.getD i []).headD 0).Pairwise (· < ·) → ∃ x H', Inv X pins σ H' { s with heap := h2, toks := tk } ∧ RelV x (.ref (s.heap.objs.size + 1)) ∧ Q x H' := fun h2 tk p k2 hc hp hr => by
    obtain ⟨c, hc⟩ := hc
    have hpl : p.length = bs.length := by rw [hp.length_eq, List.length_range, hlen]
    refine ⟨.ref (s.heap.objs.size + 1), _, I.laid (t' := tk) (o := .lst (p.map fun i => V.ref (bs.getD i 0))) k2 (Nat.le_succ _) ⟨?_, p.map fun i => Value.ref (bs.getD i 0), c, ?_, hc⟩, rfl, q _ p (I.hok.fresh (Nat.le_succ _)) hp hr⟩
    · rw [List.length_map, sizeLine_eq]; omega
    · have := vals_of_refs (p.map fun i => bs.getD i 0)
      simpa [List.map_map, Function.comp_def] using this
  have hkey : ∀ i, i < bs.length → ∃ (b : Addr) (x : Int) (tl : List Int), bs[i]? = some b ∧ rs.getD i [] = x :: tl ∧ H b = some (.lst ((x :: tl).map V.int)) := fun i hi => by
    have hr' : i < rs.length := by omega
    have h1 : rs.getD i [] = rs[i] := by simp [hr']
    obtain ⟨x, tl, e⟩ := List.exists_cons_of_ne_nil (ne rs[i] (List.getElem_mem hr'))
    exact ⟨bs[i], x, tl, by simp [hi], by rw [h1, e], by rw [← e]; exact row i _ _ (by simp [hi]) (by simp [hr'])⟩
  by_cases h2 : bs.length < 2
  · refine sort_short (s := { s with heap := h1 }) hL (by rw [hvl]; exact h2) ⟨rfl, ?_⟩
    refine fin _ s.toks (List.range rs.length) (fun b o g => ?_) ?_ (List.Perm.refl _) ?_
    · have hb := Heap.lt_size g
      exact (sortedHeap_old (Nat.ne_of_lt (Nat.lt_succ_of_lt hb)) (by show b < h1.objs.size; rw [hsz1]; exact Nat.lt_of_lt_of_le hb (Nat.le_add_right _ 2))).trans (keep b o g)
    · obtain ⟨c, hc⟩ := sortedHeap_at (out := (bs.map Value.ref).toArray) hL
      refine ⟨c, hc.trans ?_⟩
      congr 3
      refine List.ext_getElem (by simp [hlen]) fun i g1 g2 => ?_
      simp at g1
      simp [g1]
    · rw [← hlen]
      rcases Nat.lt_or_ge bs.length 1 with g | g
      · rw [show bs.length = 0 by omega]; exact List.Pairwise.nil
      · rw [show bs.length = 1 by omega]; simp [List.range_succ]
  · -- the questions
    have hu2 : X.A.in1.in1.units < cLine := by show X.A.units + 1 + 1 < cLine; omega
    let key : Nat → Int := fun i => (rs.getD i []).headD 0
    have apart : ∀ i j, i < (bs.map Value.ref).length → j < (bs.map Value.ref).length → key i = key j → i = j := fun i j hi hj e => by
      rw [hvl] at hi hj
      have e1 : (rs.map fun r => r.headD 0)[i]'(by simp; omega) = key i := by simp [key, show i < rs.length by omega]
      have e2 : (rs.map fun r => r.headD 0)[j]'(by simp; omega) = key j := by simp [key, show j < rs.length by omega]
      exact (List.getElem_inj ndh).mp (by rw [e1, e2]; exact e)
    have look : ∀ i, i < bs.length → ∃ (b : Addr) (ys : Array Value) (t : Tok), (bs.map Value.ref).getD i Value.none = .ref b ∧ (midHeap h1 (s.heap.objs.size + 1) (bs.map Value.ref)).IsList b ys ∧ ys[0]? = some (.int (key i) t) := fun i hi => by
      obtain ⟨b, x, tl, hb, hk, hb2⟩ := hkey i hi
      obtain ⟨_, its, n, rv, _, e⟩ := I.lstM hb2
      cases rv with
      | cons r1 r2 =>
        obtain ⟨t, rfl⟩ := r1
        refine ⟨b, _, t, getD_map_ref hb, ⟨_, midHeap_old (Nat.ne_of_lt (Nat.lt_succ_of_lt (Heap.lt_size e))) (keep b _ e), rfl, _, rfl⟩, ?_⟩
        have : key i = x := by show (rs.getD i []).headD 0 = x; rw [hk]; rfl
        rw [this]
        simp
    have tree := sort_ok (n := (bs.map Value.ref).length) (key := key) (by rw [hvl]; omega) apart
    refine sort_asked (s := { s with heap := h1 }) (G := fun p => Pl (bs.map Value.ref).length key p ∧ Up key p (bs.map Value.ref).length) hL (by rw [hvl]; omega) (by rw [hvl]; exact h64) (fun v hv => ?_) ?_ fun p tk hg hp => ⟨rfl, ?_⟩
    · obtain ⟨i, hi, ev⟩ := List.getElem_of_mem hv
      rw [hvl] at hi
      obtain ⟨b, ys, t, e1, ⟨o, e2, e3, _⟩, _⟩ := look i hi
      have : v = .ref b := by rw [← ev, ← e1]; simp [hi]
      subst this
      exact fun _ _ _ _ k q => wpAny_typeOf (T := "list") ⟨o, k _ _ e2, e3⟩ q
    · refine wp_of_tree (n := (bs.map Value.ref).length) (lt := ltK key) (J := fun s' => ∃ tk, s' = { s with heap := midHeap h1 (s.heap.objs.size + 1) (bs.map Value.ref), toks := tk }) (fun i j C s' hi hj eij hJ hC => ?_) (fun p s' hp hJ => ⟨hp, hJ⟩) _ _ tree ⟨s.toks, rfl⟩
      obtain ⟨tk, rfl⟩ := hJ
      rw [hvl] at hi hj
      obtain ⟨b, ys, t, e1, l1, x1⟩ := look i hi
      obtain ⟨b', ys', t', e2, l2, x2⟩ := look j hj
      unfold kas_ask
      rw [e1, e2]
      exact key_lt_list (s := { s with heap := midHeap h1 (s.heap.objs.size + 1) (bs.map Value.ref), toks := tk }) hu2 l1 l2 x1 x2 (fun z => eij (apart i j (by rw [hvl]; exact hi) (by rw [hvl]; exact hj) z)) (hC _ ⟨tk, rfl⟩)
    · obtain ⟨P, U⟩ := hg
      rw [hvl, hlen] at P U
      have hsz : p.size = rs.length := P.size
      refine fin _ tk p.toList (fun b o g => ?_) ?_ P.perm ?_
      · have hb := Heap.lt_size g
        exact (sortedHeap_old (Nat.ne_of_lt (Nat.lt_succ_of_lt hb)) (by show b < h1.objs.size; rw [hsz1]; exact Nat.lt_of_lt_of_le hb (Nat.le_add_right _ 2))).trans (keep b o g)
      · obtain ⟨c, hc⟩ := sortedHeap_at (out := (p.toList.map fun i => (bs.map Value.ref).getD i Value.none).toArray) hL
        refine ⟨c, hc.trans ?_⟩
        congr 3
        refine List.map_congr_left fun i hi => ?_
        have : i < rs.length := List.mem_range.mp (P.perm.mem_iff.mp hi)
        have hi' : i < bs.length := by omega
        simp [hi']
      · rw [List.pairwise_iff_getElem]
        intro i j hi hj hij
        simp only [List.length_map, Array.length_toList] at hi hj
        have := U i j hij (by omega)
        unfold kp at this
        simpa [key, hi, hj] using this
end
end L2

set_option Elab.async false
set_option linter.all false
set_option maxRecDepth 100000
set_option maxHeartbeats 4000000
namespace KS
open PySem L2
/-! Lists of lists of nums on the heap. -/
abbrev nums (ns : List Int) : List V := ns.map V.int
abbrev refs (bs : List Addr) : List V := bs.map V.ref
structure Rows (H : Hp) (a : Addr) (bs : List Addr) (rs : List (List Int)) : Prop where
  top : H a = some (.lst (refs bs))
  len : bs.length = rs.length
  row : ∀ (i : Nat) (b : Addr) (r : List Int), bs[i]? = some b → rs[i]? = some r → H b = some (.lst (nums r))
  nd : bs.Nodup
/-- none of them stands in the heap -/
def New (H : Hp) (l : List Addr) : Prop := ∀ c ∈ l, H c = none
theorem Same.upd {H H' : Hp} {b : Addr} {o : HO} (s : Same H H') (h : H b = none) : Same H (L2.upd H' b o) := fun c u e => by
  rw [upd_ne (ne_of_none e h)]
  exact s c u e
theorem Same.new {H H' : Hp} {l : List Addr} (s : Same H H') (h : New H' l) : New H l := fun c hc => s.free (h c hc)
theorem Rows.same {H H' : Hp} {a : Addr} {bs : List Addr} {rs : List (List Int)} (R : Rows H a bs rs) (s : Same H H') : Rows H' a bs rs :=
  ⟨s _ _ R.top, R.len, fun i b r h1 h2 => s _ _ (R.row i b r h1 h2), R.nd⟩
theorem Rows.at {H : Hp} {a : Addr} {bs : List Addr} {rs : List (List Int)} (R : Rows H a bs rs) {i : Nat} {r : List Int} (h : rs[i]? = some r) : ∃ b, bs[i]? = some b ∧ H b = some (.lst (nums r)) ∧ b ∈ bs := by
  have hi : i < bs.length := by rw [R.len]; exact (List.getElem?_eq_some_iff.mp h).1
  exact ⟨bs[i], by simp [hi], R.row i _ r (by simp [hi]) h, List.getElem_mem hi⟩
theorem Rows.get {H : Hp} {a : Addr} {bs : List Addr} {rs : List (List Int)} (R : Rows H a bs rs) {i : Nat} (h : i < rs.length) : ∃ b, bs[i]? = some b ∧ H b = some (.lst (nums rs[i])) ∧ b ∈ bs := R.at (by simp [h])
theorem Rows.ne {H : Hp} {a : Addr} {bs : List Addr} {rs : List (List Int)} (R : Rows H a bs rs) {b : Addr} (hb : b ∈ bs) : b ≠ a := by
  obtain ⟨i, hi, e⟩ := List.getElem_of_mem hb
  have hr : i < rs.length := by rw [← R.len]; exact hi
  have h := R.row i b rs[i] (by simp [hi, e]) (by simp [hr])
  refine ne_of h R.top fun z => ?_
  have z' : nums rs[i] = refs bs := by injection z
  cases bs with
  | nil => cases hb
  | cons c cs =>
    cases q : rs[i] with
    | nil => rw [q] at z'; cases z'
    | cons n ns => rw [q] at z'; injection z' with z1 _; cases z1
theorem Rows.set {H : Hp} {a : Addr} {bs : List Addr} {rs : List (List Int)} (R : Rows H a bs rs) {i : Nat} {b : Addr} (r : List Int) (h : bs[i]? = some b) : Rows (L2.upd H b (.lst (nums r))) a bs (rs.set i r) := by
  have hb : b ∈ bs := List.mem_of_getElem? h
  refine ⟨by rw [upd_ne (R.ne hb).symm]; exact R.top, by rw [List.length_set]; exact R.len, fun j c q h1 h2 => ?_, R.nd⟩
  by_cases e : j = i
  · subst e
    rw [h] at h1
    cases h1
    have hj : j < rs.length := by rw [← R.len]; exact (List.getElem?_eq_some_iff.mp h).1
    rw [List.getElem?_set_self hj] at h2
    cases h2
    exact upd_same
  · have hc : c ≠ b := by
      intro z
      subst z
      obtain ⟨l1, e1⟩ := List.getElem?_eq_some_iff.mp h
      obtain ⟨l2, e2⟩ := List.getElem?_eq_some_iff.mp h1
      exact e ((List.getElem_inj R.nd).mp (e2.trans e1.symm))
    rw [List.getElem?_set_ne (Ne.symm e)] at h2
    rw [upd_ne hc]
    exact R.row j c q h1 h2
theorem Rows.upd {H : Hp} {a : Addr} {bs : List Addr} {rs : List (List Int)} (R : Rows H a bs rs) {c : Addr} {o : HO} (h1 : c ≠ a) (h2 : c ∉ bs) : Rows (L2.upd H c o) a bs rs := by
  refine ⟨by rw [upd_ne (Ne.symm h1)]; exact R.top, R.len, fun j b q e1 e2 => ?_, R.nd⟩
  rw [upd_ne (fun z => h2 (by rw [← z]; exact List.mem_of_getElem? e1))]
  exact R.row j b q e1 e2
/-- the row at place i is another list -/
theorem Rows.put {H : Hp} {a : Addr} {bs : List Addr} {rs : List (List Int)} (R : Rows H a bs rs) {i : Nat} {c : Addr} {r : List Int} (hi : i < bs.length) (hc : H c = some (.lst (nums r))) (hn : c ∉ bs) (hca : c ≠ a) :
    Rows (L2.upd H a (.lst (refs (bs.set i c)))) a (bs.set i c) (rs.set i r) := by
  refine ⟨upd_same, by simp [R.len], fun j b q h1 h2 => ?_, ?_⟩
  · by_cases e : j = i
    · subst e
      rw [List.getElem?_set_self hi] at h1
      rw [List.getElem?_set_self (by rw [← R.len]; exact hi)] at h2
      cases h1
      cases h2
      rw [upd_ne hca]
      exact hc
    · rw [List.getElem?_set_ne (Ne.symm e)] at h1 h2
      rw [upd_ne (R.ne (List.mem_of_getElem? h1))]
      exact R.row j b q h1 h2
  · have nd := R.nd
    clear R
    induction bs generalizing i with
    | nil => simp
    | cons b bs ih =>
      obtain ⟨n1, n2⟩ := List.nodup_cons.mp nd
      cases i with
      | zero => exact List.nodup_cons.mpr ⟨fun m => hn (List.mem_cons_of_mem _ m), n2⟩
      | succ j =>
        rw [List.set_cons_succ]
        refine List.nodup_cons.mpr ⟨fun m => ?_, ih (by simpa using hi) (fun m => hn (List.mem_cons_of_mem _ m)) n2⟩
        rcases List.mem_or_eq_of_mem_set m with z | z
        · exact n1 z
        · exact hn (by rw [← z]; exact List.mem_cons_self)
/-- one row more: for building them -/
theorem Rows.snoc {H : Hp} {a : Addr} {bs : List Addr} {rs : List (List Int)} (R : Rows H a bs rs) {c : Addr} {r : List Int} (hc : H c = some (.lst (nums r))) (hn : c ∉ bs) (hca : c ≠ a) :
    Rows (L2.upd H a (.lst (refs bs ++ [.ref c]))) a (bs ++ [c]) (rs ++ [r]) := by
  refine ⟨by rw [upd_same]; simp [refs], by simp [R.len], fun j b q h1 h2 => ?_, ?_⟩
  · by_cases e : j < bs.length
    · rw [List.getElem?_append_left e] at h1
      rw [List.getElem?_append_left (by rw [← R.len]; exact e)] at h2
      rw [upd_ne (R.ne (List.mem_of_getElem? h1))]
      exact R.row j b q h1 h2
    · rw [List.getElem?_append_right (by omega)] at h1
      rw [List.getElem?_append_right (by rw [← R.len]; omega), ← R.len] at h2
      have hj : j - bs.length = 0 := by
        have := (List.getElem?_eq_some_iff.mp h1).1
        simp at this
        omega
      rw [hj] at h1 h2
      simp at h1 h2
      subst h1 h2
      rw [upd_ne hca]
      exact hc
  · rw [List.nodup_append]
    refine ⟨R.nd, by simp, fun x hx y hy => ?_⟩
    have : y = c := by simpa using hy
    subst this
    intro z
    exact hn (by rw [← z]; exact hx)
theorem Rows.nil {H : Hp} {a : Addr} (h : H a = some (.lst [])) : Rows H a [] [] := ⟨h, rfl, fun i b r h1 => by simp at h1, List.nodup_nil⟩
theorem atI_refs {bs : List Addr} {i : Nat} {b : Addr} (h : bs[i]? = some b) : atI (refs bs) (i : Int) = some (V.ref b) := atI_nat (by rw [List.getElem?_map, h]; rfl)
theorem atI_ints {ns : List Int} {i : Nat} {n : Int} (h : ns[i]? = some n) : atI (nums ns) (i : Int) = some (V.int n) := atI_nat (by rw [List.getElem?_map, h]; rfl)
theorem len_ints (ns : List Int) : (nums ns).length = ns.length := List.length_map _
theorem inV_ints (x : Int) (ns : List Int) : inV (.int x) (nums ns) = decide (x ∈ ns) := by
  induction ns with
  | nil => rfl
  | cons a r ih =>
    show (eqV (.int a) (.int x) || inV (.int x) (nums r)) = _
    rw [ih]
    show ((a == x) || decide (x ∈ r)) = _
    by_cases e : a = x
    · subst e; simp
    · have hb : (a == x) = false := by simpa using e
      have e' : ¬ x = a := fun z => e z.symm
      rw [hb]
      simp [e']
theorem in_of {z y : Int} {r : List Int} (e : z = y) (h : inV (.int z) (nums r) = true) : y ∈ r := by
  rw [inV_ints, e] at h
  simpa using h
theorem notin_of_not {z y : Int} {r : List Int} (e : z = y) (h : ¬ inV (.int z) (nums r) = true) : ¬ y ∈ r := by
  rw [inV_ints, e] at h
  simpa using h
theorem notin_of {z y : Int} {r : List Int} (e : z = y) (h : (!inV (.int z) (nums r)) = true) : ¬ y ∈ r := by
  rw [inV_ints, e] at h
  simpa using h
theorem in_of_not {z y : Int} {r : List Int} (e : z = y) (h : ¬ (!inV (.int z) (nums r)) = true) : y ∈ r := by
  rw [inV_ints, e] at h
  simpa using h
/-- good wishes of c holders -/
structure WF (c : Nat) (rs : List (List Int)) : Prop where
  len : rs.length = c
  nd : ∀ r ∈ rs, r.Nodup
  rng : ∀ r ∈ rs, ∀ x ∈ r, 0 ≤ x ∧ x < (c : Int)
theorem mem_set_cases {α : Type} {l : List α} {i : Nat} {a x : α} (h : x ∈ l.set i a) : x ∈ l ∨ x = a := List.mem_or_eq_of_mem_set h
theorem WF.set {c : Nat} {rs : List (List Int)} (w : WF c rs) {i : Nat} {r : List Int} (h1 : r.Nodup) (h2 : ∀ x ∈ r, 0 ≤ x ∧ x < (c : Int)) : WF c (rs.set i r) :=
  ⟨by rw [List.length_set]; exact w.len, fun q hq => (mem_set_cases hq).elim (w.nd q) fun e => by rw [e]; exact h1, fun q hq => (mem_set_cases hq).elim (w.rng q) fun e => by rw [e]; exact h2⟩
theorem ins_nodup {r : List Int} {k : Nat} {x : Int} (h : r.Nodup) (hx : x ∉ r) : (insV r k x).Nodup := by
  unfold insV
  have e : r = r.take k ++ r.drop k := (List.take_append_drop k r).symm
  rw [e] at h
  rw [List.nodup_append] at h ⊢
  obtain ⟨h1, h2, h3⟩ := h
  refine ⟨h1, List.nodup_cons.mpr ⟨fun m => hx (List.mem_of_mem_drop m), h2⟩, fun a ha b hb => ?_⟩
  rcases List.mem_cons.mp hb with z | z
  · intro q
    exact hx (by rw [← z, ← q]; exact List.mem_of_mem_take ha)
  · exact h3 a ha b z
theorem ins_mem {r : List Int} {k : Nat} {x y : Int} (h : y ∈ insV r k x) : y ∈ r ∨ y = x := by
  unfold insV at h
  rcases List.mem_append.mp h with z | z
  · exact .inl (List.mem_of_mem_take z)
  · rcases List.mem_cons.mp z with z | z
    · exact .inr z
    · exact .inl (List.mem_of_mem_drop z)
theorem small_line {n : Nat} (h : n ≤ 1000) : n ≤ sizeLine := Nat.le_of_lt (small1000 h)
theorem take_snoc {α : Type} {l : List α} {i : Nat} {x : α} (h : l[i]? = some x) : l.take (i + 1) = l.take i ++ [x] := by
  rw [List.take_add_one, h]
  rfl
theorem refs_at {as : List Addr} {i : Nat} {x : V} (h : (refs as)[i]? = some x) : ∃ b, x = .ref b ∧ as[i]? = some b := by
  rw [List.getElem?_map] at h
  cases e : as[i]? with
  | none => rw [e] at h; cases h
  | some b => rw [e] at h; exact ⟨b, (Option.some.inj h).symm, rfl⟩
theorem ints_at {ns : List Int} {i : Nat} {x : V} (h : (nums ns)[i]? = some x) : ∃ n, x = .int n ∧ ns[i]? = some n := by
  rw [List.getElem?_map] at h
  cases e : ns[i]? with
  | none => rw [e] at h; cases h
  | some b => rw [e] at h; exact ⟨b, (Option.some.inj h).symm, rfl⟩
theorem Rows.row_of {H : Hp} {a : Addr} {bs : List Addr} {rs : List (List Int)} (R : Rows H a bs rs) {i : Nat} {b : Addr} (h : bs[i]? = some b) : ∃ r, rs[i]? = some r ∧ H b = some (.lst (nums r)) := by
  have hi : i < rs.length := by rw [← R.len]; exact (List.getElem?_eq_some_iff.mp h).1
  exact ⟨rs[i], by simp [hi], R.row i b _ h (by simp [hi])⟩
/-- numbers that are natural -/
abbrev natL (ts : List Nat) : List Int := ts.map fun n : Nat => (n : Int)
abbrev nats (ts : List Nat) : List V := nums (natL ts)
theorem len_nats (ts : List Nat) : (nats ts).length = ts.length := by simp [nats, nums, natL]
theorem natL_mem {ts : List Nat} {n : Nat} : (n : Int) ∈ natL ts ↔ n ∈ ts := by
  rw [List.mem_map]
  constructor
  · rintro ⟨m, h, e⟩
    have : m = n := by omega
    rw [← this]; exact h
  · intro h; exact ⟨n, h, rfl⟩
theorem natL_inj {ts us : List Nat} : natL ts = natL us ↔ ts = us := by
  constructor
  · intro h
    induction ts generalizing us with
    | nil => cases us with
      | nil => rfl
      | cons u us => cases h
    | cons t ts ih => cases us with
      | nil => cases h
      | cons u us =>
        injection h with h1 h2
        have h1 : (t : Int) = (u : Int) := h1
        have : t = u := by omega
        rw [this, ih h2]
  · intro h; rw [h]
theorem nats_at {ts : List Nat} {i : Nat} {x : V} (h : (nats ts)[i]? = some x) : ∃ n : Nat, x = .int (n : Int) ∧ ts[i]? = some n := by
  obtain ⟨z, e, h⟩ := ints_at h
  rw [List.getElem?_map] at h
  cases q : ts[i]? with
  | none => rw [q] at h; cases h
  | some n => rw [q] at h; exact ⟨n, by rw [e, ← Option.some.inj h], rfl⟩
theorem atI_nats {ts : List Nat} {i n : Nat} (h : ts[i]? = some n) : atI (nats ts) (i : Int) = some (V.int (n : Int)) := atI_ints (by rw [List.getElem?_map, h]; rfl)
theorem nats_snoc (ts : List Nat) (n : Nat) : nats ts ++ [V.int (n : Int)] = nats (ts ++ [n]) := by simp [nats, nums, natL]
theorem upTo_natL (n : Nat) : L2.upTo n = natL (List.range n) := rfl
theorem ixN_nat {n j : Nat} (h : j < n) : ixN n (j : Int) = some j := by
  unfold ixN
  rw [if_pos (by omega), if_pos (by omega)]
  simp
theorem nats_set (ts : List Nat) (i n : Nat) : (nats ts).set i (V.int (n : Int)) = nats (ts.set i n) := by simp [nats, nums, natL, List.map_set]
/-! dicts from holders to holders -/
def lookD (f : Nat → Nat) (l : List Nat) : List (Key × V) := l.map fun h : Nat => ((Sum.inl (h : Int) : Key), V.int (f h : Int))
theorem valV_lookD (f : Nat → Nat) (n : Nat) : ∀ l : List Nat, valV (lookD f l) (Sum.inl (n : Int) : Key) = if n ∈ l then some (V.int (f n : Int)) else none
  | [] => rfl
  | h :: l => by
    by_cases e : h = n
    · subst e
      rw [if_pos List.mem_cons_self]
      exact valV_pos rfl
    · have ne : ¬ (((Sum.inl (h : Int) : Key), V.int (f h : Int)).1 = (Sum.inl (n : Int) : Key)) := fun z => e (by have := Sum.inl.inj z; omega)
      show valV (((Sum.inl (h : Int) : Key), V.int (f h : Int)) :: lookD f l) _ = _
      rw [valV_neg ne, valV_lookD f n l]
      by_cases m : n ∈ l
      · rw [if_pos m, if_pos (List.mem_cons_of_mem _ m)]
      · rw [if_neg m, if_neg (fun z => by rcases List.mem_cons.mp z with q | q; exact e q.symm; exact m q)]
theorem lookD_length (f : Nat → Nat) (l : List Nat) : (lookD f l).length = l.length := by simp [lookD]
theorem lookD_put (f : Nat → Nat) {l : List Nat} {n : Nat} (h : n ∉ l) : putK (lookD f l) (Sum.inl (n : Int) : Key) (V.int (f n : Int)) = lookD f (l ++ [n]) := by
  rw [putK_new _ (by rw [valV_lookD, if_neg h])]
  simp [lookD]
theorem lookD_get {H : Hp} {a : Addr} {f : Nat → Nat} {l : List Nat} {n : Nat} (h : H a = some (.dK (lookD f l))) (m : n ∈ l) : DGet H a (.int (n : Int)) (some (.int (f n : Int))) := by
  have q := DGet.k (k := Sum.inl (n : Int)) h
  rw [valV_lookD, if_pos m] at q
  exact q
theorem rep_nats (n : Nat) : (List.replicate n [V.int 0]).flatten = nats (List.replicate n 0) := by
  induction n with
  | zero => rfl
  | succ n ih =>
    rw [List.replicate_succ, List.flatten_cons, ih, List.replicate_succ]
    rfl
theorem nodup_take {α : Type} {l : List α} {i : Nat} {x : α} (nd : l.Nodup) (h : l[i]? = some x) : x ∉ l.take i := by
  intro m
  obtain ⟨j, hj, e⟩ := List.getElem_of_mem m
  obtain ⟨hi, e2⟩ := List.getElem?_eq_some_iff.mp h
  rw [List.length_take] at hj
  rw [List.getElem_take] at e
  have := (List.getElem_inj nd).mp (e.trans e2.symm)
  omega
theorem nextI (k m : Nat) : ((k : Int) + 1) % (m : Int) = (((k + 1) % m : Nat) : Int) := by
  rw [Int.natCast_emod]
  rfl
theorem rise_drop {g : List (List Nat)} (h : (g.map fun a => a.headD 0).Pairwise (· < ·)) {j : Nat} {x : List Nat} (hj : g[j]? = some x) : ∀ a ∈ g.drop (j + 1), x.headD 0 < a.headD 0 := by
  intro a ha
  obtain ⟨i, hi, e⟩ := List.getElem_of_mem ha
  rw [List.getElem_drop] at e
  obtain ⟨hj', ej⟩ := List.getElem?_eq_some_iff.mp hj
  rw [List.length_drop] at hi
  have q := List.pairwise_iff_getElem.mp h j (j + 1 + i) (by simpa using hj') (by simp; omega) (by omega)
  simpa [ej, e] using q
theorem nats_ne {ts : List Nat} (h : ts ≠ []) : (nats ts).isEmpty = false := by
  cases ts with
  | nil => exact absurd rfl h
  | cons _ _ => rfl
theorem WF.short {c : Nat} {rs : List (List Int)} (w : WF c rs) : ∀ r ∈ rs, r.length ≤ c := fun r hr => by
  have nd := w.nd r hr
  have h : (r.map Int.toNat).Nodup := KM.map_nodup nd fun x hx y hy e => by
    have := (w.rng r hr x hx).1
    have := (w.rng r hr y hy).1
    omega
  have := KM.len_le_of_subset h (l2 := List.range c) fun x hx => by
    obtain ⟨z, hz, e⟩ := List.mem_map.mp hx
    have := w.rng r hr z hz
    exact List.mem_range.mpr (by omega)
  simpa using this
theorem Rd2.row_nat_dummy : True := trivial
theorem erase_perm {l : List Nat} {i x : Nat} (h : l[i]? = some x) : (x :: l.eraseIdx i).Perm l := by
  obtain ⟨hi, e⟩ := List.getElem?_eq_some_iff.mp h
  have e1 : l = l.take i ++ x :: l.drop (i + 1) := by
    rw [← e, ← List.drop_eq_getElem_cons hi, List.take_append_drop]
  rw [List.eraseIdx_eq_take_drop_succ]
  refine List.Perm.trans List.perm_middle.symm ?_
  rw [← e1]
theorem nats_erase (ts : List Nat) (i : Nat) : (nats ts).eraseIdx i = nats (ts.eraseIdx i) := by
  rw [List.eraseIdx_eq_take_drop_succ, List.eraseIdx_eq_take_drop_succ]
  simp [nats, nums, natL, List.map_take, List.map_drop]
theorem cutV_nats (ts : List Nat) (lo hi : Option Int) : cutV (nats ts) lo hi = nats ((ts.drop (HT.sIx ts.length 0 lo)).take (HT.sIx ts.length ts.length hi - HT.sIx ts.length 0 lo)) := by
  unfold cutV
  rw [len_nats]
  simp [nats, nums, natL, List.map_take, List.map_drop]
theorem seqIx {j n : Nat} (h : j < n) : seqIndex? (j : Int) n = some j := (ixN_seq (ixN_nat h)).1
theorem rotate_perm (l : List Nat) : ((l.drop 1) ++ (l.take 1)).Perm l := by
  refine List.Perm.trans List.perm_append_comm ?_
  rw [List.take_append_drop]
theorem cut_tail (xs : List V) : cutV xs (some 1) none = xs.drop 1 := by
  unfold cutV
  have z1 : HT.sIx xs.length 0 (some 1) = min 1 xs.length := HT.sIx_nat xs.length 0 1
  have z2 : HT.sIx xs.length xs.length none = xs.length := rfl
  rw [z1, z2]
  cases xs with
  | nil => rfl
  | cons x xs => simp
theorem cut_head (xs : List V) : cutV xs none (some 1) = xs.take 1 := by
  unfold cutV
  have z1 : HT.sIx xs.length xs.length (some 1) = min 1 xs.length := HT.sIx_nat xs.length xs.length 1
  have z2 : HT.sIx xs.length 0 none = 0 := rfl
  rw [z1, z2]
  cases xs with
  | nil => rfl
  | cons x xs => simp
theorem rot_perm {α : Type} (l : List α) : ((l.drop 1) ++ (l.take 1)).Perm l := by
  refine List.Perm.trans List.perm_append_comm ?_
  rw [List.take_append_drop]
theorem nums_app (a b : List Int) : nums a ++ nums b = nums (a ++ b) := by simp [nums]
theorem nums_drop (a : List Int) (k : Nat) : (nums a).drop k = nums (a.drop k) := by simp [nums, List.map_drop]
theorem nums_take (a : List Int) (k : Nat) : (nums a).take k = nums (a.take k) := by simp [nums, List.map_take]
theorem nums_rev (a : List Int) : (nums a).reverse = nums a.reverse := by simp [nums]
end KS

set_option Elab.async false
set_option linter.all false
set_option maxRecDepth 100000
set_option maxHeartbeats 4000000
namespace KS
open PySem L2
/-- a def of the text that others call by its name -/
def Fn (P : Program) (w : World) (K : PySem.W.Frag) (mg : Str → Option Value) (base : Heap) (name : Str) (ps : List Str) (k : Nat) (sp : Sp) : Prop :=
  ∃ (f : Addr) (fd : FuncData), FnOk P w K mg base CX0 k f fd ps sp ∧ mg name = some (.ref f) ∧ PySem.W.keepIn K (.ref f) = true ∧ Binds K fd ps []
theorem Fn.mono {P : Program} {w : World} {K : PySem.W.Frag} {mg : Str → Option Value} {base : Heap} {name : Str} {ps : List Str} {j k : Nat} {sp : Sp} (h : Fn P w K mg base name ps j sp) (hk : j ≤ k) : Fn P w K mg base name ps k sp := by
  obtain ⟨f, fd, G, m, kp, b⟩ := h
  exact ⟨f, fd, G.mono hk, m, kp, b⟩
/-- Python's own names, as the text leaves them -/
structure Own (K : PySem.W.Frag) (mg : Str → Option Value) : Prop where
  len : mg "len" = none
  range : mg "range" = none
  list : mg "list" = none
  isinstance : mg "isinstance" = none
  int : mg "int" = none
  bool : mg "bool" = none
  min : mg "min" = none
  reversed : mg "reversed" = none
  abs : mg "abs" = none
  enumerate : mg "enumerate" = none
  zip : mg "zip" = none
  set : mg "set" = none
  sorted : mg "sorted" = none
  i_int : PySem.W.kitOne K (.type "int") (.type "int") = some true
  i_bool : PySem.W.kitOne K (.type "int") (.type "bool") = some false
  b_bool : PySem.W.kitOne K (.type "bool") (.type "bool") = some true
  l_list : PySem.W.kitOne K (.type "list") (.type "list") = some true

theorem Rows.notin {H : Hp} {a : Addr} {bs : List Addr} {rs : List (List Int)} (R : Rows H a bs rs) {c : Addr} (h : H c = none) : c ≠ a ∧ c ∉ bs := by
  refine ⟨fun e => ?_, fun m => ?_⟩
  · rw [e, R.top] at h; cases h
  · obtain ⟨i, hi, e⟩ := List.getElem_of_mem m
    have hr : i < rs.length := by rw [← R.len]; exact hi
    have q := R.row i c rs[i] (by simp [hi, e]) (by simp [hr])
    rw [h] at q; cases q
theorem Rows.snoc' {H : Hp} {a : Addr} {bs : List Addr} {rs : List (List Int)} (R : Rows H a bs rs) {c : Addr} {r : List Int} (hn : H c = none) :
    Rows (L2.upd (L2.upd H c (.lst (nums r))) a (.lst (refs bs ++ [.ref c]))) a (bs ++ [c]) (rs ++ [r]) := by
  obtain ⟨h1, h2⟩ := R.notin hn
  exact (R.upd (o := .lst (nums r)) h1 h2).snoc upd_same h2 h1
theorem New.cons {H : Hp} {c : Addr} {l : List Addr} (h : H c = none) (n : New H l) : New H (c :: l) := fun b hb => by
  rcases List.mem_cons.mp hb with e | e
  · rw [e]; exact h
  · exact n b e
theorem New.snoc {H : Hp} {c : Addr} {l : List Addr} (h : H c = none) (n : New H l) : New H (l ++ [c]) := fun b hb => by
  rcases List.mem_append.mp hb with e | e
  · exact n b e
  · rw [List.mem_singleton.mp e]; exact h
theorem cutV_ints (ns : List Int) (lo hi : Option Int) : ∃ ms : List Int, cutV (nums ns) lo hi = nums ms ∧ ms.length ≤ ns.length := by
  refine ⟨(ns.drop (HT.sIx ns.length 0 lo)).take (HT.sIx ns.length ns.length hi - HT.sIx ns.length 0 lo), ?_, ?_⟩
  · unfold cutV
    rw [len_ints]
    simp [nums, List.map_drop, List.map_take]
  · rw [List.length_take, List.length_drop]
    omega
theorem modN {a : Int} {c : Nat} (h : 0 < c) : ∃ j : Nat, a % (c : Int) = (j : Int) ∧ j < c := by
  have hc : (0 : Int) < (c : Int) := by omega
  have h1 := Int.emod_nonneg a (show (c : Int) ≠ 0 by omega)
  have h2 := Int.emod_lt_of_pos a hc
  exact ⟨(a % (c : Int)).toNat, by omega, by omega⟩

/-! ### lists of lists that are only read, of lists of lists -/
structure Rd2 (H : Hp) (b : Addr) (cs : List Addr) (rs : List (List Int)) : Prop where
  top : H b = some (.lst (refs cs))
  len : cs.length = rs.length
  row : ∀ (i : Nat) (c : Addr) (r : List Int), cs[i]? = some c → rs[i]? = some r → H c = some (.lst (nums r))
theorem Rows.rd {H : Hp} {a : Addr} {bs : List Addr} {rs : List (List Int)} (R : Rows H a bs rs) : Rd2 H a bs rs := ⟨R.top, R.len, R.row⟩
theorem Rd2.same {H H' : Hp} {a : Addr} {bs : List Addr} {rs : List (List Int)} (R : Rd2 H a bs rs) (s : Same H H') : Rd2 H' a bs rs := ⟨s _ _ R.top, R.len, fun i b r h1 h2 => s _ _ (R.row i b r h1 h2)⟩
theorem Rd2.row_of {H : Hp} {a : Addr} {bs : List Addr} {rs : List (List Int)} (R : Rd2 H a bs rs) {i : Nat} {b : Addr} (h : bs[i]? = some b) : ∃ r, rs[i]? = some r ∧ H b = some (.lst (nums r)) := by
  have hi : i < rs.length := by rw [← R.len]; exact (List.getElem?_eq_some_iff.mp h).1
  exact ⟨rs[i], by simp [hi], R.row i b _ h (by simp [hi])⟩
theorem Rd2.get {H : Hp} {a : Addr} {bs : List Addr} {rs : List (List Int)} (R : Rd2 H a bs rs) {i : Nat} (h : i < rs.length) : ∃ b, bs[i]? = some b ∧ H b = some (.lst (nums rs[i])) ∧ b ∈ bs := by
  have hi : i < bs.length := by rw [R.len]; exact h
  exact ⟨bs[i], by simp [hi], R.row i _ _ (by simp [hi]) (by simp [h]), List.getElem_mem hi⟩
/-! ### what the law's own defs promise -/
section
variable (K : PySem.W.Frag)
def spWhole : Sp := fun vs H Q _ => ∃ n, vs = [.int n] ∧ Q (.bl true) H
def spAt : Sp := fun vs H Q _ => ∃ (a : Addr) (ns : List Int) (k : Nat), vs = [.ref a, .int (k : Int)] ∧ SqL K H a (nums ns) ∧ Q (.int (ns.getD k 0)) H
def spRoom : Sp := fun vs H Q _ => ∃ (a : Addr) (ns : List Int) (m b : Int), vs = [.ref a, .int m, .int b] ∧ SqL K H a (nums ns) ∧ ns.length ≤ 63 ∧ Q (.int m) H
/-- new good wishes of c holders -/
def spWished : Sp := fun vs H Q _ => ∃ (a : Addr) (ns : List Int) (c : Nat), vs = [.ref a, .int (c : Int)] ∧ SqL K H a (nums ns) ∧ ns.length ≤ 100 ∧ c ≤ 1000 ∧
  ∀ (b : Addr) (bs : List Addr) (rs : List (List Int)) (H' : Hp), Same H H' → Rows H' b bs rs → New H (b :: bs) → WF c rs → (∀ r ∈ rs, r.length ≤ ns.length) → Q (.ref b) H'
def spCopies : Sp := fun vs H Q _ => ∃ (a : Addr) (as : List Addr) (rs : List (List Int)), vs = [.ref a] ∧ Rows H a as rs ∧ rs.length ≤ 1000 ∧
  ∀ (b : Addr) (bs : List Addr) (H' : Hp), Same H H' → Rows H' b bs rs → New H (b :: bs) → Q (.ref b) H'
def spKept : Sp := fun vs H Q _ => ∃ (a b : Addr) (as bs : List Addr) (rs : List (List Int)), vs = [.ref a, .ref b] ∧ Rd2 H a as rs ∧ Rd2 H b bs rs ∧ rs.length ≤ 1000 ∧ (∀ r ∈ rs, r.length ≤ 1000) ∧ Q (.bl true) H
def spSpot : Sp := fun vs H Q _ => ∃ (a : Addr) (as : List Addr) (rs : List (List Int)) (h : Nat) (r : List Int) (x : Int), vs = [.ref a, .int (h : Int), .int x] ∧ Rows H a as rs ∧ rs[h]? = some r ∧ Q (.int (KM.spot r (h : Int) x : Nat)) H
def spLong : Sp := fun vs H Q _ => ∃ (a : Addr) (ns : List Int) (c : Nat), vs = [.ref a, .int (c : Int)] ∧ SqL K H a (nums ns) ∧ ns.length ≤ 100 ∧ 0 < c ∧ c ≤ 1000 ∧
  ∀ (b : Addr) (r : List Int) (H' : Hp), Same H H' → H' b = some (.lst (nums r)) → H b = none → r.Nodup → (∀ x ∈ r, 0 ≤ x ∧ x < (c : Int)) → r.length ≤ ns.length → Q (.ref b) H'
/-- houses_for: a new list -/
def spHouses : Sp := fun vs H Q _ => ∃ (a : Addr) (as : List Addr) (rs : List (List Int)) (h : Nat) (r : List Int), vs = [.ref a, .int (h : Int)] ∧ Rows H a as rs ∧ rs[h]? = some r ∧ r.length ≤ 1000 ∧
  ∀ (b : Addr) (H' : Hp), Same H H' → H' b = some (.lst (nums (KM.order r (h : Int)))) → H b = none → Q (.ref b) H'
def spRather : Sp := fun vs H Q _ => ∃ (a : Addr) (as : List Addr) (rs : List (List Int)) (h : Nat) (r : List Int) (x y : Int), vs = [.ref a, .int (h : Int), .int x, .int y] ∧ Rows H a as rs ∧ rs[h]? = some r ∧ r.length ≤ 1000 ∧
  ∀ (H' : Hp), Same H H' → Q (.bl (KM.ratherV r (h : Int) x y)) H'
def spLaw : Sp := fun vs H Q _ => ∃ (a : Addr) (ns : List Int), vs = [.ref a] ∧ SqL K H a (ns.map V.int) ∧ ns.length ≤ 63 ∧ ∀ H', Q (.bl true) H'
end

/-- rounds: a list of lists of lists of holders -/
structure Rd3 (H : Hp) (a : Addr) (bs : List Addr) (ts : List (List (List Nat))) : Prop where
  top : H a = some (.lst (refs bs))
  len : bs.length = ts.length
  row : ∀ (i : Nat) (b : Addr) (g : List (List Nat)), bs[i]? = some b → ts[i]? = some g → ∃ cs, Rd2 H b cs (g.map natL)
theorem Rd3.same {H H' : Hp} {a : Addr} {bs : List Addr} {ts : List (List (List Nat))} (R : Rd3 H a bs ts) (s : Same H H') : Rd3 H' a bs ts :=
  ⟨s _ _ R.top, R.len, fun i b g h1 h2 => let ⟨cs, q⟩ := R.row i b g h1 h2; ⟨cs, q.same s⟩⟩
theorem Rd3.row_of {H : Hp} {a : Addr} {bs : List Addr} {ts : List (List (List Nat))} (R : Rd3 H a bs ts) {i : Nat} {b : Addr} (h : bs[i]? = some b) : ∃ g cs, ts[i]? = some g ∧ Rd2 H b cs (g.map natL) := by
  have hi : i < ts.length := by rw [← R.len]; exact (List.getElem?_eq_some_iff.mp h).1
  obtain ⟨cs, q⟩ := R.row i b ts[i] h (by simp [hi])
  exact ⟨_, cs, by simp [hi], q⟩
/-- .. of lists that did not stand in the heap H1 -/
structure Rd3n (H1 H : Hp) (a : Addr) (bs : List Addr) (ts : List (List (List Nat))) : Prop where
  top : H a = some (.lst (refs bs))
  topn : H1 a = none
  len : bs.length = ts.length
  row : ∀ (i : Nat) (b : Addr) (g : List (List Nat)), bs[i]? = some b → ts[i]? = some g → H1 b = none ∧ ∃ cs, Rd2 H b cs (g.map natL) ∧ New H1 cs
theorem Rd3n.rd {H1 H : Hp} {a : Addr} {bs : List Addr} {ts : List (List (List Nat))} (R : Rd3n H1 H a bs ts) : Rd3 H a bs ts := ⟨R.top, R.len, fun i b g h1 h2 => let ⟨_, cs, q, _⟩ := R.row i b g h1 h2; ⟨cs, q⟩⟩
theorem Rd3n.same {H1 H H' : Hp} {a : Addr} {bs : List Addr} {ts : List (List (List Nat))} (R : Rd3n H1 H a bs ts) (s : Same H H') : Rd3n H1 H' a bs ts :=
  ⟨s _ _ R.top, R.topn, R.len, fun i b g h1 h2 => let ⟨n, cs, q, z⟩ := R.row i b g h1 h2; ⟨n, cs, q.same s, z⟩⟩
theorem Rd3n.upd {H1 H : Hp} {a : Addr} {bs : List Addr} {ts : List (List (List Nat))} (R : Rd3n H1 H a bs ts) {x : Addr} {u o : HO} (h : H1 x = some u) : Rd3n H1 (L2.upd H x o) a bs ts := by
  have ne : ∀ c, H1 c = none → c ≠ x := fun c n => (ne_of_none h n).symm
  refine ⟨by rw [upd_ne (ne a R.topn)]; exact R.top, R.topn, R.len, fun i b g h1 h2 => ?_⟩
  obtain ⟨n, cs, q, z⟩ := R.row i b g h1 h2
  exact ⟨n, cs, ⟨by rw [upd_ne (ne b n)]; exact q.top, q.len, fun j c r e1 e2 => by rw [upd_ne (ne c (z c (List.mem_of_getElem? e1)))]; exact q.row j c r e1 e2⟩, z⟩
theorem Rd3n.row_of {H1 H : Hp} {a : Addr} {bs : List Addr} {ts : List (List (List Nat))} (R : Rd3n H1 H a bs ts) {i : Nat} {b : Addr} (h : bs[i]? = some b) : ∃ g cs, ts[i]? = some g ∧ Rd2 H b cs (g.map natL) ∧ H1 b = none ∧ New H1 cs := by
  have hi : i < ts.length := by rw [← R.len]; exact (List.getElem?_eq_some_iff.mp h).1
  obtain ⟨n, cs, q, z⟩ := R.row i b ts[i] h (by simp [hi])
  exact ⟨_, cs, by simp [hi], q, n, z⟩
section
variable (K : PySem.W.Frag)
/-- the best house of those there -/
def spLookedTo : Sp := fun vs H Q _ => ∃ (a : Addr) (as : List Addr) (rs : List (List Int)) (b : Addr) (ts : List Nat) (h : Nat), vs = [.ref a, .ref b, .int (h : Int)] ∧ Rows H a as rs ∧ SqL K H b (nats ts) ∧ h < rs.length ∧ Q (.int (KM.look (KM.rk rs) ts h : Nat)) H
/-- a dealing is handed in, True comes out -/
def spIsDealing : Sp := fun vs H Q _ => ∃ (a : Addr) (ds : List Nat) (c : Nat), vs = [.ref a, .int (c : Int)] ∧ H a = some (.lst (nats ds)) ∧ ds.length = c ∧ ds.Nodup ∧ (∀ x ∈ ds, x < c) ∧ c ≤ 1000 ∧ ∀ H', Same H H' → Q (.bl true) H'
def spAreRounds : Sp := fun vs H Q _ => ∃ (a : Addr) (bs : List Addr) (ts : List (List (List Nat))), vs = [.ref a] ∧ Rd3 H a bs ts ∧ (∀ g ∈ ts, g ≠ []) ∧ (∀ g ∈ ts, ∀ r ∈ g, r ≠ []) ∧ ∀ H', Same H H' → Q (.bl true) H'
/-- the dealing that comes of the rounds, a new list -/
def spDealt : Sp := fun vs H Q _ => ∃ (a : Addr) (as : List Addr) (rs : List (List Int)), vs = [.ref a] ∧ Rows H a as rs ∧ WF rs.length rs ∧ rs.length ≤ 60 ∧
  ∀ (b : Addr) (ds : List Nat) (H' : Hp), Same H H' → H' b = some (.lst (nats ds)) → H b = none → KM.DealOf rs ds → Q (.ref b) H'
end
theorem Rd2.nat_row {H : Hp} {b : Addr} {cs : List Addr} {g : List (List Nat)} (R : Rd2 H b cs (g.map natL)) {i : Nat} {c : Addr} (h : cs[i]? = some c) : ∃ a, g[i]? = some a ∧ H c = some (.lst (nats a)) := by
  obtain ⟨r, h1, h2⟩ := R.row_of h
  rw [List.getElem?_map] at h1
  cases e : g[i]? with
  | none => rw [e] at h1; cases h1
  | some a => rw [e] at h1; exact ⟨a, rfl, by rw [h2, ← Option.some.inj h1]⟩
/-- all rounds, told as lists -/
def spRounds : Sp := fun vs H Q _ => ∃ (a : Addr) (as : List Addr) (rs : List (List Int)), vs = [.ref a] ∧ Rows H a as rs ∧ WF rs.length rs ∧ rs.length ≤ 60 ∧
  ∀ (b : Addr) (bs : List Addr) (gs : List (List (List Nat))) (H' : Hp), Same H H' → Rd3n H H' b bs gs → KM.AllRounds (KM.rk rs) (List.range rs.length) gs → Q (.ref b) H'
def spLone (K : PySem.W.Frag) : Sp := fun vs H Q _ => ∃ (a b c : Addr) (ts gs : List Nat) (fl : Nat → Nat), vs = [.ref a, .ref b, .ref c] ∧ SqL K H a (nats ts) ∧ H b = some (.dK (lookD fl ts)) ∧ SqL K H c (nats gs) ∧ (∀ x ∈ ts, fl x ∈ ts) ∧ (∀ x ∈ ts, KM.it fl ts.length x ∈ gs) ∧ ts.length ≤ 1000 ∧ Q (.bl true) H
/-- some of c holders -/
def spSomeOf : Sp := fun vs H Q _ => ∃ (c : Nat) (z : Int), vs = [.int (c : Int), .int z] ∧ c ≤ 1000 ∧ ∀ (b : Addr) (gs : List Nat) (H' : Hp), Same H H' → H' b = some (.lst (nats gs)) → H b = none → gs.Nodup → (∀ x ∈ gs, x < c) → Q (.ref b) H'
/-- the same ones in another order -/
def spSwapped (K : PySem.W.Frag) : Sp := fun vs H Q _ => ∃ (a : Addr) (gs : List Nat) (z : Int), vs = [.ref a, .int z] ∧ SqL K H a (nats gs) ∧ gs.length ≤ 1000 ∧ ∀ (b : Addr) (es : List Nat) (H' : Hp), Same H H' → H' b = some (.lst (nats es)) → H b = none → es.Perm gs → Q (.ref b) H'
/-- some holders, each once -/
def spFirsts : Sp := fun vs H Q _ => ∃ (a : Addr) (as : List Addr) (rs : List (List Int)) (h : Nat), vs = [.ref a, .int (h : Int)] ∧ Rows H a as rs ∧ WF rs.length rs ∧ rs.length ≤ 1000 ∧ h < rs.length ∧
  ∀ (b : Addr) (gs : List Nat) (H' : Hp), Same H H' → H' b = some (.lst (nats gs)) → H b = none → gs.Nodup → (∀ x ∈ gs, x < rs.length) → Q (.ref b) H'
/-- another good list -/
def spOther (K : PySem.W.Frag) : Sp := fun vs H Q _ => ∃ (a : Addr) (r : List Int) (c : Nat) (z : Int), vs = [.ref a, .int (c : Int), .int z] ∧ SqL K H a (nums r) ∧ r.Nodup ∧ (∀ x ∈ r, 0 ≤ x ∧ x < (c : Int)) ∧ r.length ≤ 1000 ∧ c ≤ 1000 ∧
  ∀ (b : Addr) (r' : List Int) (H' : Hp), Same H H' → H' b = some (.lst (nums r')) → H b = none → r'.Nodup → (∀ x ∈ r', 0 ≤ x ∧ x < (c : Int)) → Q (.ref b) H'
/-! ### the program's groups -/
/-- who would rather have what os deals than what hs deals -/
def gladV (rs : List (List Int)) (hs os : List Nat) : List Nat := (List.range rs.length).filter fun k => KM.ratherV (rs.getD k []) (k : Int) ((os.getD k 0 : Nat) : Int) ((hs.getD k 0 : Nat) : Int)
def undoneV (rs : List (List Int)) (hs gs es : List Nat) : Bool :=
  ((List.range gs.length).all fun j => !KM.ratherV (rs.getD (gs.getD j 0) []) ((gs.getD j 0 : Nat) : Int) ((hs.getD (gs.getD j 0) 0 : Nat) : Int) ((es.getD j 0 : Nat) : Int)) &&
  ((List.range gs.length).any fun j => KM.ratherV (rs.getD (gs.getD j 0) []) ((gs.getD j 0 : Nat) : Int) ((es.getD j 0 : Nat) : Int) ((hs.getD (gs.getD j 0) 0 : Nat) : Int))
def spGladder (K : PySem.W.Frag) : Sp := fun vs H Q _ => ∃ (a h o : Addr) (as : List Addr) (rs : List (List Int)) (hs os : List Nat), vs = [.ref a, .ref h, .ref o] ∧ Rows H a as rs ∧ WF rs.length rs ∧ rs.length ≤ 100 ∧ SqL K H h (nats hs) ∧ SqL K H o (nats os) ∧
  hs.Perm (List.range rs.length) ∧ os.Perm (List.range rs.length) ∧ ∀ (b : Addr) (H' : Hp), Same H H' → H' b = some (.lst (nats (gladV rs hs os))) → H b = none → Q (.ref b) H'
def spUndone (K : PySem.W.Frag) : Sp := fun vs H Q _ => ∃ (a h g m : Addr) (as : List Addr) (rs : List (List Int)) (hs gs es : List Nat), vs = [.ref a, .ref h, .ref g, .ref m] ∧ Rows H a as rs ∧ WF rs.length rs ∧ rs.length ≤ 100 ∧ SqL K H h (nats hs) ∧ SqL K H g (nats gs) ∧ SqL K H m (nats es) ∧
  hs.Perm (List.range rs.length) ∧ gs.Nodup ∧ (∀ x ∈ gs, x < rs.length) ∧ es.Perm gs ∧ ∀ (H' : Hp), Same H H' → Q (.bl (undoneV rs hs gs es)) H'
/-- three side by side wish for one another's houses -/
def spRinged : Sp := fun vs H Q _ => ∃ (a : Addr) (as : List Addr) (rs : List (List Int)) (y z : Int), vs = [.ref a, .int y, .int z] ∧ Rows H a as rs ∧ WF rs.length rs ∧ rs.length ≤ 100 ∧ 3 ≤ rs.length ∧
  ∀ (p m g e : Addr) (bs : List Addr) (rs' : List (List Int)) (gs es : List Nat) (H' : Hp), Same H H' → H' p = some (.tup [.ref m, .ref g, .ref e]) → Rows H' m bs rs' → WF rs.length rs' → H' g = some (.lst (nats gs)) → H' e = some (.lst (nats es)) →
    gs.Nodup → (∀ x ∈ gs, x < rs.length) → es.Perm gs → New H (m :: bs) → Q (.ref p) H'
/-! ### shapes of text -/
theorem star_list {es rest : List Expr} {pos : Pos} {env : Env} : starEach (.List es pos :: rest) env = (false, eval (.List es pos) env) :: starEach rest env := by rfl
theorem swaps_sub {a b : Expr} {p : Pos} {y : Str} {py : Pos} {n : Nat} {env : Env} : swapsWith (.Subscript a b p) (some (.Name y py)) n env = pure false := by rfl
theorem plain_op {a b : Expr} {o : Operator} {p : Pos} : PlainIx (.BinOp a o b p) := fun _ _ => rfl
theorem ps_setSub {X : Cx} {i : Nat} {x : Str} {a b : Expr} {p pos pos' : Pos} {te : TE} (hN : X.N.Nodup) (hi : X.N[i]? = some x) (hx : Loc X.env.scope x) (he : PE X (.Subscript a b p) te) (hf : X.fn x = true ∨ X.env.scope.names.lookup x = some .local := by first | exact .inl rfl | exact .inr rfl | assumption) :
    PS X (.Assign [.Name x pos'] (.Subscript a b p) pos) (tAsg te (gName i)) := ps_set hN hi hx he swaps_sub hf
theorem filter_snoc_pos {p : Nat → Bool} {n : Nat} (h : p n = true) : (List.range (n + 1)).filter p = (List.range n).filter p ++ [n] := by
  rw [List.range_succ, List.filter_append]
  simp [h]
theorem filter_snoc_neg {p : Nat → Bool} {n : Nat} (h : p n = false) : (List.range (n + 1)).filter p = (List.range n).filter p := by
  rw [List.range_succ, List.filter_append]
  simp [h]
theorem any_snoc {p : Nat → Bool} {n : Nat} : (List.range (n + 1)).any p = ((List.range n).any p || p n) := by
  rw [List.range_succ, List.any_append]
  simp
theorem all_snoc {p : Nat → Bool} {n : Nat} : (List.range (n + 1)).all p = ((List.range n).all p && p n) := by
  rw [List.range_succ, List.all_append]
  simp
end KS

set_option Elab.async false
set_option linter.all false
set_option maxRecDepth 100000
set_option maxHeartbeats 4000000
namespace KS
open PySem L2
/-! What the program's own defs promise. -/
theorem filter1_pos {p : Int → Bool} {n : Int} (h : p n = true) : [n].filter p = [n] := by simp [h]
theorem filter1_neg {p : Int → Bool} {n : Int} (h : p n = false) : [n].filter p = [] := by simp [h]
theorem hu16_of {A : Around} {k : Nat} (hr : Room k A) : A.units + 16 < cLine := by
  have := hr.un
  omega
/-- all that stood at other places than d stands -/
def SameB (d : Addr) (H H' : Hp) : Prop := ∀ a o, a ≠ d → H a = some o → H' a = some o
theorem Same.b {d : Addr} {H H' : Hp} (s : Same H H') : SameB d H H' := fun a o _ e => s a o e
theorem SameB.refl {d : Addr} {H : Hp} : SameB d H H := fun _ _ _ e => e
theorem SameB.trans {d : Addr} {H H1 H2 : Hp} (s : SameB d H H1) (t : SameB d H1 H2) : SameB d H H2 := fun a o h e => t a o h (s a o h e)
theorem SameB.then {d : Addr} {H H1 H2 : Hp} (s : SameB d H H1) (t : Same H1 H2) : SameB d H H2 := fun a o h e => t a o (s a o h e)
theorem Same.thenB {d : Addr} {H H1 H2 : Hp} (s : Same H H1) (t : SameB d H1 H2) : SameB d H H2 := fun a o h e => t a o h (s a o e)
theorem SameB.upd {d b : Addr} {o : HO} {H H' : Hp} (s : SameB d H H') (h : H b = none) : SameB d H (L2.upd H' b o) := fun c u hc e => by
  rw [upd_ne (ne_of_none e h)]
  exact s c u hc e
theorem SameB.free {d b : Addr} {o : HO} {H H' : Hp} (s : SameB d H H') (hd : H' d = some o) (h : H' b = none) : H b = none := by
  cases e : H b with
  | none => rfl
  | some u =>
    have hb : b ≠ d := (ne_of_none hd h).symm
    rw [s b u hb e] at h
    cases h
theorem SameB.lst {d a : Addr} {xs : List V} {kvs : List (Key × V)} {H H' : Hp} (s : SameB d H H') (hd : Rd H d (.dK kvs)) (h : H a = some (.lst xs)) : H' a = some (.lst xs) := by
  refine s a _ ?_ h
  rcases hd with e | ⟨o, e⟩
  · exact ne_of h e (by intro z; cases z)
  · exact ne_of h e (by intro z; cases z)
/-- walking the dict: only d has changed -/
theorem SameB.of_walk {d : Addr} {H H2 : Hp} (h : ∀ b, b ≠ d → H2 b = H b) : SameB d H H2 := fun a o ha e => by rw [h a ha]; exact e
theorem Rd.lst_ne {d a : Addr} {xs : List V} {kvs : List (Key × V)} {H : Hp} (hd : Rd H d (.dK kvs)) (h : H a = some (.lst xs)) : a ≠ d := by
  rcases hd with e | ⟨o, e⟩
  · exact ne_of h e (by intro z; cases z)
  · exact ne_of h e (by intro z; cases z)
theorem Rd.none_ne {d a : Addr} {u : HO} {H : Hp} (hd : Rd H d u) (h : H a = none) : a ≠ d := by
  rcases hd with e | ⟨o, e⟩
  · exact (ne_of_none e h).symm
  · exact (ne_of_none e h).symm
theorem SameB.rows {d a : Addr} {bs : List Addr} {rs : List (List Int)} {kvs : List (Key × V)} {H H' : Hp} (s : SameB d H H') (hd : Rd H d (.dK kvs)) (R : Rows H a bs rs) : Rows H' a bs rs :=
  ⟨s.lst hd R.top, R.len, fun i b r h1 h2 => s.lst hd (R.row i b r h1 h2), R.nd⟩
theorem SameB.rd2 {d a : Addr} {bs : List Addr} {rs : List (List Int)} {kvs : List (Key × V)} {H H' : Hp} (s : SameB d H H') (hd : Rd H d (.dK kvs)) (R : Rd2 H a bs rs) : Rd2 H' a bs rs :=
  ⟨s.lst hd R.top, R.len, fun i b r h1 h2 => s.lst hd (R.row i b r h1 h2)⟩
theorem SameB.rd3 {d a : Addr} {bs : List Addr} {ts : List (List (List Nat))} {kvs : List (Key × V)} {H H' : Hp} (s : SameB d H H') (hd : Rd H d (.dK kvs)) (R : Rd3 H a bs ts) : Rd3 H' a bs ts :=
  ⟨s.lst hd R.top, R.len, fun i b g h1 h2 => let ⟨cs, q⟩ := R.row i b g h1 h2; ⟨cs, s.rd2 hd q⟩⟩
theorem SameB.rd3n {d a : Addr} {bs : List Addr} {ts : List (List (List Nat))} {kvs : List (Key × V)} {H1 H H' : Hp} (s : SameB d H H') (hd : Rd H d (.dK kvs)) (R : Rd3n H1 H a bs ts) : Rd3n H1 H' a bs ts :=
  ⟨s.lst hd R.top, R.topn, R.len, fun i b g h1 h2 => let ⟨n, cs, q, z⟩ := R.row i b g h1 h2; ⟨n, cs, s.rd2 hd q, z⟩⟩
/-! dicts whose keys are holders -/
def kvD (v : Nat → V) (l : List Nat) : List (Key × V) := l.map fun h : Nat => ((Sum.inl (h : Int) : Key), v h)
theorem kvD_length (v : Nat → V) (l : List Nat) : (kvD v l).length = l.length := by simp [kvD]
theorem kvD_at {v : Nat → V} {l : List Nat} {i : Nat} {kv : Key × V} (h : (kvD v l)[i]? = some kv) : ∃ n, l[i]? = some n ∧ kv.1 = Sum.inl (n : Int) := by
  unfold kvD at h
  rw [List.getElem?_map] at h
  cases e : l[i]? with
  | none => rw [e] at h; cases h
  | some n => rw [e] at h; exact ⟨n, rfl, by rw [← Option.some.inj h]⟩
theorem kvD_congr {v v' : Nat → V} {l : List Nat} (h : ∀ x ∈ l, v x = v' x) : kvD v l = kvD v' l := List.map_congr_left fun x hx => by rw [h x hx]
theorem valV_kvD (v : Nat → V) (n : Nat) : ∀ l : List Nat, valV (kvD v l) (Sum.inl (n : Int) : Key) = if n ∈ l then some (v n) else none
  | [] => rfl
  | h :: l => by
    by_cases e : h = n
    · subst e
      rw [if_pos List.mem_cons_self]
      exact valV_pos rfl
    · have ne : ¬ (((Sum.inl (h : Int) : Key), v h).1 = (Sum.inl (n : Int) : Key)) := fun z => e (by have := Sum.inl.inj z; omega)
      show valV (((Sum.inl (h : Int) : Key), v h) :: kvD v l) _ = _
      rw [valV_neg ne, valV_kvD v n l]
      by_cases m : n ∈ l
      · rw [if_pos m, if_pos (List.mem_cons_of_mem _ m)]
      · rw [if_neg m, if_neg (fun z => by rcases List.mem_cons.mp z with q | q; exact e q.symm; exact m q)]
theorem some_kvD (v : Nat → V) (y : Int) : ∀ l : List Nat, (valV (kvD v l) (Sum.inl y : Key)).isSome = decide (y ∈ natL l)
  | [] => by simp [kvD, valV_nil, natL]
  | h :: l => by
    have hn : natL (h :: l) = (h : Int) :: natL l := rfl
    by_cases e : (h : Int) = y
    · have q : valV (kvD v (h :: l)) (Sum.inl y : Key) = some (v h) := valV_pos (p := ((Sum.inl (h : Int) : Key), v h)) (by rw [e])
      rw [q, hn]
      simp [e]
    · have ne : ¬ (((Sum.inl (h : Int) : Key), v h).1 = (Sum.inl y : Key)) := fun z => e (Sum.inl.inj z)
      show (valV (((Sum.inl (h : Int) : Key), v h) :: kvD v l) _).isSome = _
      rw [valV_neg ne, some_kvD v y l, hn]
      have e' : ¬ y = (h : Int) := fun z => e z.symm
      simp [e']
theorem kvD_put {v : Nat → V} {l : List Nat} {n : Nat} {u : V} (h : n ∉ l) (hu : v n = u) : putK (kvD v l) (Sum.inl (n : Int) : Key) u = kvD v (l ++ [n]) := by
  rw [putK_new _ (by rw [valV_kvD, if_neg h]), ← hu]
  simp [kvD]
theorem kvD_get {H : Hp} {a : Addr} {v : Nat → V} {l : List Nat} {n : Nat} (h : Rd H a (.dK (kvD v l))) (m : n ∈ l) : DGet H a (.int (n : Int)) (some (v n)) := by
  refine .inl ⟨_, Sum.inl (n : Int), h, rfl, ?_⟩
  rw [valV_kvD, if_pos m]
theorem kvD_in {H : Hp} {a : Addr} {v : Nat → V} {l : List Nat} {y : Int} (h : Rd H a (.dK (kvD v l))) : DGet H a (.int y) (valV (kvD v l) (Sum.inl y)) := .inl ⟨_, Sum.inl y, h, rfl, rfl⟩
theorem kvD_notin {v : Nat → V} {l : List Nat} {y : Int} (h : (!(valV (kvD v l) (Sum.inl y : Key)).isSome) = true) : y ∉ natL l := by
  rw [some_kvD] at h
  simpa using h
theorem kvD_isin {v : Nat → V} {l : List Nat} {y : Int} (h : ¬ (!(valV (kvD v l) (Sum.inl y : Key)).isSome) = true) : y ∈ natL l := by
  rw [some_kvD] at h
  simpa using h
theorem cut_from {xs : List V} {k : Nat} (h : k ≤ xs.length) : cutV xs (some (k : Int)) none = xs.drop k := by
  unfold cutV
  have z1 : HT.sIx xs.length 0 (some (k : Int)) = min k xs.length := HT.sIx_nat xs.length 0 k
  have z2 : HT.sIx xs.length xs.length none = xs.length := rfl
  rw [z1, z2, Nat.min_eq_left h, List.take_of_length_le (by rw [List.length_drop]; omega)]
theorem cut_to {xs : List V} {k : Nat} (h : k ≤ xs.length) : cutV xs none (some (k : Int)) = xs.take k := by
  unfold cutV
  have z1 : HT.sIx xs.length xs.length (some (k : Int)) = min k xs.length := HT.sIx_nat xs.length xs.length k
  have z2 : HT.sIx xs.length 0 none = 0 := rfl
  rw [z1, z2, Nat.min_eq_left h, List.drop_zero, Nat.sub_zero]
theorem nats_drop (a : List Nat) (k : Nat) : (nats a).drop k = nats (a.drop k) := by simp [nats, nums, natL, List.map_drop]
theorem nats_take (a : List Nat) (k : Nat) : (nats a).take k = nats (a.take k) := by simp [nats, nums, natL, List.map_take]
theorem nats_app (a b : List Nat) : nats a ++ nats b = nats (a ++ b) := by simp [nats, nums, natL]
theorem natL_head (a : List Nat) : (natL a).headD 0 = ((a.headD 0 : Nat) : Int) := by cases a <;> rfl
theorem natL_getD (g : List (List Nat)) (i : Nat) : (g.map natL).getD i [] = natL (g.getD i []) := by
  simp only [List.getD_eq_getElem?_getD, List.getElem?_map]
  cases g[i]? <;> rfl
theorem natL_idxOf (l : List Nat) (n : Nat) : (natL l).idxOf (n : Int) = l.idxOf n := by
  induction l with
  | nil => rfl
  | cons x l ih =>
    show ((x : Int) :: natL l).idxOf (n : Int) = _
    rw [List.idxOf_cons, List.idxOf_cons, ih]
    by_cases e : x = n
    · subst e; simp
    · have e' : ¬ (x : Int) = (n : Int) := by omega
      simp [beq_eq_false_iff_ne.mpr e, beq_eq_false_iff_ne.mpr e']
/-- a holder's list, for each who is there -/
structure OrdD (H : Hp) (d : Addr) (ts : List Nat) (oa : Nat → Addr) (L : Nat → List Int) : Prop where
  top : Rd H d (.dK (kvD (fun x => .ref (oa x)) ts))
  row : ∀ x ∈ ts, H (oa x) = some (.lst (nums (L x)))
def spRefuse : Sp := fun vs H Q _ => ∃ (a : Addr) (as : List Addr) (rs : List (List Int)), vs = [.ref a] ∧ Rows H a as rs ∧ WF rs.length rs ∧ rs.length ≤ 1000 ∧ ∀ (H' : Hp), Same H H' → Q .non H'
def spLeast (K : PySem.W.Frag) : Sp := fun vs H Q _ => ∃ (a : Addr) (l : List Nat), vs = [.ref a] ∧ SqL K H a (nats l) ∧ l ≠ [] ∧ l.length ≤ 1000 ∧
  ∀ (b : Addr) (i : Nat) (H' : Hp), Same H H' → H' b = some (.lst (nats (l.drop i ++ l.take i))) → H b = none → i < l.length → (∀ x ∈ l, l.getD i 0 ≤ x) → Q (.ref b) H'
def spRingsOf : Sp := fun vs H Q _ => ∃ (d : Addr) (ts : List Nat) (oa : Nat → Addr) (L : Nat → List Int) (fl : Nat → Nat), vs = [.ref d] ∧ OrdD H d ts oa L ∧ ts.Nodup ∧ ts.length ≤ 60 ∧ (∀ x ∈ ts, fl x ∈ ts) ∧ (∀ x ∈ ts, ∃ tl, L x = ((fl x : Nat) : Int) :: tl) ∧
  ∀ (b : Addr) (cs : List Addr) (g : List (List Nat)) (H' : Hp), SameB d H H' → Rd H' d (.dK (kvD (fun x => .ref (oa x)) ts)) → Rd2 H' b cs (g.map natL) → New H (b :: cs) → KM.RoundF fl ts g → Q (.ref b) H'
def spLeft : Sp := fun vs H Q _ => ∃ (d e : Addr) (ts : List Nat) (oa : Nat → Addr) (L : Nat → List Int) (cs : List Addr) (g : List (List Nat)), vs = [.ref d, .ref e] ∧ OrdD H d ts oa L ∧ Rd2 H e cs (g.map natL) ∧ ts.Nodup ∧ ts.length ≤ 60 ∧ (∀ x ∈ ts, (L x).length ≤ 1000) ∧ g.flatten.Nodup ∧ g.flatten.length ≤ 60 ∧
  ∀ (b : Addr) (oa' : Nat → Addr) (H' : Hp), SameB d H H' → Rd H' d (.dK (kvD (fun x => .ref (oa x)) ts)) → H' b = some (.dK (kvD (fun x => .ref (oa' x)) (ts.filter fun x => decide (x ∉ g.flatten)))) →
    (∀ x ∈ ts.filter fun x => decide (x ∉ g.flatten), H' (oa' x) = some (.lst (nums ((L x).filter fun y => decide (y ∉ natL g.flatten))))) → H b = none → Q (.ref b) H'
end KS

set_option Elab.async false
set_option linter.all false
set_option maxRecDepth 100000
set_option maxHeartbeats 4000000
/-! Exceptions: how one flies out of a def, how a def raises one. -/
namespace L2
open PySem PySem.Spec PyProof.Rows
theorem ObjOk.there {P : Program} {w : World} {H : Hp} {h : Heap} {a : Addr} {o : HO} (x : ObjOk P w H h a o) : ∃ ob, h.get? a = some ob := by
  cases o with
  | lst xs => obtain ⟨_, _, _, _, e⟩ := x; exact ⟨_, e⟩
  | tup xs => obtain ⟨_, _, _, ob, e, _⟩ := x; exact ⟨ob, e⟩
  | dK kvs => obtain ⟨_, _, _, _, ob, _, _, e, _⟩ := x; exact ⟨ob, e⟩
  | dT kvs => obtain ⟨_, _, _, _, ob, _, _, e, _⟩ := x; exact ⟨ob, e⟩
  | set S n => obtain ⟨ob, _, _, _, e, _⟩ := x; exact ⟨ob, e⟩
  | ins C dx fs => obtain ⟨_, _, _, e, _⟩ := x; exact ⟨_, e⟩
  | own y => obtain ⟨ob, e⟩ := x; exact ⟨ob, e⟩
  | xd fs => obtain ⟨_, ⟨ob, _, _, e, _⟩, _⟩ := x; exact ⟨ob, e⟩
  | rng lo hi => obtain ⟨_, _, _, e⟩ := x; exact ⟨_, e⟩
  | frz ob u => obtain ⟨e, _⟩ := x; exact ⟨ob, e⟩
  | tbl ps => exact ⟨_, (show h.get? a = some _ from x)⟩
  | met f y => exact ⟨_, (show h.get? a = some _ from x)⟩
  | ext φ => obtain ⟨_, ⟨ob, e⟩, _⟩ := x; exact ⟨ob, e⟩
/-- B holds what is tracked and what stood in g but no frame, as it stands in h -/
def Cov (fs : List Addr) (g : Heap) (H : Hp) (B h : Heap) : Prop := ∀ b o, h.get? b = some o → (H b ≠ none ∨ ((∃ u, g.get? b = some u) ∧ b ∉ fs)) → B.get? b = some o
/-- only frames' slots and records have changed -/
theorem un_fly {P : Program} {w : World} {fs : List Addr} {g h h' B : Heap} {H H' : Hp} (u : Un fs [] H H' g h) (hok : HOk P w H' h) (hf : ∀ b ∈ fs, H b = none ∧ ∀ o, g.get? b = some o → ∀ vs, o.data ≠ .fields vs)
    (cov : Cov fs g H' B h) (st : B.StaysIn h') (up : h.UpToSlots h') : Un fs [] H H' g h' ∧ HOk P w H' h' ∧ Cov fs g H' B h' := by
  refine ⟨⟨fun b o e n hb _ => ?_, fun b o e n hb _ => ?_, fun b o e n _ => u.free b o e n (by simp), fun b o e _ => ?_, u.tups, u.frzs, u.tbls⟩, fun b x e => ?_, fun b o e hc => ?_⟩
  · exact st b o (cov b o (u.keep b o e n hb (by simp)) (.inr ⟨⟨o, e⟩, hb⟩))
  · obtain ⟨sl, q⟩ := u.slot b o e n hb (by simp)
    obtain ⟨sl', q'⟩ := up b _ q ((hf b hb).2 o e)
    exact ⟨sl', q'⟩
  · by_cases hb : b ∈ fs
    · obtain ⟨sl, q⟩ := u.slot b o e (hf b hb).1 hb (by simp)
      obtain ⟨sl', q'⟩ := up b _ q ((hf b hb).2 o e)
      exact ⟨_, q'⟩
    · obtain ⟨o', q⟩ := u.there b o e (by simp)
      exact ⟨o', st b o' (cov b o' q (.inr ⟨⟨o, e⟩, hb⟩))⟩
  · refine (hok b x e).stay (fun c v hc q => st c v (cov c v q (.inl ?_))) (fun _ q => q) fun _ _ q => q
    rcases hc with z | z
    · rw [z, e]; intro w; cases w
    · rw [z]; intro w; cases w
  · have back : ∀ o', h.get? b = some o' → B.get? b = some o := fun o' q => by
      have z1 := cov b o' q hc
      have z := st b o' z1
      rw [e] at z
      cases z
      exact z1
    rcases hc with hn | ⟨⟨x, hx⟩, hb⟩
    · cases q : H' b with
      | none => exact absurd q hn
      | some x =>
        obtain ⟨o', z⟩ := (hok b x q).there
        exact back o' z
    · obtain ⟨o', q⟩ := u.there b x hx (by simp)
      exact back o' q
/-- the exception e flies through the frames stk -/
def Flies (stk : List Env) (g : Heap) (H : Hp) (e : Addr) (cls : Value) (h : Heap) : Prop := ∃ B a0, Heap.FlyingW B stk e cls a0 h ∧ Cov (frs stk) g H B h ∧ g.get? e = none
def CX1 (P : Program) (w : World) : CXT := fun outer H s E e s' =>
  ∃ (ea : Addr) (C : Value) (H' : Hp), e = .ref ea ∧ s'.os = s.os ∧ AllBare s'.gens ∧ Un (frs outer) [] H H' s.heap s'.heap ∧ HOk P w H' s'.heap ∧ Flies outer s.heap H' ea C s'.heap ∧ E C none H'
/-- in a def's frame: its callers' frames, its own -/
structure InDef (X : Cx) : Prop where
  ex : X.ex = []
  stk : X.stack = X.env :: X.outer
  fr : X.env.frame = some X.env.locals
theorem InDef.frs {X : Cx} (D : InDef X) : L2.frs X.stack = X.env.locals :: X.fs := by
  rw [D.stk]
  unfold L2.frs
  rw [List.filterMap_cons, D.fr]
  rfl
section
variable {X : Cx} {pins : List (Addr × Obj)} {σ : St} {H : Hp} {s : Shared}
theorem Inv.frOk (I : Inv X pins σ H s) : ∀ b ∈ X.fs, X.H₀ b = none ∧ ∀ o, X.s₀.heap.get? b = some o → ∀ vs, o.data ≠ .fields vs := fun b hb => by
  refine ⟨I.ok.frf b hb, fun o e vs z => ?_⟩
  obtain ⟨_, o', ho, hd⟩ := I.ok.funs.mem hb
  rw [e] at ho
  cases ho
  exact hd vs z
theorem Inv.stkOk (I : Inv X pins σ H s) : ∀ b ∈ frs X.stack, H b = none ∧ ∀ o, s.heap.get? b = some o → ∀ vs, o.data ≠ .fields vs := fun b hb => by
  refine ⟨I.stkFree b hb, fun o e vs z => ?_⟩
  obtain ⟨_, o', ho, hd⟩ := I.stack.mem hb
  rw [e] at ho
  cases ho
  exact hd vs z
/-- what stood at the entry and is no caller's frame is no frame at all -/
theorem Inv.noFr (I : Inv X pins σ H s) (D : InDef X) {b : Addr} {u : Obj} (e : X.s₀.heap.get? b = some u) (hb : b ∉ X.fs) : b ∉ frs X.stack := fun z => by
  rw [D.frs] at z
  rcases List.mem_cons.mp z with q | q
  · exact absurd (Nat.lt_of_lt_of_le (Heap.lt_size e) (by rw [q]; exact I.ok.above)) (Nat.lt_irrefl _)
  · exact hb q
end
section
variable {P : Program} {w : World} {K : PySem.W.Frag} {mg : Str → Option Value} {base : Heap} {N : List Str} {qual : Str} {scope : Scope} {f : Addr} {cd : Value} {A : Around} {outer : List Env} {s₀ : Shared} {H₀ : Hp} {E : XK}
theorem inDef {CX : CXT} : InDef (cxOf CX P w K mg base N qual scope f cd A outer s₀ H₀ E) := ⟨rfl, rfl, rfl⟩
theorem left_of {X : Cx} {pins : List (Addr × Obj)} {σ : St} {H : Hp} {s : Shared} {h' B : Heap} {g : Heap} {ea : Addr} {C a0 : Value} {E : XK} (D : InDef X) (I : Inv X pins σ H s) (hg : ∀ b u, X.s₀.heap.get? b = some u → ∃ v, g.get? b = some v) (hn : g.get? ea = none)
    (cov : Cov (frs X.stack) g H B s.heap) (fl : Heap.FlyingW B X.outer ea C a0 h') (up : s.heap.UpToSlots h') (hE : E C none H) : CX1 X.prog X.w X.outer X.H₀ X.s₀ E (.ref ea) { s with heap := h' } := by
  have bs := I.base
  rw [D.ex] at bs
  have cov' : Cov X.fs X.s₀.heap H B s.heap := fun b o e hc => cov b o e (hc.elim .inl fun ⟨⟨u, hu⟩, hb⟩ => .inr ⟨hg b u hu, I.noFr D hu hb⟩)
  obtain ⟨u1, u2, u3⟩ := un_fly bs I.hok I.frOk cov' fl.1 up
  refine ⟨ea, C, H, rfl, I.os, I.bare, u1, u2, ⟨B, a0, fl, u3, ?_⟩, hE⟩
  cases q : X.s₀.heap.get? ea with
  | none => rfl
  | some u =>
    obtain ⟨v, z⟩ := hg ea u q
    rw [hn] at z
    cases z
/-- an exception of a callee goes on -/
theorem pass1 : Passes (CX1 P w) (cxOf (CX1 P w) P w K mg base N qual scope f cd A outer s₀ H₀ E) E := by
  rintro pins σ H s e s' I ⟨ea, C, H', rfl, os, bare, un, hok, ⟨B, a0, fl, cov, hn⟩, hE⟩
  have I' := I.call' os un hok bare (fun b z => absurd z (by simp))
  refine wpAny_leaves_onW (s := s') I.ok.frames rfl fl fun h' f2 up => ?_
  refine left_of (X := cxOf (CX1 P w) P w K mg base N qual scope f cd A outer s₀ H₀ E) inDef I' (fun b u e => I.base.there b u e (by intro z; cases z)) hn cov f2 up hE
theorem FnOk.cx1 {k : Nat} {f : Addr} {fd : FuncData} {ps : List Str} {sp : Sp} (F : FnOk P w K mg base CX0 k f fd ps sp) : FnOk P w K mg base (CX1 P w) k f fd ps sp :=
  ⟨F.len, fun A outer s H args us vs Q E hr he hb hv hs => codeAny_mono (F.run A outer s H args us vs Q E hr he hb hv hs) fun r s' hq => by
    cases r with
    | error e => exact (show False from hq).elim
    | ok fl => cases fl <;> exact hq⟩
theorem FnOk.or {CX : CXT} {k : Nat} {f : Addr} {fd : FuncData} {ps : List Str} {sp sp' : Sp} (F : FnOk P w K mg base CX k f fd ps sp) (G : FnOk P w K mg base CX k f fd ps sp') : FnOk P w K mg base CX k f fd ps (fun vs H Q E => sp vs H Q E ∨ sp' vs H Q E) :=
  ⟨fun vs H Q E h => h.elim (F.len vs H Q E) (G.len vs H Q E), fun A outer s H args us vs Q E hr he hb hv hs => hs.elim (F.run A outer s H args us vs Q E hr he hb hv) (G.run A outer s H args us vs Q E hr he hb hv)⟩
/-- a def that may raise -/
theorem Fun.okX {x qual : Str} {st : Stmt} {f : Addr} {fd : FuncData} {N ps : List Str} {k : Nat} {sp : Sp} (F : Fun K x qual st f fd) (S : FnScope N ps (defScope st)) (len : ∀ vs H Q E, sp vs H Q E → vs.length = ps.length)
    (hbody : ∀ (cdv : Value) (A : Around) (outer : List Env) (s : Shared) (H : Hp) (vs : List V) (Q : VK) (E : XK), Room k (A.deeper (envOfC qual (defScope st) s.heap.objs.size f cdv)) → sp vs H Q E →
      ∃ t, PSs (cxOf (CX1 P w) P w K mg base N qual (defScope st) f cdv A outer s H E) (defBody st) t ∧ t { nx := fun _ H' => Q .non H', rt := Q } (start N vs) H) : FnOk P w K mg base (CX1 P w) (k + 1) f fd ps sp := by
  obtain ⟨oc, od, kV, doc, pm, an, cdv, ct, osl, rfl, lk, hcd⟩ := F.ex
  exact fn_of lk hcd S len fun A outer s H vs Q E hr hsp => hbody cdv A outer s H vs Q E hr hsp
/-! ### raise C(text) -/
abbrev veBases : List Value := [.type "ValueError", .type "Exception", .type "BaseException", .type "object"]
/-- C is an own exception, a ValueError -/
abbrev OwnVE (K : PySem.W.Frag) (C : Addr) : Prop := PySem.W.excIn K C veBases "ValueError.__new__" = true
theorem own_obj {K : PySem.W.Frag} {h : Heap} {C : Addr} (X : K.In h) (q : OwnVE K C) :
    ∃ bm N nm q bs hdct sn sub ab col dd k0 k1 k2 k3 k5 mN, h.get? C = some (excClassObj nm q C N bs bm hdct sn sub ab col dd k0 k1 k2 k3 k5 "ValueError.__new__") ∧ h.Ns N mN ∧ mN "__init__" = none ∧ OwnTail h veBases bm := by
  unfold OwnVE PySem.W.excIn at q
  split at q
  · rename_i dd cd sl ho
    split at q
    · rename_i C' bm k0 k1 k2 k3 n k5 hm hs
      simp only [Bool.and_eq_true, beq_iff_eq, Bool.not_eq_true'] at q
      obtain ⟨⟨⟨⟨⟨e1, e2⟩, hdel⟩, ht⟩, hns⟩, hni⟩ := q
      subst e1 e2
      obtain ⟨nm, bs, mro, ns, qn, hd, sn, sub, ab, col, del⟩ := cd
      dsimp only at hm hdel hns hni
      subst hm hdel
      have es : sl = #[k0, k1, k2, k3, some (.builtin "ValueError.__new__"), k5] := by
        cases sl with
        | mk l => simp only at hs; rw [hs]
      rw [es] at ho
      exact ⟨bm, ns, nm, qn, bs, hd, sn, sub, ab, col, dd, k0, k1, k2, k3, k5, _, X _ _ ho, .of_isNs (PySem.W.isNs_of_in X hns), PySem.W.nsMap_none_of_in X hns hni, PySem.W.tail_of_in X ht⟩
    · cases q
  · cases q
theorem ps_raise {x : Str} {C : Addr} {a : Expr} {ta : TA} {np cpos pos : Pos} (hg : Gl (cxOf (CX1 P w) P w K mg base N qual scope f cd A outer s₀ H₀ E) x) (hm : mg x = some (.ref C)) (O : OwnVE K C) (ha : PA (cxOf (CX1 P w) P w K mg base N qual scope f cd A outer s₀ H₀ E) [a] ta)
    (hs : starEach [a] (envOfC qual scope s₀.heap.objs.size f cd) = [(false, eval a (envOfC qual scope s₀.heap.objs.size f cd))] := by rfl) (hd : (x == ("__debug__" : Str)) = false := by decide) :
    PS (cxOf (CX1 P w) P w K mg base N qual scope f cd A outer s₀ H₀ E) (.Raise (some (.Call (.Name x np) [a] [] cpos)) none pos) (fun D σ H => ta σ H fun vs H1 => vs.length ≤ 1000 ∧ E (.ref C) none H1) := by
  intro pins s σ H D I h
  have kb : K.In base := I.ok.mod.kin
  obtain ⟨bm, Nn, nm, q, bs, hdct, sn, sub, ab, col, dd, k0, k1, k2, k3, k5, mN, hC, hN, hni, T⟩ := own_obj kb O
  refine wpAny_Raise_call_subT (C := C) (nm := nm) (q := q) (N := Nn) (bs := bs) (bm := bm) (hdct := hdct) (sn := sn) (sub := sub) (ab := ab) (col := col) (dd := dd) (k0 := k0) (k1 := k1) (k2 := k2) (k3 := k3) (k5 := k5)
    PySem.F.excBase_ValueError (mN := mN) (T.hasType PySem.F.excBase_ValueError.hasBase) (I.ok.hd rfl) (by rw [show starEach [a] (cxOf (CX1 P w) P w K mg base N qual scope f cd A outer s₀ H₀ E).env = _ from hs]; rfl) hni (ld_glob I hg hm ⟨rfl, ?_⟩ hd)
  have hs' : starEach [a] (cxOf (CX1 P w) P w K mg base N qual scope f cd A outer s₀ H₀ E).env = [(false, eval a (cxOf (CX1 P w) P w K mg base N qual scope f cd A outer s₀ H₀ E).env)] := hs
  have hA := ha cpos pins s σ H _ I h
  rw [hs'] at hA ⊢
  refine Calls.evalArgs_plain (wpAny_mono hA (fun vs s1 h1 => ?_) fun _ _ y => y)
  obtain ⟨us, H1, I1, rv, hl, hE⟩ := h1
  have kp := I1.bk
  refine ⟨rfl, ?_, kp _ _ hC, hN.keeps kp, T.keeps kp, fun h' e hx => ?_⟩
  · show vs.length ≤ sizeLine
    rw [← rv.length]
    exact Nat.le_of_lt (small1000 hl)
  -- it leaves this frame
  have hin : ∀ env ∈ (cxOf (CX1 P w) P w K mg base N qual scope f cd A outer s₀ H₀ E).stack, ∀ b, env.frame = some b → b ∈ frs (cxOf (CX1 P w) P w K mg base N qual scope f cd A outer s₀ H₀ E).stack := fun env he b hb => List.mem_filterMap.mpr ⟨env, he, hb⟩
  refine wpAny_leaves_madeW (s := { s1 with heap := h' }) (base := PySem.W.hideAll s1.heap (frs (cxOf (CX1 P w) P w K mg base N qual scope f cd A outer s₀ H₀ E).stack)) I.ok.frames rfl (fun b o z => PySem.W.of_hideAll _ z) (PySem.W.funFrames_hide I1.stack hin) hx fun h2 t x1 _ _ x4 => ?_
  have I2 : Inv (cxOf (CX1 P w) P w K mg base N qual scope f cd A outer s₀ H₀ E) pins σ H1 { s1 with heap := h' } := I1.kept (t' := s1.toks) hx.keeps
  refine left_of (X := cxOf (CX1 P w) P w K mg base N qual scope f cd A outer s₀ H₀ E) (g := s1.heap) inDef I2 (fun b u z => I1.base.there b u z (by intro z; cases z)) hx.new (fun b o z hc => ?_) x1 x4 hE
  have key : ∀ o', s1.heap.get? b = some o' → b ∉ frs (cxOf (CX1 P w) P w K mg base N qual scope f cd A outer s₀ H₀ E).stack → (PySem.W.hideAll s1.heap (frs (cxOf (CX1 P w) P w K mg base N qual scope f cd A outer s₀ H₀ E).stack)).get? b = some o := fun o' z1 nb => by
    have z2 := hx.keeps b o' z1
    have z : h'.get? b = some o := z
    rw [z] at z2
    cases z2
    exact PySem.W.hideAll_get _ z1 nb
  rcases hc with hc | ⟨⟨u, hu⟩, nb⟩
  · cases q : H1 b with
    | none => exact absurd q hc
    | some x =>
      obtain ⟨o', z1⟩ := (I1.hok b x q).there
      exact key o' z1 fun nb => by rw [I1.stkFree b nb] at q; cases q
  · exact key u hu nb
end
end L2

set_option Elab.async false
set_option linter.all false
set_option maxRecDepth 100000
set_option maxHeartbeats 4000000
/-! try and except, a text with a number in it, what is never reached. -/
namespace L2
open PySem PySem.Spec PyProof.Rows
section
variable {X : Cx}
theorem pg_never {tg : Expr} : PG X tg (fun _ _ _ _ => False) := fun _ _ _ _ _ _ _ _ _ h => h.elim
/-- f'a{e}b', e a small int -/
theorem pe_fstr {a b : Str} {e : Expr} {te : TE} {j1 j3 : Nat} {p1 p2 p3 pos : Pos} (he : PE X e te) (ha : a.length ≤ 1000) (hb : b.length ≤ 1000) :
    PE X (.JoinedStr [.Constant (.str a) j1 p1, .FormattedValue e (-1) none p2, .Constant (.str b) j3 p3] pos) (fun σ H Q => te σ H fun x H1 => ∃ n : Int, x = .int n ∧ n.natAbs ≤ 1000 ∧ ∀ z, Q (.str z) H1) := by
  intro pins s σ H Q I h
  refine JoinedStr_many (joinParts_cons (Calls.Constant_str ?_))
  have h0 : (Str.empty ++ a).length = a.length := by rw [strLen_append]; show 0 + a.length = a.length; omega
  refine ⟨by rw [h0, sizeLine_eq]; omega, ?_⟩
  refine joinParts_cons (FormattedValue_plain (thn (he pins _ σ H _ (I.tok _) h) fun v s1 ⟨x, H1, I1, r1, q1⟩ => ?_))
  obtain ⟨n, rfl, hn, q⟩ := q1
  obtain ⟨t, rfl⟩ := r1
  have hl : n.natAbs.log2 < 11 := by
    by_cases z : n.natAbs = 0
    · rw [z]; decide
    · exact (Nat.log2_lt z).mpr (by omega)
  have ht := int_text_length_le (k := 11) (by decide) hl
  have h1 : ((Str.empty ++ a) ++ Str.ofString (toString n)).length ≤ 1012 := by
    rw [strLen_append, h0, PySem.ofString_length]
    omega
  refine formatField_int_small (Nat.lt_of_lt_of_le hl (by decide)) ?_
  refine ⟨by rw [sizeLine_eq]; exact Nat.le_trans h1 (by decide), ?_⟩
  refine joinParts_cons (Calls.Constant_str ?_)
  have h2 : (((Str.empty ++ a) ++ Str.ofString (toString n)) ++ b).length ≤ 2012 := by
    rw [strLen_append]
    omega
  refine ⟨by rw [sizeLine_eq]; exact Nat.le_trans h2 (by decide), ?_⟩
  exact joinParts_nil ⟨.str _, H1, ((I1.tok _).tok _).tok _, ⟨_, rfl⟩, q _⟩ (by rw [sizeLine_eq]; exact Nat.le_trans h2 (by decide))
end

/-! ### where an exception is caught -/
/-- an exception of a callee has come to this frame -/
def Land (X : Cx) (pins : List (Addr × Obj)) (σ : St) (H : Hp) (ea : Addr) (C : Value) (s' : Shared) : Prop :=
  ∃ s H0, Inv X pins σ H0 s ∧ s'.os = s.os ∧ AllBare s'.gens ∧ Un (frs X.stack) [] H0 H s.heap s'.heap ∧ HOk X.prog X.w H s'.heap ∧ Flies X.stack s.heap H ea C s'.heap
/-- within an except suite -/
def handCx (X : Cx) (ea : Addr) : Cx := { X with A := X.A.mark (some (.ref ea)), calm := false, xe := fun _ _ => False }
section
variable {X : Cx} {pins : List (Addr × Obj)} {σ : St} {H : Hp} {s : Shared} {ea : Addr} {C : Value}
theorem Land.inv (L : Land X pins σ H ea C s) : Inv X pins σ H s := by
  obtain ⟨s0, H0, I, os, bare, un, hok, _⟩ := L
  exact I.call' os un hok bare (fun b z => absurd z (by simp))
theorem Land.use (L : Land X pins σ H ea C s) : ∃ B a0, Heap.FlyingW B X.stack ea C a0 s.heap ∧ ∀ h', Heap.FlyingW B X.stack ea C a0 h' → s.heap.UpToSlots h' → Land X pins σ H ea C { s with heap := h' } := by
  obtain ⟨s0, H0, I, os, bare, un, hok, B, a0, fl, cov, hn⟩ := L
  refine ⟨B, a0, fl, fun h' f2 up => ?_⟩
  obtain ⟨u1, u2, u3⟩ := un_fly un hok I.stkOk cov f2.1 up
  exact ⟨s0, H0, I, os, bare, u1, u2, B, a0, f2, u3, hn⟩
theorem Land.ty {M : Model} (L : Land X pins σ H ea C s) : PySem.W.Looks M s.heap (typeOf (.ref ea)) C := by
  obtain ⟨B, a0, fl, _⟩ := L.use
  obtain ⟨ob, e, hc⟩ := fl.there
  subst hc
  exact (PySem.W.Looks.ld e).andThen .now
theorem Cx.Ok.hand (ok : X.Ok) (ea : Addr) : (handCx X ea).Ok :=
  ⟨ok.mod, ok.kind, ok.glob, ok.blt, ok.above, ok.inj, ok.has, ok.cab, (fun z => by cases (show false = true from z)), ok.frames, ok.stk, ok.exf, ok.bs, ok.bsz, ok.noex, ok.exfs, ok.funs, ok.frf⟩
theorem Inv.hand (I : Inv X pins σ H s) (ea : Addr) : Inv (handCx X ea) pins σ H s := ⟨I.ok.hand ea, I.os, I.bare, I.base, I.loc, I.cell, I.free, I.freeC, I.pin, I.hok, I.len⟩
theorem Inv.unhand {ea : Addr} (I : Inv (handCx X ea) pins σ H s) (ok : X.Ok) : Inv X pins σ H s := ⟨ok, I.os, I.bare, I.base, I.loc, I.cell, I.free, I.freeC, I.pin, I.hok, I.len⟩
theorem SP.unhand {ea : Addr} {D : Ends} {f : Flow} {s' : Shared} (h : SP (handCx X ea) pins D f s') (ok : X.Ok) : SP X pins D f s' := by
  cases f with
  | next => obtain ⟨σ', H', I, q⟩ := h; exact ⟨σ', H', I.unhand ok, q⟩
  | brk => obtain ⟨σ', H', I, q⟩ := h; exact ⟨σ', H', I.unhand ok, q⟩
  | cont => obtain ⟨σ', H', I, q⟩ := h; exact ⟨σ', H', I.unhand ok, q⟩
  | ret u => obtain ⟨v, σ', H', I, r, q⟩ := h; exact ⟨v, σ', H', I.unhand ok, r, q⟩
end
/-- except clauses: the exception's class, the ends, the names' values, the heap -/
abbrev TH := Value → Ends → St → Hp → Prop
def PH (X : Cx) (hs : List ExceptHandler) (th : TH) : Prop :=
  ∀ (pins : List (Addr × Obj)) (σ : St) (H : Hp) (D : Ends) (ea : Addr) (C : Value) (s : Shared), Land X pins σ H ea C s → th C D σ H → wpAny (model X.prog X.w) X.A (handleBy (.ref ea) X.env hs) (SP X pins D) X.xe s
section
variable {X : Cx} {x : Str} {c : Value} {np pos : Pos} {b₀ : Stmt} {suite : List Stmt} {rest : List ExceptHandler} {tsu : TS} {tr : TH}
theorem ph_nil : PH X [] (fun _ _ _ _ => False) := fun _ _ _ _ _ _ _ _ h => h.elim
/-- except C: .. -/
theorem ph_name (hg : Gl X x) (hm : X.mg x = some c) (hsu : ∀ ea, PSs (handCx X ea) (b₀ :: suite) tsu) (hr : PH X rest tr) (hd : (x == ("__debug__" : Str)) = false := by decide) :
    PH X (.ExceptHandler (some (.Name x np)) none (b₀ :: suite) pos :: rest) (fun C D σ H => ∃ b, PySem.W.exmOne X.K C c = some b ∧ if b = true then tsu D σ H else tr C D σ H) := by
  intro pins σ H D ea C s L h
  obtain ⟨b, hb, h⟩ := h
  have I := L.inv
  refine wpAny_handleBy_cons (codeAny_handlers_test (ld_glob (X := handCx X ea) (I.hand ea) hg hm ?_ hd)) (by intro q; cases q)
  refine (PySem.W.exm_one I.kIn L.ty hb).here ?_
  cases b with
  | false => exact hr pins σ H D ea C s L (by simpa using h)
  | true =>
    obtain ⟨B, a0, fl, go⟩ := L.use
    refine codeAny_handlers_suite (lands_againW fl fun h' f2 up => ?_)
    have I2 := (go h' f2 up).inv
    exact wpAny_mono (hsu ea pins { s with heap := h' } σ H D (I2.hand ea) (by simpa using h)) (fun f s' q => q.unhand I.ok) fun _ _ z => (show False from z).elim
end
/-- the context of a try's body: what stands below is borne by every state -/
def tryCx (X : Cx) (pins : List (Addr × Obj)) (xe : Value → Shared → Prop) : Cx := { X with pn := X.pn ++ pins, xe := xe }
section
variable {X : Cx} {pins : List (Addr × Obj)} {σ : St} {H : Hp} {s : Shared} {xe : Value → Shared → Prop}
theorem Cx.Ok.tr (ok : X.Ok) : (tryCx X pins xe).Ok := ⟨ok.mod, ok.kind, ok.glob, ok.blt, ok.above, ok.inj, ok.has, ok.cab, ok.hd, ok.frames, ok.stk, ok.exf, ok.bs, ok.bsz, ok.noex, ok.exfs, ok.funs, ok.frf⟩
theorem Cx.Ok.untr (ok : (tryCx X pins xe).Ok) : X.Ok := ⟨ok.mod, ok.kind, ok.glob, ok.blt, ok.above, ok.inj, ok.has, ok.cab, ok.hd, ok.frames, ok.stk, ok.exf, ok.bs, ok.bsz, ok.noex, ok.exfs, ok.funs, ok.frf⟩
theorem Inv.tr (I : Inv X pins σ H s) : Inv (tryCx X pins xe) [] σ H s :=
  ⟨I.ok.tr, I.os, I.bare, I.base, I.loc, I.cell, I.free, I.freeC, (fun p hp => I.pin p (by rw [show (tryCx X pins xe).pn ++ [] = X.pn ++ pins from List.append_nil _] at hp; exact hp)), I.hok, I.len⟩
theorem Inv.untr {more : List (Addr × Obj)} (I : Inv (tryCx X pins xe) more σ H s) : Inv X pins σ H s :=
  ⟨I.ok.untr, I.os, I.bare, I.base, I.loc, I.cell, I.free, I.freeC, (fun p hp => I.pin p (List.mem_append_left _ hp)), I.hok, I.len⟩
theorem SP.untr {D : Ends} {f : Flow} {s' : Shared} (h : SP (tryCx X pins xe) [] D f s') : SP X pins D f s' := by
  cases f with
  | next => obtain ⟨σ', H', I, q⟩ := h; exact ⟨σ', H', I.untr, q⟩
  | brk => obtain ⟨σ', H', I, q⟩ := h; exact ⟨σ', H', I.untr, q⟩
  | cont => obtain ⟨σ', H', I, q⟩ := h; exact ⟨σ', H', I.untr, q⟩
  | ret u => obtain ⟨v, σ', H', I, r, q⟩ := h; exact ⟨v, σ', H', I.untr, r, q⟩
/-- try: body except .. (no else, no finally): what the body wants of an exception is the clauses' reading, whatever the names hold -/
def tTry (n : Nat) (tb : XK → TS) (th : TH) : TS := fun D σ H => tb (fun C _ H' => ∀ σ' : St, σ'.length = n → th C D σ' H') D σ H
theorem ps_try {body : List Stmt} {h₀ : ExceptHandler} {hs : List ExceptHandler} {pos : Pos} {tb : XK → TS} {th : TH} (hD : InDef X)
    (hb : ∀ (pins : List (Addr × Obj)) (xe : Value → Shared → Prop) (E : XK), Passes (CX1 X.prog X.w) (tryCx X pins xe) E → PSs (tryCx X pins xe) body (tb E)) (hh : PH X (h₀ :: hs) th) : PS X (.Try body (h₀ :: hs) [] [] pos) (tTry X.N.length tb th) := by
  intro pins s σ H D I h
  rw [arm_exec_Try]
  refine wpAny_bind (wpAny_standAt (wpAny_tryStmt_except ?_))
  have key := hb pins (fun e s' => ∃ (ea : Addr) (C : Value) (σ' : St) (H' : Hp), e = .ref ea ∧ Land X pins σ' H' ea C s' ∧ th C D σ' H') (fun C _ H' => ∀ σ' : St, σ'.length = X.N.length → th C D σ' H') ?_ [] s σ H D I.tr h
  · refine wpAny_mono key (fun f s' q => ?_) fun e s' q => ?_
    · have q := q.untr
      cases f with
      | next => exact wpAny_execs_nil q
      | brk => exact q
      | cont => exact q
      | ret u => exact q
    · obtain ⟨ea, C, σ', H', rfl, L, ht⟩ := q
      have fr := I.ok.frames
      rw [hD.stk] at fr
      obtain ⟨B, a0, fl, go⟩ := L.use
      rw [hD.stk] at fl go
      refine wpAny_looks_onW fr hD.fr fl fun h4 held up4 => ?_
      refine wpAny_landsW (s := { s' with heap := h4 }) held fun h5 f5 up5 => ?_
      exact hh pins σ' H' D ea C _ (go h5 f5 (up4.trans up5)) ht
  · rintro pins' σ1 H1 s1 e s' I1 ⟨ea, C, H', rfl, os, bare, un, hok, fl, hE⟩
    exact ⟨ea, C, σ1, H', rfl, ⟨s1, H1, I1.untr, os, bare, un, hok, fl⟩, hE σ1 I1.len⟩
end
end L2

set_option Elab.async false
set_option linter.all false
set_option maxRecDepth 100000
set_option maxHeartbeats 4000000
/-! except C as e: .., what e is. -/
namespace L2
open PySem PySem.Spec PyProof.Rows
/-- the exception at e: its class -/
def excO (e : Addr) (C : Value) : HO := .ext fun h => ∃ o, h.get? e = some o ∧ o.cls = C
section
variable {X : Cx} {pins : List (Addr × Obj)} {σ : St} {H : Hp} {s : Shared} {ea : Addr} {C : Value}
theorem Land.track (L : Land X pins σ H ea C s) : H ea = none ∧ Inv X pins σ (upd H ea (excO ea C)) s := by
  obtain ⟨B, a0, fl, _⟩ := L.use
  have I := L.inv
  obtain ⟨s0, H0, I0, os, bare, un, hok, B', a0', fl', cov, hn⟩ := L
  obtain ⟨oe, vs, he, hcls, hd, _⟩ := fl.first
  have hne : H ea = none := by
    cases q : H ea with
    | none => rfl
    | some x =>
      obtain ⟨o, z⟩ := (hok ea x q).there
      have := cov ea o z (.inl (by rw [q]; intro w; cases w))
      rw [fl'.2.1] at this
      cases this
  have was : ∀ b u, s0.heap.get? b = some u → b ≠ ea := fun b u z w => by rw [w, hn] at z; cases z
  have hL : ea ≠ X.env.locals := by
    obtain ⟨m, ⟨o, _, _, ho, _⟩, _⟩ := I0.loc
    exact (was _ o ho).symm
  refine ⟨hne, ⟨I.ok, I.os, I.bare, ⟨I.base.keep, I.base.slot, fun b o e n hx => ?_, I.base.there, fun b xs e => ?_, fun b o u e => ?_, fun b ps e => ?_⟩, I.loc, I.cell, ?_, fun x c e => ?_, fun p hp => ?_, fun b u e => ?_, I.len⟩⟩
  · have : b ≠ ea := fun z => by
      by_cases hb : b ∈ X.ex
      · exact hx hb
      · obtain ⟨o', q⟩ := I0.base.there b o e hb
        exact was b o' q z
    rw [upd_ne this]
    exact I.base.free b o e n hx
  · have q := I.base.tups b xs e
    rw [upd_ne (ne_of_none q hne)]
    exact q
  · have q := I.base.frzs b o u e
    rw [upd_ne (ne_of_none q hne)]
    exact q
  · obtain ⟨more, q⟩ := I.base.tbls b ps e
    exact ⟨more, by rw [upd_ne (ne_of_none q hne)]; exact q⟩
  · rw [upd_ne hL.symm]
    exact I.free
  · obtain ⟨v, o, ho, _⟩ := I0.cell x c e
    rw [upd_ne (was c o ho)]
    exact I.freeC x c e
  · obtain ⟨e, n, ne, nf, d⟩ := I.pin p hp
    obtain ⟨e0, _⟩ := I0.pin p hp
    exact ⟨e, by rw [upd_ne (was p.1 p.2 e0)]; exact n, ne, nf, d⟩
  · by_cases hb : b = ea
    · subst hb
      rw [upd_same] at e
      cases e
      exact ⟨⟨oe, he, hcls⟩, ⟨oe, he⟩, fun h1 h2 ⟨o, z1, z2⟩ k => ⟨o, k o z1, z2⟩⟩
    · rw [upd_ne hb] at e
      exact (I.hok b u e).stay (fun _ _ _ q => q) (fun c q => by rw [upd_ne (ne_of_none q hne)]; exact q) fun c ys q => by rw [upd_ne (ne_of_none q hne)]; exact q
end
/-- the name goes behind the suite -/
theorem name_goes {X : Cx} {pins : List (Addr × Obj)} {σ : St} {H : Hp} {s : Shared} {i : Nat} {n : Str} {pos : Pos} {A : Around} {M : Model} {E : Value → Shared → Prop} {Q : Unit → Shared → Prop} (I : Inv X pins σ H s) (hN : X.N.Nodup) (hi : X.N[i]? = some n) (hl : X.env.scope.names.lookup n = some .local)
    (h : ∀ s', Inv X pins (σ.set i none) H s' → Q () s') : wpAny M A (do bindName X.env n .none; unbindBehindTheSuite X.env n pos) Q E s := by
  obtain ⟨m, hn, hlk⟩ := id I.loc
  have hcls : (X.env.scope.kind == .class || (X.env.scope.kind == .module && X.env.locals != X.env.globals)) = false := by rw [I.ok.kind]; rfl
  have hiσ : i < σ.length := by rw [I.len]; exact (List.getElem?_eq_some_iff.mp hi).1
  refine wpAny_nameGoes_keeps hl hn hcls fun h' v hn' hs => h _ ?_
  have neL : ∀ b u, X.s₀.heap.get? b = some u → b ≠ X.env.locals := fun b u e => Nat.ne_of_lt (Nat.lt_of_lt_of_le (Heap.lt_size e) I.ok.above)
  refine ⟨I.ok, I.os, I.bare, ⟨fun b o e n hb hx => ?_, fun b o e n hb hx => ?_, I.base.free, fun b o e hx => ?_, I.base.tups, I.base.frzs, I.base.tbls⟩, ⟨_, hn', fun j y w e1 e2 e3 => ?_⟩, fun y c e => ?_, I.free, I.freeC, fun p hp => ?_, fun b u e => ?_, by simpa using I.len⟩
  · exact (hs.2 b (neL b o e)).trans (I.base.keep b o e n hb hx)
  · obtain ⟨sl, e1⟩ := I.base.slot b o e n hb hx
    exact ⟨sl, (hs.2 b (neL b o e)).trans e1⟩
  · obtain ⟨o', e1⟩ := I.base.there b o e hx
    exact ⟨o', (hs.2 b (neL b o e)).trans e1⟩
  · by_cases hj : j = i
    · subst hj
      rw [List.getElem?_set_self hiσ] at e2
      cases e2
    · rw [List.getElem?_set_ne (Ne.symm hj)] at e2
      obtain ⟨u', r', q⟩ := hlk j y w e1 e2 e3
      refine ⟨u', r', ?_⟩
      rcases q with ⟨k, e⟩ | ⟨k, c, e, z⟩
      · refine .inl ⟨k, ?_⟩
        have : y ≠ n := fun e => hj (nodup_ix hN e1 (e ▸ hi))
        simp [this, e]
      · exact .inr ⟨k, c, e, z.sameBut hs (I.cne y c e)⟩
  · obtain ⟨w', z⟩ := I.cell y c e
    exact ⟨w', z.sameBut hs (I.cne y c e)⟩
  · obtain ⟨e, n, ne, nf, d⟩ := I.pin p hp
    exact ⟨(hs.2 p.1 ne).trans e, n, ne, nf, d⟩
  · refine (I.hok b u e).stay (fun c w' hc q => (hs.2 c ?_).trans q) (fun _ q => q) fun _ _ q => q
    intro z
    rcases hc with r | r
    · rw [← r, z, I.free] at e
      cases e
    · rw [z, I.free] at r
      cases r
section
variable {X : Cx} {x n : Str} {c : Value} {np pos : Pos} {b₀ : Stmt} {suite : List Stmt} {rest : List ExceptHandler} {tsu : TS} {tr : TH} {i : Nat}
/-- except C as n: a suite that returns -/
theorem ph_as (hg : Gl X x) (hm : X.mg x = some c) (hN : X.N.Nodup) (hi : X.N[i]? = some n) (hl : X.env.scope.names.lookup n = some .local) (hsu : ∀ ea, PSs (handCx X ea) (b₀ :: suite) tsu) (hr : PH X rest tr) (hd : (x == ("__debug__" : Str)) = false := by decide) :
    PH X (.ExceptHandler (some (.Name x np)) (some n) (b₀ :: suite) pos :: rest) (fun C D σ H => ∃ b, PySem.W.exmOne X.K C c = some b ∧
      if b = true then ∀ ea, H ea = none → tsu { nx := fun _ _ => False, rt := D.rt } (σ.set i (some (.ref ea))) (upd H ea (excO ea C)) else tr C D σ H) := by
  intro pins σ H D ea C s L h
  obtain ⟨b, hb, h⟩ := h
  have I := L.inv
  refine wpAny_handleBy_cons (codeAny_handlers_test (ld_glob (X := handCx X ea) (I.hand ea) hg hm ?_ hd)) (by intro q; cases q)
  refine (PySem.W.exm_one I.kIn L.ty hb).here ?_
  cases b with
  | false => exact hr pins σ H D ea C s L (by simpa using h)
  | true =>
    obtain ⟨B, a0, fl, go⟩ := L.use
    refine codeAny_handlers_suite_as (lands_againW fl fun h' f2 up => ?_)
    obtain ⟨hne, I2⟩ := (go h' f2 up).track
    have h : ∀ ea, H ea = none → tsu { nx := fun _ _ => False, rt := D.rt } (σ.set i (some (.ref ea))) (upd H ea (excO ea C)) := by simpa using h
    refine store_ok (X := handCx X ea) (I2.hand ea) hN hi (.inl hl) (v := .ref ea) rfl (fun s2 I3 => ?_) (.inr hl)
    refine wpAny_mono (hsu ea pins s2 _ _ _ I3 (h ea hne)) (fun f s' q => ?_) fun _ _ z => (show False from z).elim
    cases f with
    | next => obtain ⟨_, _, _, q⟩ := q; exact q.elim
    | brk => obtain ⟨_, _, _, q⟩ := q; exact (show False from q).elim
    | cont => obtain ⟨_, _, _, q⟩ := q; exact (show False from q).elim
    | ret u =>
      obtain ⟨v, σ', H', I4, r, q⟩ := q
      exact name_goes (I4.unhand I.ok) hN hi hl fun s5 I5 => ⟨v, _, H', I5, r, q⟩
end
end L2

set_option Elab.async false
set_option linter.all false
set_option maxRecDepth 100000
set_option maxHeartbeats 4000000
/-! isinstance of an exception, int of a bool. -/
namespace L2
open PySem PySem.Spec PySem.Calls PyProof.Rows
/-- what is looked up of an own exception's class -/
structure ExcK (K : PySem.W.Frag) (C : Addr) : Prop where
  ga : PySem.W.findIn K (.ref C) "__getattribute__" = some (some (.builtin "BaseException.__getattribute__"))
  gt : PySem.W.findIn K (.ref C) "__getattr__" = some none
  cl : PySem.W.findIn K (.ref C) "__class__" = some (some (.builtin "object.__class__"))
  be : PySem.W.mroIn K C (.type "BaseException") = some true
  ob : PySem.W.mroIn K C (.type "object") = some true
def ExcAt (e C : Addr) (h : Heap) : Prop := ∃ o, h.get? e = some o ∧ o.cls = .ref C
section
variable {prog : Program} {w : World} {A : Around} {E : Value → Shared → Prop} {K : PySem.W.Frag} {h : Heap} {g : Array GenState} {d : Drawn} {t : Nat} {os : OsState} {a C : Addr}
theorem exc_ty {M : Model} (hx : ExcAt a C h) : PySem.W.Looks M h (typeOf (.ref a)) (.ref C) := by
  obtain ⟨o, h1, h2⟩ := hx
  exact h2 ▸ (PySem.W.Looks.ld h1).andThen .now
theorem exc_get {R : Result → Shared → Prop} (Z : ExcK K C) (X : K.In h) (hx : ExcAt a C h) (hq : R (.ok (.ret (.ref C))) ⟨h, g, d, t, os⟩) :
    codeAny (model prog w) A (.call (.builtin "getset_descriptor.__get__") ⟨[.builtin "object.__class__", .ref a, .ref C], []⟩) R ⟨h, g, d, t, os⟩ := by
  have L0 := exc_ty (M := model prog w) hx
  have L1 := PySem.W.looks_mroIn (M := model prog w) X Z.ob
  refine codeAny_call_builtin PySem.W.KF.slot_gs.plain PySem.W.KF.entry_gs (PySem.W.KF.slot_gs.check _ _ _ _ _ _ _ _ PySem.W.KF.type_class (PySem.W.KF.args_gs _ _ _) ?_)
  unfold Builtin.«getset_descriptor.__get__» Builtin.Getset_descriptor.descrGet
  rw [PySem.W.dga_obj]
  refine wpAny_bind (wpAny_pure ?_)
  unfold Builtin.Getset_descriptor.descrGetter Builtin.Getset_descriptor.descrCheckInstance Builtin.Getset_descriptor.descrNameAndClass isInstance
  simp only [PySem.W.KF.owner_class]
  repeat lk
  refine ⟨Code.quiet_builtin _ (by decide +kernel), codeAny_builtin PySem.W.KF.entry_class ?_⟩
  unfold Builtin.«object.__class__» shownTypeOf
  repeat lk
  exact hq
theorem exc_entry {tk : Tok} {Q : Fin → Shared → Prop} (Z : ExcK K C) (X : K.In h) (hx : ExcAt a C h) (hq : Q (.done (.ret (.ref C))) ⟨h, g, d, t, os⟩) :
    wpAny (model prog w) A (Builtin.«object.__getattribute__» ⟨[.ref a, .str "__class__" tk], []⟩) Q E ⟨h, g, d, t, os⟩ := by
  have L0 := exc_ty (M := model prog w) hx
  have L1 := PySem.W.looks_findIn (M := model prog w) X Z.cl
  have hT5 : (⟨h, g, d, t, os⟩ : Shared).TypeIs (.builtin "object.__class__") "getset_descriptor" := F.typeOf_object_class
  have f5 := F.typeOf_object_class
  have f6 := F.slot_gs_get.lookup
  have f7 := F.slot_gs_set.lookup
  repeat (any_goals (first | assumption | with_reducible refine L0.at ?_ | with_reducible refine L1.at ?_ | wp_step))
  refine exc_get Z X hx ?_
  repeat (any_goals (first | assumption | wp_step))
theorem exc_check {M : Model} {nameV : Value} {Q : Unit → Shared → Prop} (Z : ExcK K C) (X : K.In h) (hx : ExcAt a C h) (hq : Q () ⟨h, g, d, t, os⟩) :
    wpAny M A (checkBuiltinCall "BaseException.__getattribute__" ⟨[.ref a, nameV], []⟩) Q E ⟨h, g, d, t, os⟩ := by
  have hk : builtinKind "BaseException.__getattribute__" = some .slot := by decide +kernel
  have hsplit : splitId "BaseException.__getattribute__" = some ("BaseException", "__getattribute__") := by decide +kernel
  have L0 := exc_ty (M := M) hx
  have L1 := PySem.W.looks_mroIn (M := M) X Z.be
  have ha := F.args_bexc_ga (.ref a) nameV
  simp only [checkBuiltinCall, hk, hsplit]
  refine wpAny_bind ?_
  · unfold isInstance
    repeat (first | with_reducible refine L0.at ?_ | with_reducible refine L1.at ?_ | wp_step)
    exact hq
theorem exc_call {tk : Tok} {R : Result → Shared → Prop} (Z : ExcK K C) (X : K.In h) (hx : ExcAt a C h) (hq : R (.ok (.ret (.ref C))) ⟨h, g, d, t, os⟩) :
    codeAny (model prog w) A (.call (.builtin "BaseException.__getattribute__") ⟨[.ref a, .str "__class__" tk], []⟩) R ⟨h, g, d, t, os⟩ :=
  codeAny_call_builtin (by decide +kernel) F.entry_bexc_ga (exc_check Z X hx (exc_entry Z X hx hq))
theorem exc_by {tk : Tok} {Q : Value → Shared → Prop} (Z : ExcK K C) (X : K.In h) (hx : ExcAt a C h) (hq : Q (.ref C) ⟨h, g, d, t, os⟩) :
    wpAny (model prog w) A (getAttrBy (.ref a) (.str "__class__" tk) false) Q E ⟨h, g, d, t, os⟩ := by
  have L0 := exc_ty (M := model prog w) hx
  have L1 := PySem.W.looks_findIn (M := model prog w) X Z.ga
  have L2 := PySem.W.looks_findIn (M := model prog w) X Z.gt
  have f3 := F.attr_ValueError.ga.bind (.ref a)
  have hx2 : (Value.builtin "BaseException.__getattribute__" == Value.builtin "object.__getattribute__") = false := by decide +kernel
  have hx1 : (onTheHeap (Value.ref C) && Value.builtin "BaseException.__getattribute__" == Value.builtin "object.__getattribute__") = false := by rw [hx2]; rfl
  repeat (any_goals (first | assumption | with_reducible refine L0.at ?_ | with_reducible refine L1.at ?_ | with_reducible refine L2.at ?_ | wp_step))
  refine exc_call Z X hx ?_
  repeat (any_goals (first | assumption | wp_step))
theorem exc_attr {Q : Option Value → Shared → Prop} (Z : ExcK K C) (X : K.In h) (hx : ExcAt a C h) (hq : Q (some (.ref C)) ⟨h, g, d, t + 1, os⟩) : wpAny (model prog w) A (getAttr? (.ref a) "__class__") Q E ⟨h, g, d, t, os⟩ := by
  unfold getAttr? getAttrBy?
  repeat (any_goals (first | assumption | with_reducible apply exc_by Z X hx | wp_step))
theorem kitx_exc (Z : ExcK K C) : PySem.W.KitX K (.ref a) (.ref C) (ExcAt a C) where
  ty := fun _ _ _ p => exc_ty p
  it := fun _ _ X _ => by
    have hb := Z.be
    unfold PySem.W.mroIn at hb
    cases hc : PySem.W.clsIn K C with
    | none => rw [hc] at hb; cases hb
    | some cd =>
      unfold PySem.W.clsIn at hc
      split at hc
      · rename_i c' d' cd' sl' ho
        intro A' Q' E' s' k q
        unfold isType loadHead
        exact wpAny_bind (wpAny_loadPart (k _ _ (X _ _ ho)) (wpAny_pure q))
      · cases hc
  ne := fun h tp dd its n sl X htp => by
    have hb := Z.be
    unfold PySem.W.mroIn at hb
    cases hc : PySem.W.clsIn K C with
    | none => rw [hc] at hb; cases hb
    | some cd =>
      refine Bool.eq_false_iff.mpr fun q => ?_
      have e : C = tp := Value.ref.inj (beq_iff_eq.mp q)
      subst e
      unfold PySem.W.clsIn at hc
      split at hc
      · rename_i c' d' cd' sl' ho
        have z := (X _ _ ho).symm.trans htp
        cases z
      · cases hc
  ca := fun {_ _ _ _ _ s} X p k => by obtain ⟨h, g, d, t, os⟩ := s; exact exc_attr Z X p k
end
section
variable {X : Cx}
/-- isinstance(e, C), e an exception that was caught -/
def rIsExc (K : PySem.W.Frag) : List V → Hp → VK → Prop := fun xs H Q => ∃ e c C b, xs = [.ref e, c] ∧ H e = some (excO e (.ref C)) ∧ ExcK K C ∧ ((∃ D, c = .ref D ∧ PySem.W.kitOne K (.ref C) (.ref D) = some b) ∨ ∃ n, c = .ty n ∧ PySem.W.kitOne K (.ref C) (.type n) = some b) ∧ Q (.bl b) H
theorem call_isexc : CallR X (.builtin "isinstance") (rIsExc X.K) := by
  intro pins s σ H xs us Q I r h
  obtain ⟨e, c, C, b, rfl, he, Z, hk, q⟩ := h
  obtain ⟨u, u', rfl, r1, r2⟩ := vals2 r
  cases r1
  have hx : ExcAt e C s.heap := by
    obtain ⟨z, _⟩ := (show ObjOk X.prog X.w H s.heap e (excO e (.ref C)) from I.hok e _ he)
    exact z
  rcases hk with ⟨D, rfl, hk⟩ | ⟨n, rfl, hk⟩
  · cases r2
    exact PySem.W.kia_one (kitx_exc Z) I.kIn hx hk (fun z => nomatch z) fun tk => ⟨.bl b, H, I.tok tk, rfl, q⟩
  · cases r2
    exact PySem.W.kia_one (kitx_exc Z) I.kIn hx hk (fun z => nomatch z) fun tk => ⟨.bl b, H, I.tok tk, rfl, q⟩
end
end L2

set_option Elab.async false
set_option linter.all false
set_option maxRecDepth 100000
set_option maxHeartbeats 4000000
namespace KS
open PySem L2
/-! What is promised of wrong wishes. -/
/-- a def that may raise, that others call by its name -/
def FnX (P : Program) (w : World) (K : PySem.W.Frag) (mg : Str → Option Value) (base : Heap) (name : Str) (ps : List Str) (k : Nat) (sp : Sp) : Prop :=
  ∃ (f : Addr) (fd : FuncData), FnOk P w K mg base (CX1 P w) k f fd ps sp ∧ mg name = some (.ref f) ∧ PySem.W.keepIn K (.ref f) = true ∧ Binds K fd ps []
theorem FnX.mono {P : Program} {w : World} {K : PySem.W.Frag} {mg : Str → Option Value} {base : Heap} {name : Str} {ps : List Str} {j k : Nat} {sp : Sp} (h : FnX P w K mg base name ps j sp) (hk : j ≤ k) : FnX P w K mg base name ps k sp := by
  obtain ⟨f, fd, G, m, kp, b⟩ := h
  exact ⟨f, fd, G.mono hk, m, kp, b⟩
abbrev orSp (sp sp' : Sp) : Sp := fun vs H Q E => sp vs H Q E ∨ sp' vs H Q E
/-- the classes of the refusals -/
structure Refs (K : PySem.W.Frag) (mg : Str → Option Value) (C0 C1 C2 : Addr) : Prop where
  m0 : mg "SwapError" = some (.ref C0)
  m1 : mg "NoHouse" = some (.ref C1)
  m2 : mg "Twice" = some (.ref C2)
  v1 : OwnVE K C1
  v2 : OwnVE K C2
  x1 : ExcK K C1
  x2 : ExcK K C2
  e10 : PySem.W.exmOne K (.ref C1) (.ref C0) = some true
  e20 : PySem.W.exmOne K (.ref C2) (.ref C0) = some true
  e11 : PySem.W.exmOne K (.ref C1) (.ref C1) = some true
  e21 : PySem.W.exmOne K (.ref C2) (.ref C1) = some false
  e22 : PySem.W.exmOne K (.ref C2) (.ref C2) = some true
  k11 : PySem.W.kitOne K (.ref C1) (.ref C1) = some true
  k12 : PySem.W.kitOne K (.ref C1) (.ref C2) = some false
  k21 : PySem.W.kitOne K (.ref C2) (.ref C1) = some false
  k22 : PySem.W.kitOne K (.ref C2) (.ref C2) = some true
  kv1 : PySem.W.kitOne K (.ref C1) (.type "ValueError") = some true
  kv2 : PySem.W.kitOne K (.ref C2) (.type "ValueError") = some true
  ve : mg "ValueError" = none
/-- some list names a number that is no house -/
def NoH (rs : List (List Int)) : Prop := ∃ r ∈ rs, ∃ x ∈ r, x < 0 ∨ (rs.length : Int) ≤ x
/-- some list names one twice -/
def Twi (rs : List (List Int)) : Prop := ∃ r ∈ rs, ¬ r.Nodup
theorem WF.of_not {rs : List (List Int)} (h1 : ¬ NoH rs) (h2 : ¬ Twi rs) : WF rs.length rs :=
  ⟨rfl, fun r hr => Classical.byContradiction fun z => h2 ⟨r, hr, z⟩, fun r hr x hx => by
    constructor
    · exact Int.not_lt.mp fun z => h1 ⟨r, hr, x, hx, .inl z⟩
    · exact Int.not_le.mp fun z => h1 ⟨r, hr, x, hx, .inr z⟩⟩
/-- how wrong wishes are refused -/
def Wrong (C1 C2 : Addr) (rs : List (List Int)) (C : Addr) : Prop := (NoH rs ∧ C = C1) ∨ (¬ NoH rs ∧ Twi rs ∧ C = C2)
def spWrong (C1 C2 : Addr) (n : Nat) : Sp := fun vs H Q E => ∃ (a : Addr) (as : List Addr) (rs : List (List Int)) (C : Addr) (rest : List V), vs = .ref a :: rest ∧ rest.length = n ∧ Rows H a as rs ∧ rs.length ≤ 60 ∧ (∀ r ∈ rs, r.length ≤ 1000) ∧ Wrong C1 C2 rs C ∧ ∀ (H' : Hp), Same H H' → E (.ref C) none H'
/-- what is said of wishes -/
def Due (rs : List (List Int)) (x : Str) : Prop := (NoH rs ∧ x = "no house") ∨ (¬ NoH rs ∧ Twi rs ∧ x = "twice") ∨ (WF rs.length rs ∧ x = "done")
def spSaid : Sp := fun vs H Q _ => ∃ (j : Nat) (a : Addr) (as : List Addr) (rs : List (List Int)) (x : Str), vs = [.int (j : Int), .ref a] ∧ Rows H a as rs ∧ 0 < rs.length ∧ rs.length ≤ 60 ∧ (∀ r ∈ rs, r.length ≤ 1000) ∧ Due rs x ∧ ∀ (H' : Hp), Same H H' → Q (.str x) H'
def spBaseTells : Sp := fun vs H Q _ => ∃ (j : Int) (a : Addr) (as : List Addr) (rs : List (List Int)) (x : Str), vs = [.ref a, .int j] ∧ Rows H a as rs ∧ 0 < rs.length ∧ rs.length ≤ 60 ∧ (∀ r ∈ rs, r.length ≤ 1000) ∧ Due rs x ∧ ∀ (H' : Hp), Same H H' → Q (.bl (!decide (V.str x = V.str "done"))) H'
def spAny : Sp := fun vs H Q _ => ∃ (n : Int), vs = [.int n] ∧ ∀ (m : Int) (H' : Hp), Same H H' → Q (.int m) H'
theorem one_small {v : V} : [v].length ≤ 1000 := by rw [List.length_singleton]; decide
end KS

set_option Elab.async false
set_option linter.all false
set_option maxRecDepth 100000
set_option maxHeartbeats 4000000
namespace K02
open PySem L2 KS
def top (i : Nat) : Stmt := PySem.Challenge.pw_keyswap_k02_refused.main.body.getD i (.Pass ⟨0, 0, 0, 0⟩)
abbrev sPRefuseWrong : Stmt := top 5
abbrev sPHousesFor : Stmt := top 6
abbrev sPRather : Stmt := top 7
abbrev sPRounds : Stmt := top 9
abbrev sPDealt : Stmt := top 10
abbrev sPRingsOf : Stmt := top 11
abbrev sPFromLeast : Stmt := top 12
abbrev sPOrdersLeft : Stmt := top 13
abbrev sPGladder : Stmt := top 15
abbrev sPUndoneBy : Stmt := top 16
abbrev sWhole : Stmt := top 18
abbrev sAt : Stmt := top 19
abbrev sWished : Stmt := top 20
abbrev sCopies : Stmt := top 21
abbrev sKept : Stmt := top 22
abbrev sSaid : Stmt := top 23
abbrev sIsDealing : Stmt := top 24
abbrev sBaseTells : Stmt := top 25
abbrev sRoom : Stmt := top 26
abbrev sAny : Stmt := top 27
abbrev sDealingBy : Stmt := top 28
abbrev sLookedTo : Stmt := top 29
abbrev sSpot : Stmt := top 30
abbrev sLaw : Stmt := top 31
end K02

set_option Elab.async false
set_option linter.all false
set_option maxRecDepth 100000
set_option maxHeartbeats 4000000
namespace K02
open PySem L2 KS
section
variable {P : Program} {w : World} {K : PySem.W.Frag} {mg : Str → Option Value} {base : Heap} {f : Addr} {fd : FuncData}
abbrev nPRefuseWrong : List Str := ["wishes", "holder", "told", "house"]
theorem scPRefuseWrong : FnScope nPRefuseWrong ["wishes"] (defScope sPRefuseWrong) := ⟨rfl, rfl, rfl, by decide +kernel, rfl, by decide +kernel, by decide +kernel⟩
theorem ok_prefusewrong (F : Fun K "refuse_wrong" "refuse_wrong" sPRefuseWrong f fd) (T : Own K mg) : FnOk P w K mg base CX0 1 f fd ["wishes"] spRefuse := by
  refine F.ok scPRefuseWrong (fun vs H Q E h => ?_) (fun cdv A outer s H vs Q E hr h => ?_)
  · obtain ⟨a, as, rs, rfl, _⟩ := h
    rfl
  · obtain ⟨a, as, rs, rfl, R, wf, hn, q⟩ := h
    have nd := scPRefuseWrong.nd
    refine ⟨_, (pss_cons (ps_for PassesOwn.never rfl (pi_enum (by rfl) T.enumerate (pa_cons (pv 0) pa_nil)) (pg_tup rfl (pgs_cons (pg_name (i := 1) nd rfl (Or.inl rfl)) (pgs_cons (pg_name (i := 2) nd rfl (Or.inl rfl)) pgs_nil)))
 (pss_one (ps_for PassesOwn.never rfl (pi_list (pv 2)) (pg_name (i := 3) nd rfl (Or.inl rfl))
 (pss_one (ps_if (pw_or (pt_cmpR op_lt (pv 3) pe_int (nomark _)) (pw_or1 (pt_cmpR op_ge (pv 3) (pe_callB call_len_seq (by rfl) T.len PySem.boot_len (pa_cons (pv 0) pa_nil)) (nomark _)))).pt
 (pss_one ps_never) pss_nil)))))
 (pss_one (ps_for PassesOwn.never rfl (pi_enum (by rfl) T.enumerate (pa_cons (pv 0) pa_nil)) (pg_tup rfl (pgs_cons (pg_name (i := 1) nd rfl (Or.inl rfl)) (pgs_cons (pg_name (i := 2) nd rfl (Or.inl rfl)) pgs_nil)))
 (pss_one (ps_if (pt_cmpR op_lt (pe_callB call_lenS (by rfl) T.len PySem.boot_len (pa_cons (pe_callTy (call_setR rfl) (by rfl) T.set PyProof.Rows.boot_set (pa_cons (pv 2) pa_nil)) pa_nil)) (pe_callB call_len_seq (by rfl) T.len PySem.boot_len (pa_cons (pv 2) pa_nil)) (nomark _))
 (pss_one ps_never) pss_nil))))), ?_⟩
    refine ⟨_, rfl, a, rfl, ⟨_, SqL.of R.top⟩, for_enum (K := K) (a := a) (xs := refs as) (fun i σ H2 => ∃ (o1 o2 o3 : Option V), σ = [some (.ref a), o1, o2, o3] ∧ Same H H2)
      ⟨none, none, none, rfl, Same.refl H⟩ (fun i σ H2 _ ⟨_, _, _, _, s2⟩ => SqL.of (s2 _ _ R.top)) ?_ ?_⟩
    · rintro i x Tp σ H2 hx ⟨o1, o2, o3, rfl, s2⟩ hT
      obtain ⟨b, rfl, hb⟩ := refs_at hx
      obtain ⟨r, hr1, hb1⟩ := R.row_of hb
      have hrm : r ∈ rs := List.mem_of_getElem? hr1
      have s3 : Same H (upd H2 Tp (.tup [.int (i : Int), .ref b])) := Same.upd s2 (s2.free hT)
      refine ⟨Tp, _, rfl, SqT.of upd_same, rfl, _, _, rfl, _, _, rfl, rfl, ?_⟩
      refine ⟨_, rfl, b, rfl, ⟨_, SqL.of (s3 _ _ hb1)⟩, for_list (K := K) (a := b) (xs := nums r) (fun j σ H3 => ∃ (o3 : Option V), σ = [some (.ref a), some (.int (i : Int)), some (.ref b), o3] ∧ Same H H3)
        ⟨_, rfl, s3⟩ (fun j σ H3 _ ⟨_, _, s4⟩ => SqL.of (s4 _ _ hb1)) ?_ ?_⟩
      · rintro j y σ H3 hy ⟨o3', rfl, s4⟩
        obtain ⟨n, rfl, hn1⟩ := ints_at hy
        have rg := wf.rng r hrm n (List.mem_of_getElem? hn1)
        refine ⟨_, rfl, _, _, rfl, rfl, _, rfl, ?_⟩
        rw [decide_eq_false (by omega)]
        refine iteF ⟨_, rfl, _, rfl, _, _, rfl, .inl (SqL.of (s4 _ _ R.top)), _, _, rfl, rfl, _, rfl, ?_⟩
        rw [decide_eq_false (by rw [List.length_map, R.len]; omega)]
        exact iteF ⟨_, rfl, s4⟩
      · rintro σ H3 ⟨o3', rfl, s4⟩
        exact ⟨_, _, _, rfl, s4⟩
    rintro σ H1 ⟨o1, o2, o3, rfl, s1⟩
    refine ⟨_, rfl, a, rfl, ⟨_, SqL.of (s1 _ _ R.top)⟩, for_enum (K := K) (a := a) (xs := refs as) (fun i σ H2 => ∃ (o1 o2 o3 : Option V), σ = [some (.ref a), o1, o2, o3] ∧ Same H H2)
      ⟨_, _, _, rfl, s1⟩ (fun i σ H2 _ ⟨_, _, _, _, s2⟩ => SqL.of (s2 _ _ R.top)) ?_ ?_⟩
    · rintro i x Tp σ H2 hx ⟨o1, o2, o3, rfl, s2⟩ hT
      obtain ⟨b, rfl, hb⟩ := refs_at hx
      obtain ⟨r, hr1, hb1⟩ := R.row_of hb
      have hrm : r ∈ rs := List.mem_of_getElem? hr1
      have hrl := wf.short r hrm
      have s3 : Same H (upd H2 Tp (.tup [.int (i : Int), .ref b])) := Same.upd s2 (s2.free hT)
      refine ⟨Tp, _, rfl, SqT.of upd_same, rfl, _, _, rfl, _, _, rfl, rfl, ?_⟩
      refine ⟨_, rfl, b, r, rfl, SqL.of (s3 _ _ hb1), by omega, fun l S n hl hn1 hn2 => ⟨l, S, n, rfl, upd_same, ?_⟩⟩
      have s4 := Same.upd (o := .set S n) s3 (s3.free hl)
      refine ⟨_, rfl, _, _, rfl, .inl (SqL.of (s4 _ _ hb1)), _, _, rfl, rfl, _, rfl, ?_⟩
      have : n = r.length := hn2.mpr (wf.nd r hrm)
      rw [decide_eq_false (by rw [len_ints]; omega)]
      exact iteF ⟨_, _, _, rfl, s4⟩
    · rintro σ H2 ⟨o1, o2, o3, rfl, s2⟩
      exact q H2 s2
end
end K02

set_option Elab.async false
set_option linter.all false
set_option maxRecDepth 100000
set_option maxHeartbeats 4000000
namespace K02
open PySem L2 KS
section
variable {P : Program} {w : World} {K : PySem.W.Frag} {mg : Str → Option Value} {base : Heap} {f : Addr} {fd : FuncData}
theorem scPHousesFor : FnScope ["wishes", "holder", "order", "house"] ["wishes", "holder"] (defScope sPHousesFor) := ⟨rfl, rfl, rfl, by decide +kernel, rfl, by decide +kernel, by decide +kernel⟩
theorem ok_phousesfor (F : Fun K "houses_for" "houses_for" sPHousesFor f fd) (T : Own K mg) : FnOk P w K mg base CX0 1 f fd ["wishes", "holder"] spHouses := by
  refine F.ok scPHousesFor (fun vs H Q E h => ?_) (fun cdv A outer s H vs Q E hr h => ?_)
  · obtain ⟨a, as, rs, h, r, rfl, _⟩ := h
    rfl
  · obtain ⟨a, as, rs, h, r, rfl, R, hrow, hlen, q⟩ := h
    have nd := scPHousesFor.nd
    refine ⟨_, pss_cons (ps_set (i := 2) nd rfl (Or.inl rfl) (pe_lst pa_nil))
      (pss_cons (ps_for PassesOwn.never rfl (pi_list (pe_ix ix_list (pv 0) (pv 1) (fun _ _ => rfl))) (pg_name (i := 3) nd rfl (Or.inl rfl))
        (pss_cons (ps_if (pt_cmpR op_eq (pv 3) (pv 1) (nomark _)) (pss_one ps_break) pss_nil)
        (pss_one (ps_expr (pe_bm PySem.F.plainAttrs_list PySem.F.slot_list_append PySem.F.type_list_append mt_append (pv 2) (pa_cons (pv 3) pa_nil))))))
      (pss_cons (ps_expr (pe_bm PySem.F.plainAttrs_list PySem.F.slot_list_append PySem.F.type_list_append mt_append (pv 2) (pa_cons (pv 1) pa_nil)))
      (pss_one (ps_ret (pv 2))))), ?_⟩
    obtain ⟨b, hb1, hb2, _⟩ := R.at hrow
    refine ⟨Nat.zero_le _, fun o ho => ?_⟩
    have s0 : Same H (upd H o (.lst [])) := Same.upd (Same.refl H) ho
    refine ⟨_, rfl, _, rfl, _, _, _, _, rfl, rfl, SqL.of (s0 _ _ R.top), atI_refs hb1, b, rfl, ⟨_, SqL.of (s0 _ _ hb2)⟩,
      for_list (K := K) (a := b) (xs := nums r) (fun i σ H2 => ∃ (ov : Option V), σ = [some (.ref a), some (.int (h : Int)), some (.ref o), ov] ∧ Same H H2 ∧ H2 o = some (.lst (nums (r.take i))) ∧ (h : Int) ∉ r.take i)
        ⟨none, rfl, s0, upd_same, by simp⟩ (fun i σ H2 _ ⟨_, _, s2, _⟩ => SqL.of (s2 _ _ hb2)) ?_ ?_⟩
    · rintro i y σ H2 hy ⟨ov, rfl, s2, h2, hn⟩
      obtain ⟨n, rfl, hn1⟩ := ints_at hy
      have hi : i < r.length := (List.getElem?_eq_some_iff.mp hn1).1
      refine ⟨_, rfl, _, rfl, rfl, _, rfl, ?_⟩
      refine ite2 (fun e => ?_) (fun e => ?_)
      · have e : V.int n = V.int (h : Int) := of_decide_eq_true e
        have e : n = (h : Int) := by injection e
        subst e
        have ei : r.idxOf (h : Int) = i := KM.idxOf_eq hn hn1
        refine ⟨_, rfl, .inl ⟨rfl, _, SqL.of h2⟩, _, rfl, _, _, _, rfl, rfl, h2, ?_, _, rfl, q o _ (Same.upd s2 ho) ?_ ho⟩
        · rw [len_ints, List.length_take]
          exact small1000 (by omega)
        · rw [upd_same]
          unfold KM.order
          rw [ei]
          simp [nums]
      · have e : ¬ n = (h : Int) := fun z => e (decide_eq_true (congrArg V.int z))
        refine ⟨_, rfl, .inl ⟨rfl, _, SqL.of h2⟩, _, rfl, _, _, _, rfl, rfl, h2, ?_, _, rfl, Same.upd s2 ho, ?_, ?_⟩
        · rw [len_ints, List.length_take]
          exact small1000 (by omega)
        · rw [upd_same, take_snoc hn1]
          simp [nums]
        · rw [take_snoc hn1]
          intro m
          rcases List.mem_append.mp m with z | z
          · exact hn z
          · exact e (List.mem_singleton.mp z).symm
    · rintro σ H2 ⟨ov, rfl, s2, h2, hn⟩
      rw [len_ints, List.take_length] at h2 hn
      refine ⟨_, rfl, .inl ⟨rfl, _, SqL.of h2⟩, _, rfl, _, _, _, rfl, rfl, h2, ?_, _, rfl, q o _ (Same.upd s2 ho) ?_ ho⟩
      · rw [len_ints]
        exact small1000 (by omega)
      · rw [upd_same]
        unfold KM.order
        rw [KM.idxOf_none hn, List.take_length]
        simp [nums]
end
end K02

set_option Elab.async false
set_option linter.all false
set_option maxRecDepth 100000
set_option maxHeartbeats 4000000
namespace K02
open PySem L2 KS
section
variable {P : Program} {w : World} {K : PySem.W.Frag} {mg : Str → Option Value} {base : Heap} {f : Addr} {fd : FuncData}
abbrev nPFromLeast : List Str := ["ring", "first"]
theorem scPFromLeast : FnScope nPFromLeast ["ring"] (defScope sPFromLeast) := ⟨rfl, rfl, rfl, by decide +kernel, rfl, by decide +kernel, by decide +kernel⟩
theorem ok_pfromleast (F : Fun K "from_least" "from_least" sPFromLeast f fd) (T : Own K mg) : FnOk P w K mg base CX0 1 f fd ["ring"] (spLeast K) := by
  refine F.ok scPFromLeast (fun vs H Q E h => ?_) (fun cdv A outer s H vs Q E hr h => ?_)
  · obtain ⟨a, l, rfl, _⟩ := h
    rfl
  · obtain ⟨a, l, rfl, hS, hne, hl, q⟩ := h
    have nd := scPFromLeast.nd
    refine ⟨_, (pss_cons (ps_set (i := 1) nd rfl (Or.inl rfl) (pe_bm PySem.F.plainAttrs_list PySem.F.slot_list_index PySem.F.type_list_index mt_index (pv 0) (pa_cons (pe_callB (call_minL rfl) (by rfl) T.min PyProof.Rows.boot_min (pa_cons (pv 0) pa_nil)) pa_nil)))
 (pss_one (ps_ret (pe_op op_cat (pe_slice sl_list (pv 0) (po_some (pv 1)) po_none) (pe_slice sl_list (pv 0) po_none (po_some (pv 1))))))), ?_⟩
    have hpos : 0 < l.length := List.length_pos_iff.mpr hne
    refine ⟨_, rfl, .inl ⟨rfl, _, hS⟩, _, rfl, a, natL l, rfl, hS, by rw [List.length_map]; exact hpos, fun M hM hle => ⟨a, natL l, M, rfl, rfl, hS, hM, ?_⟩⟩
    obtain ⟨m, hm, rfl⟩ := List.mem_map.mp hM
    rw [natL_idxOf]
    have hi : l.idxOf m < l.length := List.idxOf_lt_length_of_mem hm
    have least : ∀ x ∈ l, l.getD (l.idxOf m) 0 ≤ x := fun x hx => by
      have := hle (x : Int) (natL_mem.mpr hx)
      have e : l.getD (l.idxOf m) 0 = m := by
        rw [KM.getD_get hi]
        exact List.getElem_idxOf hi
      rw [e]
      omega
    generalize l.idxOf m = i at hi least
    refine ⟨_, rfl, _, rfl, _, rfl, a, _, rfl, hS, fun p1 hp1 => ?_⟩
    have e1 : cutV (nats l) (some (i : Int)) none = nats (l.drop i) := by rw [cut_from (by rw [len_nats]; omega), nats_drop]
    have e2 : cutV (nats l) none (some (i : Int)) = nats (l.take i) := by rw [cut_to (by rw [len_nats]; omega), nats_take]
    rw [e1]
    have s1 : Same H (upd H p1 (.lst (nats (l.drop i)))) := Same.upd (Same.refl H) hp1
    have h1 : upd H p1 (.lst (nats (l.drop i))) p1 = some (.lst (nats (l.drop i))) := upd_same
    generalize upd H p1 (.lst (nats (l.drop i))) = H1 at s1 h1
    refine ⟨_, rfl, _, rfl, _, rfl, a, _, rfl, s1.seq hS, fun p2 hp2 => ?_⟩
    rw [e2]
    have s2 : Same H1 (upd H1 p2 (.lst (nats (l.take i)))) := Same.upd (Same.refl H1) hp2
    have h2 : upd H1 p2 (.lst (nats (l.take i))) p2 = some (.lst (nats (l.take i))) := upd_same
    generalize upd H1 p2 (.lst (nats (l.take i))) = H2 at s2 h2
    refine ⟨p1, p2, _, _, rfl, rfl, s2 _ _ h1, h2, ?_, fun p3 hp3 => ?_⟩
    · rw [len_nats, len_nats, List.length_drop, List.length_take]
      exact small_line (by omega)
    · have s3 := s1.trans s2
      exact q p3 i _ (Same.upd s3 (s3.free hp3)) (by rw [upd_same, nats_app]) (s3.free hp3) hi least
end
end K02

set_option Elab.async false
set_option linter.all false
set_option maxRecDepth 100000
set_option maxHeartbeats 4000000
namespace K02
open PySem L2 KS
section
variable {P : Program} {w : World} {K : PySem.W.Frag} {mg : Str → Option Value} {base : Heap} {f : Addr} {fd : FuncData}
abbrev nPRingsOf : List Str := ["orders", "rings", "walked", "start", "path", "holder"]
theorem scPRingsOf : FnScope nPRingsOf ["orders"] (defScope sPRingsOf) := ⟨rfl, rfl, rfl, by decide +kernel, rfl, by decide +kernel, by decide +kernel⟩
theorem ok_pringsof (F : Fun K "rings_of" "rings_of" sPRingsOf f fd) (T : Own K mg) (G : Fn P w K mg base "from_least" ["ring"] 1 (spLeast K)) : FnOk P w K mg base CX0 2 f fd ["orders"] spRingsOf := by
  obtain ⟨f1, fd1, G1, m1, k1, b1⟩ := G
  refine F.ok scPRingsOf (fun vs H Q E h => ?_) (fun cdv A outer s H vs Q E hr h => ?_)
  · obtain ⟨d, ts, oa, L, fl, rfl, _⟩ := h
    rfl
  · obtain ⟨d, ts, oa, L, fl, rfl, O, tnd, tl60, fin, hdL, q⟩ := h
    have nd := scPRingsOf.nd
    have hu := hu_of hr
    have hu16 := hu16_of hr
    refine ⟨_, (pss_cons (ps_set (i := 1) nd rfl (Or.inl rfl) (pe_lst pa_nil))
 (pss_cons (ps_set (i := 2) nd rfl (Or.inl rfl) pe_dnewK)
 (pss_cons (ps_for PassesOwn.never rfl (pi_dict (pv 0)) (pg_name (i := 3) nd rfl (Or.inl rfl))
 (pss_cons (ps_set (i := 4) nd rfl (Or.inl rfl) (pe_lst pa_nil))
 (pss_cons (ps_set (i := 5) nd rfl (Or.inl rfl) (pv 3))
 (pss_cons (ps_while PassesOwn.never (pt_cmp (pc_dnotin hu (pv 5) (pv 2)))
 (pss_cons (ps_dput hu (pv 2) (pv 5) pe_bl rfl)
 (pss_cons (ps_expr (pe_bm PySem.F.plainAttrs_list PySem.F.slot_list_append PySem.F.type_list_append mt_append (pv 4) (pa_cons (pv 5) pa_nil)))
 (pss_one (ps_set (i := 5) nd rfl (Or.inl rfl) (pe_ix ix_list (pe_dget hu (pv 0) (pv 5) (fun _ _ => rfl)) pe_int (fun _ _ => rfl)))))))
 (pss_one (ps_if (pt_cmpR op_in_seq (pv 5) (pv 4) (by with_unfolding_all rfl))
 (pss_one (ps_expr (pe_bm PySem.F.plainAttrs_list PySem.F.slot_list_append PySem.F.type_list_append mt_append (pv 1) (pa_cons (pe_call G1 hr (by rfl) m1 k1 b1 .nil pass0 (pa_cons (pe_slice sl_list (pv 4) (po_some (pe_bm PySem.F.plainAttrs_list PySem.F.slot_list_index PySem.F.type_list_index mt_index (pv 4) (pa_cons (pv 5) pa_nil))) po_none) pa_nil)) pa_nil)))) pss_nil))))))
 (pss_one (ps_ret (pe_callB (call_sortLL hu16) (by rfl) T.sorted PyProof.Rows.boot_sorted (pa_cons (pv 1) pa_nil))))))), ?_⟩
    -- rings = [], walked = {}
    refine ⟨Nat.zero_le _, fun rg hrg => ?_⟩
    have s1 : Same H (upd H rg (.lst [])) := Same.upd (Same.refl H) hrg
    have h1 : upd H rg (.lst []) rg = some (.lst []) := upd_same
    generalize upd H rg (.lst []) = H1 at s1 h1
    intro wk hwk
    have s2 : Same H1 (upd H1 wk (.dK [])) := Same.upd (Same.refl H1) hwk
    have h2 : upd H1 wk (.dK []) wk = some (.dK []) := upd_same
    have hwk0 : H wk = none := s1.free hwk
    generalize upd H1 wk (.dK []) = H2 at s2 h2
    have s02 : Same H H2 := s1.trans s2
    have topS : ∀ {H' : Hp}, Same H H' → Rd H' d (.dK (kvD (fun x => .ref (oa x)) ts)) := fun {H'} s => by
      rcases O.top with e | ⟨o, e⟩
      · exact .inl (s _ _ e)
      · exact .inr ⟨o, s _ _ e⟩
    have hdwk : wk ≠ d := Rd.none_ne O.top hwk0
    have hdrg : rg ≠ d := Rd.none_ne O.top hrg
    -- for start in orders
    refine ⟨_, rfl, d, _, rfl, topS s02, fun o H3 hd3 ho3 => ?_⟩
    have sB3 : SameB d H H3 := KS.Same.thenB s02 (SameB.of_walk ho3)
    have h3r : H3 rg = some (.lst []) := by rw [ho3 rg hdrg]; exact s2 _ _ h1
    have h3w : H3 wk = some (.dK []) := by rw [ho3 wk hdwk]; exact h2
    refine for_dict (fun i σ H4 => ∃ (W : List Nat) (g : List (List Nat)) (cs : List Addr) (o3 o4 o5 : Option V), σ = [some (.ref d), some (.ref rg), some (.ref wk), o3, o4, o5] ∧ SameB d H H4 ∧ H4 d = some (.frz o (.dK (kvD (fun x => .ref (oa x)) ts))) ∧
        Rows H4 rg cs (g.map natL) ∧ New H cs ∧ H4 wk = some (.dK (kvD (fun _ => .bl true) W)) ∧ KM.Part fl ts W g ∧ ∀ x ∈ ts.take i, x ∈ W)
      ⟨[], [], [], none, none, none, rfl, sB3, hd3, Rows.nil h3r, fun c hc => (by cases hc), h3w, KM.Part.start fl ts, by simp⟩ (fun i σ H4 _ ⟨_, _, _, _, _, _, _, _, e, _⟩ => e) ?_ ?_
    · rintro i kv σ H4 hkv ⟨W, g, cs, o3, o4, o5, rfl, sB4, hd4, R4, nw4, hw4, Pt, cov⟩
      obtain ⟨x, hx, ek⟩ := kvD_at hkv
      have hxt : x ∈ ts := List.mem_of_getElem? hx
      rw [ek]
      -- path = [], holder = start
      refine ⟨Nat.zero_le _, fun pa hpa => ⟨_, rfl, ?_⟩⟩
      have hpad : pa ≠ d := (ne_of_none hd4 hpa).symm
      have hpaw : pa ≠ wk := (ne_of_none hw4 hpa).symm
      obtain ⟨hpar, hpac⟩ := R4.notin hpa
      have hpa0 : H pa = none := sB4.free hd4 hpa
      have hwr : wk ≠ rg := ne_of hw4 R4.top (by intro z; cases z)
      have hwc : wk ∉ cs := fun m => by
        obtain ⟨j, hj, e⟩ := List.getElem_of_mem m
        obtain ⟨r, _, e2⟩ := R4.row_of (i := j) (b := wk) (by simp [hj, e])
        rw [hw4] at e2; cases e2
      -- while holder not in walked
      refine ⟨fun m σ H5 => ∃ (k : Nat), m = ts.length - (W.length + k) ∧ σ = [some (.ref d), some (.ref rg), some (.ref wk), some (.int (x : Int)), some (.ref pa), some (.int (KM.it fl k x : Nat))] ∧ SameB d H H5 ∧ H5 d = some (.frz o (.dK (kvD (fun x => .ref (oa x)) ts))) ∧
          Rows H5 rg cs (g.map natL) ∧ H5 wk = some (.dK (kvD (fun _ => .bl true) (W ++ KM.orbit fl x k))) ∧ H5 pa = some (.lst (nats (KM.orbit fl x k))) ∧ (KM.orbit fl x k).Nodup ∧ ∀ y ∈ KM.orbit fl x k, y ∉ W,
        ⟨_, 0, rfl, rfl, sB4.upd hpa0, by rw [upd_ne hpad.symm]; exact hd4, R4.upd hpar hpac, by rw [upd_ne hpaw.symm, hw4]; simp [KM.orbit], upd_same, List.nodup_nil, by simp [KM.orbit]⟩, ?_⟩
      rintro m σ H5 ⟨k, rfl, rfl, sB5, hd5, R5, hw5, hp5, ndo, apo⟩
      have hit : KM.it fl k x ∈ ts := KM.it_mem fin hxt k
      have hos : ∀ y ∈ KM.orbit fl x k, y ∈ ts := fun y hy => by
        obtain ⟨j, _, e⟩ := KM.mem_orbit.mp hy
        rw [← e]
        exact KM.it_mem fin hxt j
      refine ⟨_, rfl, _, rfl, wk, _, rfl, kvD_in (.inl hw5), _, rfl, ?_⟩
      refine ite2 (fun hin => ?_) (fun hin => ?_)
      · have hnot : KM.it fl k x ∉ W ++ KM.orbit fl x k := fun z => kvD_notin hin (natL_mem.mpr z)
        have hnW : KM.it fl k x ∉ W := fun z => hnot (List.mem_append_left _ z)
        have hnO : KM.it fl k x ∉ KM.orbit fl x k := fun z => hnot (List.mem_append_right _ z)
        have ndo' : (KM.orbit fl x (k + 1)).Nodup := by
          rw [KM.orbit_succ, List.nodup_append]
          exact ⟨ndo, by simp, fun y hy z hz e => by rw [List.mem_singleton.mp hz] at e; exact hnO (by rw [← e]; exact hy)⟩
        have apo' : ∀ y ∈ KM.orbit fl x (k + 1), y ∉ W := fun y hy => by
          rw [KM.orbit_succ] at hy
          rcases List.mem_append.mp hy with z | z
          · exact apo y z
          · rw [List.mem_singleton.mp z]; exact hnW
        have hlen : W.length + (k + 1) ≤ ts.length := by
          have := KM.len_le_of_subset (Pt.walk_nd ndo' apo') (l2 := ts) fun y hy => by
            rcases List.mem_append.mp hy with z | z
            · exact Pt.sub y z
            · obtain ⟨j, _, e⟩ := KM.mem_orbit.mp z
              rw [← e]
              exact KM.it_mem fin hxt j
          rw [List.length_append, KM.orbit_length] at this
          exact this
        refine ⟨fun σ' H' => ∃ m', m' < ts.length - (W.length + k) ∧ ∃ (k : Nat), m' = ts.length - (W.length + k) ∧ σ' = [some (.ref d), some (.ref rg), some (.ref wk), some (.int (x : Int)), some (.ref pa), some (.int (KM.it fl k x : Nat))] ∧ SameB d H H' ∧ H' d = some (.frz o (.dK (kvD (fun x => .ref (oa x)) ts))) ∧
          Rows H' rg cs (g.map natL) ∧ H' wk = some (.dK (kvD (fun _ => .bl true) (W ++ KM.orbit fl x k))) ∧ H' pa = some (.lst (nats (KM.orbit fl x k))) ∧ (KM.orbit fl x k).Nodup ∧ ∀ y ∈ KM.orbit fl x k, y ∉ W, fun _ _ h => h, ?_⟩
        -- walked[holder] = True
        refine ⟨_, rfl, _, rfl, wk, _, rfl, DPut.k (k := Sum.inl ((KM.it fl k x : Nat) : Int)) hw5 ?_, ?_⟩
        · rw [kvD_length, List.length_append, KM.orbit_length]
          exact small1000 (by omega)
        rw [kvD_put (v := fun _ => .bl true) hnot rfl, List.append_assoc, ← KM.orbit_succ]
        have sB6 := sB5.upd (o := .dK (kvD (fun _ => .bl true) (W ++ KM.orbit fl x (k + 1)))) hwk0
        have hd6 : upd H5 wk (.dK (kvD (fun _ => .bl true) (W ++ KM.orbit fl x (k + 1)))) d = some (.frz o (.dK (kvD (fun x => .ref (oa x)) ts))) := by rw [upd_ne hdwk.symm]; exact hd5
        have R6 := R5.upd (o := .dK (kvD (fun _ => .bl true) (W ++ KM.orbit fl x (k + 1)))) hwr hwc
        have hw6 : upd H5 wk (.dK (kvD (fun _ => .bl true) (W ++ KM.orbit fl x (k + 1)))) wk = some (.dK (kvD (fun _ => .bl true) (W ++ KM.orbit fl x (k + 1)))) := upd_same
        have hp6 : upd H5 wk (.dK (kvD (fun _ => .bl true) (W ++ KM.orbit fl x (k + 1)))) pa = some (.lst (nats (KM.orbit fl x k))) := by rw [upd_ne hpaw]; exact hp5
        generalize upd H5 wk (.dK (kvD (fun _ => .bl true) (W ++ KM.orbit fl x (k + 1)))) = H6 at sB6 hd6 R6 hw6 hp6
        -- path.append(holder)
        refine ⟨_, rfl, .inl ⟨rfl, _, SqL.of hp6⟩, _, rfl, pa, _, _, rfl, rfl, hp6, ?_, ?_⟩
        · rw [len_nats, KM.orbit_length]
          exact small1000 (by omega)
        rw [nats_snoc, ← KM.orbit_succ]
        have sB7 := sB6.upd (o := .lst (nats (KM.orbit fl x (k + 1)))) hpa0
        have hd7 : upd H6 pa (.lst (nats (KM.orbit fl x (k + 1)))) d = some (.frz o (.dK (kvD (fun x => .ref (oa x)) ts))) := by rw [upd_ne hpad.symm]; exact hd6
        have R7 := R6.upd (o := .lst (nats (KM.orbit fl x (k + 1)))) hpar hpac
        have hw7 : upd H6 pa (.lst (nats (KM.orbit fl x (k + 1)))) wk = some (.dK (kvD (fun _ => .bl true) (W ++ KM.orbit fl x (k + 1)))) := by rw [upd_ne hpaw.symm]; exact hw6
        have hp7 : upd H6 pa (.lst (nats (KM.orbit fl x (k + 1)))) pa = some (.lst (nats (KM.orbit fl x (k + 1)))) := upd_same
        generalize upd H6 pa (.lst (nats (KM.orbit fl x (k + 1)))) = H7 at sB7 hd7 R7 hw7 hp7
        -- holder = orders[holder][0]
        obtain ⟨tl, eL⟩ := hdL _ hit
        have hrow : H7 (oa (KM.it fl k x)) = some (.lst (nums (L (KM.it fl k x)))) := sB7.lst O.top (O.row _ hit)
        rw [eL] at hrow
        refine ⟨_, rfl, _, rfl, d, _, rfl, kvD_get (.inr ⟨o, hd7⟩) hit, _, _, _, _, rfl, rfl, SqL.of hrow, atI_ints (i := 0) rfl, ?_⟩
        exact ⟨_, by omega, k + 1, rfl, rfl, sB7, hd7, R7, hw7, hp7, ndo', apo'⟩
      · have hmem : KM.it fl k x ∈ W ++ KM.orbit fl x k := natL_mem.mp (kvD_isin hin)
        have covE : ∀ y ∈ ts.take (i + 1), y ∈ W ++ KM.orbit fl x k := fun y hy => by
          rw [take_snoc hx] at hy
          rcases List.mem_append.mp hy with z | z
          · exact List.mem_append_left _ (cov y z)
          · rw [List.mem_singleton.mp z]
            cases k with
            | zero => exact hmem
            | succ k => exact List.mem_append_right _ (KM.mem_orbit.mpr ⟨0, by omega, rfl⟩)
        -- if holder in path
        refine ⟨_, rfl, _, rfl, pa, _, rfl, .inl (SqL.of hp5), rfl, flat_ints _, _, rfl, ?_⟩
        refine ite2 (fun hz => ?_) (fun hz => ?_)
        · have hz : KM.it fl k x ∈ KM.orbit fl x k := natL_mem.mp (in_of rfl hz)
          have hk60 : k ≤ 60 := by
            have := KM.len_le_of_subset ndo hos
            rw [KM.orbit_length] at this
            omega
          -- rings.append(from_least(path[path.index(holder):]))
          refine ⟨_, rfl, .inl ⟨rfl, _, SqL.of R5.top⟩, _, rfl, _, rfl, .inl ⟨rfl, _, SqL.of hp5⟩, _, rfl, pa, natL (KM.orbit fl x k), _, rfl, rfl, SqL.of hp5, natL_mem.mpr hz, _, rfl, pa, _, rfl, SqL.of hp5, fun p1 hp1 => ?_⟩
          rw [natL_idxOf]
          have hj : (KM.orbit fl x k).idxOf (KM.it fl k x) < (KM.orbit fl x k).length := List.idxOf_lt_length_of_mem hz
          rw [cut_from (by rw [len_nats]; omega), nats_drop]
          have hp10 : H p1 = none := sB5.free hd5 hp1
          have s6 : Same H5 (upd H5 p1 (.lst (nats ((KM.orbit fl x k).drop ((KM.orbit fl x k).idxOf (KM.it fl k x)))))) := Same.upd (Same.refl _) hp1
          refine ⟨p1, (KM.orbit fl x k).drop ((KM.orbit fl x k).idxOf (KM.it fl k x)), rfl, SqL.of upd_same, ?_, ?_, fun b j H6 s7 hb hb0 hjl least => ?_⟩
          · intro e
            have := congrArg List.length e
            rw [List.length_drop] at this
            simp at this
            omega
          · rw [List.length_drop, KM.orbit_length]
            omega
          have s56 : Same H5 H6 := s6.trans s7
          have hb5 : H5 b = none := s6.free hb0
          have R6 := R5.same s56
          obtain ⟨hbr, hbc⟩ := R5.notin hb5
          have Pt' := Pt.found ndo apo hos hz rfl least hjl
          generalize ((KM.orbit fl x k).drop ((KM.orbit fl x k).idxOf (KM.it fl k x))).drop j ++ ((KM.orbit fl x k).drop ((KM.orbit fl x k).idxOf (KM.it fl k x))).take j = rng at hb Pt'
          have R7 := R6.snoc hb hbc hbr
          refine ⟨rg, _, _, rfl, rfl, R6.top, ?_, ?_⟩
          · rw [List.length_map, R6.len, List.length_map]
            have h1 := KM.len_le_of_subset Pt.heads (l2 := ts) fun y hy => by
              obtain ⟨a, ha, e⟩ := List.mem_map.mp hy
              obtain ⟨z, r, e2⟩ := List.exists_cons_of_ne_nil (Pt.ring a ha).cyc.1
              rw [← e, e2]
              exact Pt.sub _ (Pt.inW _ (List.mem_flatten.mpr ⟨a, ha, by rw [e2]; exact List.mem_cons_self⟩))
            rw [List.length_map] at h1
            exact small1000 (by omega)
          refine ⟨W ++ KM.orbit fl x k, g ++ [rng], cs ++ [b], _, _, _, rfl, ?_, ?_, ?_, nw4.snoc (sB5.free hd5 hb5), ?_, Pt', covE⟩
          · exact (sB5.then s56).upd hrg
          · rw [upd_ne hdrg.symm]
            exact s56 _ _ hd5
          · rw [List.map_append]
            exact R7
          · rw [upd_ne hwr]
            exact s56 _ _ hw5
        · have hz : KM.it fl k x ∉ KM.orbit fl x k := fun m => notin_of_not rfl hz (natL_mem.mpr m)
          have hW : KM.it fl k x ∈ W := (List.mem_append.mp hmem).elim id fun m => absurd m hz
          exact ⟨W ++ KM.orbit fl x k, g, cs, _, _, _, rfl, sB5, hd5, R5, nw4, hw5, Pt.old ndo apo hos hW, covE⟩
    · rintro σ H4 ⟨W, g, cs, o3, o4, o5, rfl, sB4, hd4, R4, nw4, hw4, Pt, cov⟩
      rw [kvD_length, List.take_length] at cov
      have hgl : g.length ≤ 60 := by
        have h1 := KM.len_le_of_subset Pt.heads (l2 := ts) fun y hy => by
          obtain ⟨a, ha, e⟩ := List.mem_map.mp hy
          obtain ⟨z, r, e2⟩ := List.exists_cons_of_ne_nil (Pt.ring a ha).cyc.1
          rw [← e, e2]
          exact Pt.sub _ (Pt.inW _ (List.mem_flatten.mpr ⟨a, ha, by rw [e2]; exact List.mem_cons_self⟩))
        rw [List.length_map] at h1
        omega
      have hcl : cs.length = g.length := by rw [R4.len, List.length_map]
      have hheads : ((g.map natL).map fun r => r.headD 0) = (g.map fun a => a.headD 0).map fun n : Nat => (n : Int) := by
        rw [List.map_map, List.map_map]
        exact List.map_congr_left fun a _ => natL_head a
      refine ⟨_, rfl, rg, cs, g.map natL, rfl, R4.top, R4.len, R4.row, fun r hr => ?_, ?_, by omega, fun l p hl hp rise => ?_⟩
      · obtain ⟨a, ha, e⟩ := List.mem_map.mp hr
        rw [← e]
        intro z
        exact (Pt.ring a ha).cyc.1 (List.map_eq_nil_iff.mp z)
      · rw [hheads]
        exact KM.map_nodup Pt.heads fun x _ y _ e => by omega
      · rw [List.length_map] at hp
        have rise' : ((p.map fun i => g.getD i []).map fun a => a.headD 0).Pairwise (· < ·) := by
          rw [List.map_map, List.pairwise_map]
          rw [List.pairwise_map] at rise
          refine rise.imp fun {a b} h => ?_
          rw [natL_getD, natL_getD, natL_head, natL_head] at h
          show (g.getD a []).headD 0 < (g.getD b []).headD 0
          omega
        have hlt : ∀ i ∈ p, i < g.length := fun i hi => List.mem_range.mp (hp.mem_iff.mp hi)
        have s5 : Same H4 (upd H4 l (.lst (p.map fun i => V.ref (cs.getD i 0)))) := Same.upd (Same.refl H4) hl
        refine q l (p.map fun i => cs.getD i 0) (p.map fun i => g.getD i []) _ (sB4.then s5) (.inr ⟨o, s5 _ _ hd4⟩) ⟨?_, by simp, fun i c r h1 h2 => ?_⟩ ?_ (Pt.sorted cov hp rise')
        · rw [upd_same]
          simp [refs, List.map_map, Function.comp_def]
        · rw [List.getElem?_map] at h1
          rw [List.map_map, List.getElem?_map] at h2
          cases e : p[i]? with
          | none => rw [e] at h1; cases h1
          | some j =>
            rw [e] at h1 h2
            have hj := hlt j (List.mem_of_getElem? e)
            have e1 := Option.some.inj h1
            have e2 := Option.some.inj h2
            refine s5 _ _ (R4.row j c r ?_ ?_)
            · rw [← e1]
              simp [show j < cs.length by omega]
            · rw [← e2]
              simp [hj]
        · refine New.cons (sB4.free hd4 hl) fun c hc => ?_
          obtain ⟨j, hj, e⟩ := List.mem_map.mp hc
          refine nw4 c ?_
          rw [← e]
          have := hlt j hj
          have hj' : j < cs.length := by omega
          have : cs.getD j 0 = cs[j] := by simp [hj']
          rw [this]
          exact List.getElem_mem hj'
end
end K02

set_option Elab.async false
set_option linter.all false
set_option maxRecDepth 100000
set_option maxHeartbeats 4000000
namespace K02
open PySem L2 KS
section
variable {P : Program} {w : World} {K : PySem.W.Frag} {mg : Str → Option Value} {base : Heap} {f : Addr} {fd : FuncData}
abbrev nPOrdersLeft : List Str := ["orders", "rings", "gone", "ring", "holder", "left"]
theorem scPOrdersLeft : FnScope nPOrdersLeft ["orders", "rings"] (defScope sPOrdersLeft) := ⟨rfl, rfl, rfl, by decide +kernel, rfl, by decide +kernel, by decide +kernel⟩
theorem ok_pordersleft (F : Fun K "orders_left" "orders_left" sPOrdersLeft f fd) (T : Own K mg) : FnOk P w K mg base CX0 1 f fd ["orders", "rings"] spLeft := by
  refine F.ok scPOrdersLeft (fun vs H Q E h => ?_) (fun cdv A outer s H vs Q E hr h => ?_)
  · obtain ⟨d, e, ts, oa, L, cs, g, rfl, _⟩ := h
    rfl
  · obtain ⟨d, e, ts, oa, L, cs, g, rfl, O, R, tnd, tl60, hL, gnd, gl, q⟩ := h
    have nd := scPOrdersLeft.nd
    have hu := hu_of hr
    refine ⟨_, (pss_cons (ps_set (i := 2) nd rfl (Or.inr rfl) pe_dnewK)
 (pss_cons (ps_for PassesOwn.never rfl (pi_list (pv 1)) (pg_name (i := 3) nd rfl (Or.inl rfl))
 (pss_one (ps_for PassesOwn.never rfl (pi_list (pv 3)) (pg_name (i := 4) nd rfl (Or.inl rfl))
 (pss_one (ps_dput hu (pv 2) (pv 4) pe_bl rfl)))))
 (pss_cons (ps_set (i := 5) nd rfl (Or.inl rfl) pe_dnewK)
 (pss_cons (ps_for PassesOwn.never rfl (pi_dict (pv 0)) (pg_name (i := 4) nd rfl (Or.inl rfl))
 (pss_one (ps_if (pt_cmp (pc_dnotin hu (pv 4) (pv 2)))
 (pss_one (ps_dput hu (pv 5) (pv 4) (pe_lc (fr := ["gone"]) (ix := [2]) (tt := tB (tDNotIn (tVar 0) (tVar 1))) (te := tVar 0)  rfl (compScope (defScope sPOrdersLeft) nPOrdersLeft rfl rfl (by decide +kernel)) (pi_list (pe_dget hu (pv 0) (pv 4) (fun _ _ => rfl))) (fun _ _ _ _ _ => pifs_one (pt_cmp (pc_dnotin hu (pv 0) (pv 1)))) (fun _ _ _ _ _ => (pv 0))) rfl)) pss_nil)))
 (pss_one (ps_ret (pv 5))))))), ?_⟩
    intro go hgo
    have s1 : Same H (upd H go (.dK [])) := Same.upd (Same.refl H) hgo
    have h1 : upd H go (.dK []) go = some (.dK []) := upd_same
    generalize upd H go (.dK []) = H1 at s1 h1
    -- for ring in rings: for holder in ring
    refine ⟨_, rfl, e, rfl, ⟨_, SqL.of (s1 _ _ R.top)⟩, for_list (K := K) (a := e) (xs := refs cs) (fun i σ H2 => ∃ (o3 o4 : Option V), σ = [some (.ref d), some (.ref e), some (.ref go), o3, o4, none] ∧ Same H H2 ∧ H2 go = some (.dK (kvD (fun _ => .bl true) (g.take i).flatten)))
      ⟨none, none, rfl, s1, h1⟩ (fun i σ H2 _ ⟨_, _, _, s2, _⟩ => SqL.of (s2 _ _ R.top)) ?_ ?_⟩
    · rintro i x σ H2 hx ⟨o3, o4, rfl, s2, h2⟩
      obtain ⟨c, rfl, hc⟩ := refs_at hx
      obtain ⟨a, ha, hca⟩ := R.nat_row hc
      have eg : (g.take (i + 1)).flatten = (g.take i).flatten ++ a := by rw [take_snoc ha]; simp
      have split : ∃ r, g.flatten = (g.take i).flatten ++ a ++ r := by
        refine ⟨(g.drop (i + 1)).flatten, ?_⟩
        rw [← eg, ← List.flatten_append, List.take_append_drop]
      obtain ⟨rest, esp⟩ := split
      have nd2 : ((g.take i).flatten ++ a).Nodup := by rw [esp] at gnd; exact (List.nodup_append.mp gnd).1
      have len2 : ((g.take i).flatten ++ a).length ≤ 60 := by
        have := congrArg List.length esp
        rw [List.length_append] at this
        omega
      refine ⟨_, rfl, c, rfl, ⟨_, SqL.of (s2 _ _ hca)⟩, for_list (K := K) (a := c) (xs := nats a) (fun j σ H3 => ∃ (o4 : Option V), σ = [some (.ref d), some (.ref e), some (.ref go), some (.ref c), o4, none] ∧ Same H H3 ∧ H3 go = some (.dK (kvD (fun _ => .bl true) ((g.take i).flatten ++ a.take j))))
        ⟨_, rfl, s2, by rw [h2]; simp⟩ (fun j σ H3 _ ⟨_, _, s3, _⟩ => SqL.of (s3 _ _ hca)) ?_ ?_⟩
      · rintro j y σ H3 hy ⟨o4', rfl, s3, h3⟩
        obtain ⟨n, rfl, hn⟩ := nats_at hy
        have hnew : n ∉ (g.take i).flatten ++ a.take j := fun m => by
          rcases List.mem_append.mp m with z | z
          · exact (List.nodup_append.mp nd2).2.2 n z n (List.mem_of_getElem? hn) rfl
          · exact nodup_take (List.nodup_append.mp nd2).2.1 hn z
        refine ⟨_, rfl, _, rfl, go, _, rfl, DPut.k (k := Sum.inl (n : Int)) h3 ?_, ?_⟩
        · rw [kvD_length, List.length_append, List.length_take]
          rw [List.length_append] at len2
          exact small1000 (by omega)
        · rw [kvD_put (v := fun _ => .bl true) hnew rfl, List.append_assoc, ← take_snoc hn]
          exact ⟨_, rfl, Same.upd s3 hgo, upd_same⟩
      · rintro σ H3 ⟨o4', rfl, s3, h3⟩
        rw [len_nats, List.take_length, ← eg] at h3
        exact ⟨_, _, rfl, s3, h3⟩
    rintro σ H2 ⟨o3, o4, rfl, s2, h2⟩
    have hcl : cs.length = g.length := by rw [R.len, List.length_map]
    rw [List.length_map, hcl, List.take_length] at h2
    -- left = {}
    intro lf hlf
    have hlf0 : H lf = none := s2.free hlf
    have s3 : Same H2 (upd H2 lf (.dK [])) := Same.upd (Same.refl H2) hlf
    have h3 : upd H2 lf (.dK []) lf = some (.dK []) := upd_same
    have hgl : go ≠ lf := ne_of_none h2 hlf
    generalize upd H2 lf (.dK []) = H3 at s3 h3
    have s03 : Same H H3 := s2.trans s3
    have topS : Rd H3 d (.dK (kvD (fun x => .ref (oa x)) ts)) := by
      rcases O.top with e | ⟨o, e⟩
      · exact .inl (s03 _ _ e)
      · exact .inr ⟨o, s03 _ _ e⟩
    have hlfd : lf ≠ d := Rd.none_ne O.top hlf0
    have hgod : go ≠ d := Rd.none_ne O.top hgo
    -- for holder in orders
    refine ⟨_, rfl, d, _, rfl, topS, fun ob H4 hd4 ho4 => ?_⟩
    have sB4 : SameB d H H4 := KS.Same.thenB s03 (SameB.of_walk ho4)
    refine for_dict (fun i σ H5 => ∃ (oa' : Nat → Addr) (o4 : Option V), σ = [some (.ref d), some (.ref e), some (.ref go), o3, o4, some (.ref lf)] ∧ SameB d H H5 ∧ H5 d = some (.frz ob (.dK (kvD (fun x => .ref (oa x)) ts))) ∧ H5 go = some (.dK (kvD (fun _ => .bl true) g.flatten)) ∧
        H5 lf = some (.dK (kvD (fun x => .ref (oa' x)) ((ts.take i).filter fun x => decide (x ∉ g.flatten)))) ∧ ∀ x ∈ (ts.take i).filter (fun x => decide (x ∉ g.flatten)), H5 (oa' x) = some (.lst (nums ((L x).filter fun y => decide (y ∉ natL g.flatten)))))
      ⟨oa, _, rfl, sB4, hd4, by rw [ho4 go hgod]; exact s3 _ _ h2, by rw [ho4 lf hlfd]; exact h3, by simp⟩ (fun i σ H5 _ ⟨_, _, _, _, z, _⟩ => z) ?_ ?_
    · rintro i kv σ H5 hkv ⟨oa', o4', rfl, sB5, hd5, hg5, hl5, rows⟩
      obtain ⟨x, hx, ek⟩ := kvD_at hkv
      have hxt : x ∈ ts := List.mem_of_getElem? hx
      rw [ek]
      refine ⟨_, rfl, _, rfl, go, _, rfl, kvD_in (.inl hg5), _, rfl, ?_⟩
      refine ite2 (fun hin => ?_) (fun hin => ?_)
      · have hnot : x ∉ g.flatten := fun z => kvD_notin hin (natL_mem.mpr z)
        have ets : (ts.take (i + 1)).filter (fun x => decide (x ∉ g.flatten)) = (ts.take i).filter (fun x => decide (x ∉ g.flatten)) ++ [x] := by
          rw [take_snoc hx, List.filter_append, List.filter_cons_of_pos (by simpa using hnot)]
          rfl
        have hnew : x ∉ (ts.take i).filter (fun x => decide (x ∉ g.flatten)) := fun m => nodup_take tnd hx (List.mem_filter.mp m).1
        have hrow : H5 (oa x) = some (.lst (nums (L x))) := sB5.lst O.top (O.row x hxt)
        -- left[holder] = [..]
        refine ⟨_, rfl, _, rfl, d, _, rfl, kvD_get (.inr ⟨ob, hd5⟩) hxt, oa x, rfl, ⟨_, SqL.of hrow⟩, fun acc hacc => lc_list (K := K) (a := oa x) (xs := nums (L x)) (fun j ys H6 => ys = nums (((L x).take j).filter fun y => decide (y ∉ natL g.flatten)) ∧ Same H5 H6 ∧ H6 acc = some (.lst ys))
          ⟨rfl, Same.upd (Same.refl _) hacc, upd_same⟩ (fun j ys H6 _ ⟨_, sm, h⟩ => ⟨h, SqL.of (sm _ _ hrow)⟩) ?_ ?_⟩
        · rintro j y ys H6 hy ⟨rfl, sm, hh⟩
          obtain ⟨n, rfl, hn⟩ := ints_at hy
          refine ⟨_, rfl, _, rfl, go, _, rfl, kvD_in (.inl (sm _ _ hg5)), _, rfl, ?_⟩
          refine ite2 (fun hz => ?_) (fun hz => ?_)
          · have hz : n ∉ natL g.flatten := kvD_notin hz
            refine ⟨_, rfl, hh, ?_, ?_, Same.upd sm hacc, upd_same⟩
            · rw [len_ints]
              refine small1000 (Nat.le_trans (List.length_filter_le _ _) ?_)
              rw [List.length_take]
              have := hL x hxt
              omega
            · rw [take_snoc hn, List.filter_append, filter1_pos (p := fun y => decide (y ∉ natL g.flatten)) (decide_eq_true hz)]
              simp [nums]
          · have hz : n ∈ natL g.flatten := kvD_isin hz
            refine ⟨?_, sm, hh⟩
            rw [take_snoc hn, List.filter_append, filter1_neg (p := fun y => decide (y ∉ natL g.flatten)) (decide_eq_false (fun z => z hz)), List.append_nil]
        · rintro ys H6 ⟨rfl, sm, hh⟩
          rw [len_ints, List.take_length] at hh
          have hl6 := sm _ _ hl5
          have hacl : acc ≠ lf := (ne_of_none hl5 hacc).symm
          refine ⟨_, rfl, _, rfl, lf, _, rfl, DPut.k (k := Sum.inl (x : Int)) hl6 ?_, ?_⟩
          · rw [kvD_length]
            refine small1000 (Nat.le_trans (List.length_filter_le _ _) ?_)
            rw [List.length_take]
            omega
          have ecg : kvD (fun y => V.ref (oa' y)) ((ts.take i).filter fun x => decide (x ∉ g.flatten)) = kvD (fun y => V.ref (if y = x then acc else oa' y)) ((ts.take i).filter fun x => decide (x ∉ g.flatten)) := kvD_congr fun y hy => by
            have : ¬ y = x := fun z => hnew (by rw [← z]; exact hy)
            rw [if_neg this]
          rw [ecg, kvD_put (v := fun y => V.ref (if y = x then acc else oa' y)) hnew (by simp), ← ets]
          refine ⟨fun y => if y = x then acc else oa' y, _, rfl, (sB5.then sm).upd hlf0, by rw [upd_ne hlfd.symm]; exact sm _ _ hd5, by rw [upd_ne hgl]; exact sm _ _ hg5, upd_same, fun y hy => ?_⟩
          by_cases ey : y = x
          · subst ey
            dsimp only
            rw [if_pos rfl, upd_ne hacl]
            exact hh
          · dsimp only
            rw [if_neg ey]
            rw [ets] at hy
            have hy' : y ∈ (ts.take i).filter (fun x => decide (x ∉ g.flatten)) := (List.mem_append.mp hy).elim id fun z => absurd (List.mem_singleton.mp z) ey
            have hr := rows y hy'
            rw [upd_ne (ne_of hr hl5 (by intro z; cases z))]
            exact sm _ _ hr
      · have hz : x ∈ g.flatten := natL_mem.mp (kvD_isin hin)
        have ets : (ts.take (i + 1)).filter (fun x => decide (x ∉ g.flatten)) = (ts.take i).filter (fun x => decide (x ∉ g.flatten)) := by
          rw [take_snoc hx, List.filter_append, List.filter_cons_of_neg (by simpa using hz)]
          simp
        refine ⟨oa', _, rfl, sB5, hd5, hg5, ?_, ?_⟩
        · rw [ets]; exact hl5
        · rw [ets]; exact rows
    · rintro σ H5 ⟨oa', o4', rfl, sB5, hd5, hg5, hl5, rows⟩
      rw [kvD_length, List.take_length] at hl5 rows
      exact ⟨_, rfl, q lf oa' H5 sB5 (.inr ⟨ob, hd5⟩) hl5 rows hlf0⟩
end
end K02

set_option Elab.async false
set_option linter.all false
set_option maxRecDepth 100000
set_option maxHeartbeats 4000000
namespace K02
open PySem L2 KS
section
variable {P : Program} {w : World} {K : PySem.W.Frag} {mg : Str → Option Value} {base : Heap} {f : Addr} {fd : FuncData}
abbrev nPRounds : List Str := ["wishes", "orders", "holder", "told", "rings"]
theorem scPRounds : FnScope nPRounds ["wishes"] (defScope sPRounds) := ⟨rfl, rfl, rfl, by decide +kernel, rfl, by decide +kernel, by decide +kernel⟩
theorem ok_prounds (F : Fun K "rounds" "rounds" sPRounds f fd) (T : Own K mg) (A1 : Fn P w K mg base "refuse_wrong" ["wishes"] 1 spRefuse) (A2 : Fn P w K mg base "houses_for" ["wishes", "holder"] 1 spHouses) (A3 : Fn P w K mg base "rings_of" ["orders"] 2 spRingsOf)
    (A4 : Fn P w K mg base "orders_left" ["orders", "rings"] 1 spLeft) : FnOk P w K mg base CX0 3 f fd ["wishes"] spRounds := by
  obtain ⟨f1, fd1, G1, m1, k1, b1⟩ := A1
  obtain ⟨f2, fd2, G2, m2, k2, b2⟩ := A2
  obtain ⟨f3, fd3, G3, m3, k3, b3⟩ := A3
  obtain ⟨f4, fd4, G4, m4, k4, b4⟩ := A4
  refine F.ok scPRounds (fun vs H Q E h => ?_) (fun cdv A outer s H vs Q E hr h => ?_)
  · obtain ⟨a, as, rs, rfl, _⟩ := h
    rfl
  · obtain ⟨a, as, rs, rfl, R, wf, hn60, q⟩ := h
    have nd := scPRounds.nd
    have hr1 := hr.mono (j := 1) (by decide)
    have hu := hu_of hr
    have short : ∀ r ∈ rs, r.length ≤ rs.length := wf.short
    refine ⟨_, (pss_cons (ps_expr (pe_call G1 hr1 (by rfl) m1 k1 b1 .nil pass0 (pa_cons (pv 0) pa_nil)))
 (pss_cons (ps_set (i := 1) nd rfl (Or.inl rfl) pe_dnewK)
 (pss_cons (ps_for PassesOwn.never rfl (pi_range1 (by rfl) T.range (pa_cons (pe_callB call_len_seq (by rfl) T.len PySem.boot_len (pa_cons (pv 0) pa_nil)) pa_nil)) (pg_name (i := 2) nd rfl (Or.inl rfl))
 (pss_one (ps_dput hu (pv 1) (pv 2) (pe_call G2 hr1 (by rfl) m2 k2 b2 .nil pass0 (pa_cons (pv 0) (pa_cons (pv 2) pa_nil))) rfl)))
 (pss_cons (ps_set (i := 3) nd rfl (Or.inl rfl) (pe_lst pa_nil))
 (pss_cons (ps_while PassesOwn.never (pt_truth (pv 1) (fun _ => rfl))
 (pss_cons (ps_set (i := 4) nd rfl (Or.inl rfl) (pe_call G3 hr (by rfl) m3 k3 b3 .nil pass0 (pa_cons (pv 1) pa_nil)))
 (pss_cons (ps_expr (pe_bm PySem.F.plainAttrs_list PySem.F.slot_list_append PySem.F.type_list_append mt_append (pv 3) (pa_cons (pv 4) pa_nil)))
 (pss_one (ps_set (i := 1) nd rfl (Or.inl rfl) (pe_call G4 hr1 (by rfl) m4 k4 b4 .nil pass0 (pa_cons (pv 1) (pa_cons (pv 4) pa_nil))))))))
 (pss_one (ps_ret (pv 3)))))))), ?_⟩
    -- refuse_wrong(wishes)
    refine ⟨_, rfl, a, as, rs, rfl, R, wf, by omega, fun H1 s1 => ?_⟩
    -- orders = {}
    intro d hd
    have hd0 : H d = none := s1.free hd
    have s2 : Same H (upd H1 d (.dK [])) := Same.upd s1 hd0
    have h2 : upd H1 d (.dK []) d = some (.dK []) := upd_same
    generalize upd H1 d (.dK []) = H2 at s2 h2
    have eN : (((refs as).length : Nat) : Int).toNat = rs.length := by rw [Int.toNat_natCast, List.length_map, R.len]
    refine ⟨_, rfl, _, _, rfl, .inl (SqL.of (s2 _ _ R.top)), _, rfl, by omega, by rw [List.length_map, R.len]; omega,
      for_range (fun i σ H3 => ∃ (oa : Nat → Addr) (o2 : Option V), σ = [some (.ref a), some (.ref d), o2, none, none] ∧ Same H H3 ∧ H3 d = some (.dK (kvD (fun x => .ref (oa x)) (List.range i))) ∧ ∀ x ∈ List.range i, H3 (oa x) = some (.lst (nums (KM.order (rs.getD x []) (x : Int)))))
        ⟨fun _ => 0, none, rfl, s2, h2, by simp⟩ ?_ ?_⟩
    · rintro i σ H3 hi ⟨oa, o2, rfl, s3, h3, rows⟩
      rw [eN] at hi
      have ez : (0 : Int) + (i : Int) = (i : Int) := by omega
      rw [ez]
      have hri : rs[i]? = some rs[i] := by simp [hi]
      have eri : rs.getD i [] = rs[i] := by simp [hi]
      refine ⟨_, rfl, _, rfl, a, as, rs, i, rs[i], rfl, R.same s3, hri, ?_, fun b H4 s4 hb hb0 => ?_⟩
      · have := short rs[i] (List.getElem_mem hi)
        omega
      have hnew : i ∉ List.range i := by simp
      refine ⟨_, rfl, _, rfl, d, _, rfl, DPut.k (k := Sum.inl (i : Int)) (s4 _ _ h3) ?_, ?_⟩
      · rw [kvD_length, List.length_range]
        exact small1000 (by omega)
      have ecg : kvD (fun y => V.ref (oa y)) (List.range i) = kvD (fun y => V.ref (if y = i then b else oa y)) (List.range i) := kvD_congr fun y hy => by
        have : ¬ y = i := fun z => by subst z; exact hnew hy
        rw [if_neg this]
      rw [ecg, kvD_put (v := fun y => V.ref (if y = i then b else oa y)) hnew (by simp), ← List.range_succ]
      refine ⟨fun y => if y = i then b else oa y, _, rfl, Same.upd (s3.trans s4) hd0, upd_same, fun y hy => ?_⟩
      have hbd : b ≠ d := (ne_of_none h3 hb0).symm
      by_cases ey : y = i
      · subst ey
        dsimp only
        rw [if_pos rfl, upd_ne hbd, eri]
        exact hb
      · dsimp only
        rw [if_neg ey]
        have hy' : y ∈ List.range i := List.mem_range.mpr (by have := List.mem_range.mp hy; omega)
        have hr' := rows y hy'
        rw [upd_ne (ne_of hr' h3 (by intro z; cases z))]
        exact s4 _ _ hr'
    rintro σ H3 ⟨oa, o2, rfl, s3, h3, rows⟩
    rw [eN] at h3 rows
    -- told = []
    refine ⟨Nat.zero_le _, fun tl htl => ?_⟩
    have htl0 : H tl = none := s3.free htl
    have s4 : Same H3 (upd H3 tl (.lst [])) := Same.upd (Same.refl H3) htl
    have h4 : upd H3 tl (.lst []) tl = some (.lst []) := upd_same
    generalize upd H3 tl (.lst []) = H4 at s4 h4
    have full : ∀ x ∈ List.range rs.length, KM.order (rs.getD x []) (x : Int) = (KM.order (rs.getD x []) (x : Int)).filter fun y => decide (y ∈ natL (List.range rs.length)) := fun x hx => by
      refine (List.filter_eq_self.mpr fun y hy => decide_eq_true ?_).symm
      have hx' := List.mem_range.mp hx
      have er : rs.getD x [] = rs[x] := by simp [hx']
      rw [er] at hy
      unfold KM.order at hy
      rcases List.mem_append.mp hy with m | m
      · have := wf.rng rs[x] (List.getElem_mem hx') y (List.mem_of_mem_take m)
        exact List.mem_map.mpr ⟨y.toNat, List.mem_range.mpr (by omega), by omega⟩
      · rw [List.mem_singleton.mp m]
        exact natL_mem.mpr hx
    -- while orders
    refine ⟨fun m σ H5 => ∃ (ts : List Nat) (gs : List (List (List Nat))) (bs : List Addr) (d : Addr) (oa : Nat → Addr) (o2 o4 : Option V), m = ts.length ∧ σ = [some (.ref a), some (.ref d), o2, some (.ref tl), o4] ∧ Same H H5 ∧ H d = none ∧
        H5 d = some (.dK (kvD (fun x => .ref (oa x)) ts)) ∧ (∀ x ∈ ts, H5 (oa x) = some (.lst (nums ((KM.order (rs.getD x []) (x : Int)).filter fun y => decide (y ∈ natL ts))))) ∧ ts.Nodup ∧ (∀ x ∈ ts, x < rs.length) ∧ Rd3n H H5 tl bs gs ∧ (∀ b ∈ bs, b ≠ tl) ∧ (∀ g ∈ gs, ∀ r ∈ g, r ≠ []) ∧
        bs.length + ts.length ≤ 60 ∧ KM.Upto (KM.rk rs) (List.range rs.length) gs ts,
      ⟨_, List.range rs.length, [], [], d, oa, _, _, rfl, rfl, s3.trans s4, hd0, s4 _ _ h3, fun x hx => by rw [← full x hx]; exact s4 _ _ (rows x hx), List.nodup_range, fun x hx => List.mem_range.mp hx, ⟨h4, htl0, rfl, fun i b g h => by simp at h⟩, fun b hb => (by cases hb), fun g hg => (by cases hg), by simp; omega, KM.Upto.start _ _⟩, ?_⟩
    rintro m σ H5 ⟨ts, gs, bs, d5, oa5, o2', o4', rfl, rfl, s5, hd5, hD5, row5, tnd, tlt, R3, bne, gne, hlen, U⟩
    refine ⟨_, rfl, _, .inr (.inr ⟨_, hD5, rfl⟩), ?_⟩
    by_cases hts : ts = []
    · subst hts
      exact iteF ⟨_, rfl, q tl bs gs H5 s5 R3 U.done⟩
    · have hne : (!(kvD (fun x => V.ref (oa5 x)) ts).isEmpty) = true := by
        obtain ⟨y, l, e⟩ := List.exists_cons_of_ne_nil hts
        rw [e]; rfl
      rw [hne]
      refine iteT ⟨fun σ' H' => ∃ m', m' < ts.length ∧ ∃ (ts : List Nat) (gs : List (List (List Nat))) (bs : List Addr) (d : Addr) (oa : Nat → Addr) (o2 o4 : Option V), m' = ts.length ∧ σ' = [some (.ref a), some (.ref d), o2, some (.ref tl), o4] ∧ Same H H' ∧ H d = none ∧
        H' d = some (.dK (kvD (fun x => .ref (oa x)) ts)) ∧ (∀ x ∈ ts, H' (oa x) = some (.lst (nums ((KM.order (rs.getD x []) (x : Int)).filter fun y => decide (y ∈ natL ts))))) ∧ ts.Nodup ∧ (∀ x ∈ ts, x < rs.length) ∧ Rd3n H H' tl bs gs ∧ (∀ b ∈ bs, b ≠ tl) ∧ (∀ g ∈ gs, ∀ r ∈ g, r ≠ []) ∧
        bs.length + ts.length ≤ 60 ∧ KM.Upto (KM.rk rs) (List.range rs.length) gs ts, fun _ _ h => h, ?_⟩
      have heads : ∀ x ∈ ts, ∃ t, (KM.order (rs.getD x []) (x : Int)).filter (fun y => decide (y ∈ natL ts)) = ((KM.look (KM.rk rs) ts x : Nat) : Int) :: t := fun x hx => by
        have hx' := tlt x hx
        have er : rs.getD x [] = rs[x] := by simp [hx']
        have := short rs[x] (List.getElem_mem hx')
        rw [er]
        exact KM.look_head (by simp [hx']) (by omega) hx
      -- rings = rings_of(orders)
      refine ⟨_, rfl, d5, ts, oa5, _, KM.look (KM.rk rs) ts, rfl, ⟨.inl hD5, row5⟩, tnd, by omega, fun x hx => KM.look_mem hx, heads, fun b cs g H6 sB6 hd6 R6 nw6 RF => ?_⟩
      have O := RF.ok (r := KM.rk rs) hts fun x _ => rfl
      have rd5 : Rd H5 d5 (.dK (kvD (fun x => V.ref (oa5 x)) ts)) := .inl hD5
      have s6 : Same H H6 := fun c u e => sB6 c u (ne_of_none e hd5) (s5 c u e)
      have R36 := sB6.rd3n rd5 R3
      have htl6 : H6 tl = some (.lst (refs bs)) := R36.top
      have hbtl : b ≠ tl := (ne_of_none R3.top (nw6 b List.mem_cons_self)).symm
      have hctl : ∀ c ∈ cs, c ≠ tl := fun c hc => (ne_of_none R3.top (nw6 c (List.mem_cons_of_mem _ hc))).symm
      have htd : tl ≠ d5 := Rd.lst_ne rd5 R3.top
      -- told.append(rings)
      refine ⟨_, rfl, .inl ⟨rfl, _, SqL.of htl6⟩, _, rfl, tl, _, _, rfl, rfl, htl6, ?_, ?_⟩
      · rw [List.length_map]
        exact small1000 (by omega)
      have er : refs bs ++ [V.ref b] = refs (bs ++ [b]) := by simp [refs]
      rw [er]
      have R37 : Rd3n H (upd H6 tl (.lst (refs (bs ++ [b])))) tl (bs ++ [b]) (gs ++ [g]) := by
        refine ⟨upd_same, htl0, by simp [R36.len], fun i b' g' h1 h2 => ?_⟩
        by_cases hi : i < bs.length
        · rw [List.getElem?_append_left hi] at h1
          rw [List.getElem?_append_left (by rw [← R36.len]; exact hi)] at h2
          obtain ⟨nb', cs', q', nc'⟩ := R36.row i b' g' h1 h2
          refine ⟨nb', cs', ⟨by rw [upd_ne (bne b' (List.mem_of_getElem? h1))]; exact q'.top, q'.len, fun j c r e1 e2 => ?_⟩, nc'⟩
          have hc := q'.row j c r e1 e2
          have hrne : r ≠ [] := fun z => by
            rw [List.getElem?_map] at e2
            cases e3 : g'[j]? with
            | none => rw [e3] at e2; cases e2
            | some w =>
              rw [e3] at e2
              have e4 : natL w = r := Option.some.inj e2
              rw [z] at e4
              exact gne g' (List.mem_of_getElem? h2) w (List.mem_of_getElem? e3) (List.map_eq_nil_iff.mp e4)
          have hct : c ≠ tl := ne_of hc htl6 fun z => by
            have z' : nums r = refs bs := by injection z
            obtain ⟨n, l, e⟩ := List.exists_cons_of_ne_nil hrne
            rw [e] at z'
            cases bs with
            | nil => cases z'
            | cons _ _ => injection z' with z1 _; cases z1
          rw [upd_ne hct]
          exact hc
        · have hie : i = bs.length := by
            have := (List.getElem?_eq_some_iff.mp h1).1
            rw [List.length_append] at this
            simp at this
            omega
          subst hie
          rw [List.getElem?_append_right (Nat.le_refl _), Nat.sub_self] at h1
          rw [R36.len, List.getElem?_append_right (Nat.le_refl _), Nat.sub_self] at h2
          have e1 : b = b' := Option.some.inj h1
          have e2 : g = g' := Option.some.inj h2
          subst e1 e2
          exact ⟨s5.free (nw6 b List.mem_cons_self), cs, ⟨by rw [upd_ne hbtl]; exact R6.top, R6.len, fun j c r e1 e2 => by rw [upd_ne (hctl c (List.mem_of_getElem? e1))]; exact R6.row j c r e1 e2⟩, fun c hc => s5.free (nw6 c (List.mem_cons_of_mem _ hc))⟩
      have hd7 : Rd (upd H6 tl (.lst (refs (bs ++ [b])))) d5 (.dK (kvD (fun x => V.ref (oa5 x)) ts)) := by
        rcases hd6 with e | ⟨o, e⟩
        · exact .inl (by rw [upd_ne htd.symm]; exact e)
        · exact .inr ⟨o, by rw [upd_ne htd.symm]; exact e⟩
      have row7 : ∀ x ∈ ts, upd H6 tl (.lst (refs (bs ++ [b]))) (oa5 x) = some (.lst (nums ((KM.order (rs.getD x []) (x : Int)).filter fun y => decide (y ∈ natL ts)))) := fun x hx => by
        have hx6 := sB6.lst rd5 (row5 x hx)
        obtain ⟨t, et⟩ := heads x hx
        rw [upd_ne (ne_of hx6 htl6 fun z => by
          have z' : nums ((KM.order (rs.getD x []) (x : Int)).filter fun y => decide (y ∈ natL ts)) = refs bs := by injection z
          rw [et] at z'
          cases bs with
          | nil => cases z'
          | cons _ _ => injection z' with z1 _; cases z1)]
        exact hx6
      have s7 : Same H (upd H6 tl (.lst (refs (bs ++ [b])))) := Same.upd s6 htl0
      have R67 : Rd2 (upd H6 tl (.lst (refs (bs ++ [b])))) b cs (g.map natL) := ⟨by rw [upd_ne hbtl]; exact R6.top, R6.len, fun j c r e1 e2 => by rw [upd_ne (hctl c (List.mem_of_getElem? e1))]; exact R6.row j c r e1 e2⟩
      generalize upd H6 tl (.lst (refs (bs ++ [b]))) = H7 at R37 hd7 row7 s7 R67
      have gl : g.flatten.length ≤ ts.length := KM.len_le_of_subset RF.nd RF.sub
      have gpos : 0 < g.flatten.length := by
        obtain ⟨y, l, e⟩ := List.exists_cons_of_ne_nil hts
        exact List.length_pos_of_mem (O.all y (by rw [e]; exact List.mem_cons_self))
      have fsplit := KM.filter_split tnd RF.nd RF.sub
      -- orders = orders_left(orders, rings)
      refine ⟨_, rfl, _, rfl, d5, b, ts, oa5, _, cs, g, rfl, ⟨hd7, row7⟩, R67, tnd, by omega, fun x hx => ?_, RF.nd, by omega, fun d8 oa8 H8 sB8 _ hd8 row8 hd80 => ?_⟩
      · refine Nat.le_trans (List.length_filter_le _ _) ?_
        have hx' := tlt x hx
        have er : rs.getD x [] = rs[x] := by simp [hx']
        have h1 := short rs[x] (List.getElem_mem hx')
        rw [er]
        unfold KM.order
        rw [List.length_append, List.length_take]
        simp
        omega
      refine ⟨(ts.filter fun x => decide (x ∉ g.flatten)).length, by omega, ts.filter fun x => decide (x ∉ g.flatten), gs ++ [g], bs ++ [b], d8, oa8, _, _, rfl, rfl, fun c u e => sB8 c u (ne_of_none e hd5) (s7 c u e), s7.free hd80, hd8, fun x hx => ?_, tnd.sublist List.filter_sublist, fun x hx => tlt x (List.mem_filter.mp hx).1, sB8.rd3n hd7 R37, fun b' hb' => ?_, fun g' hg' => ?_, ?_, U.snoc O⟩
      · rw [row8 x hx, List.filter_filter]
        congr 3
        refine List.filter_congr fun y _ => ?_
        have key : (y ∈ natL (ts.filter fun x => decide (x ∉ g.flatten))) ↔ (y ∉ natL g.flatten ∧ y ∈ natL ts) := by
          constructor
          · intro h
            obtain ⟨n, hn, e⟩ := List.mem_map.mp h
            obtain ⟨h1, h2⟩ := List.mem_filter.mp hn
            have h2 : n ∉ g.flatten := by simpa using h2
            rw [← e]
            exact ⟨fun z => h2 (natL_mem.mp z), natL_mem.mpr h1⟩
          · rintro ⟨h1, h2⟩
            obtain ⟨n, hn, e⟩ := List.mem_map.mp h2
            rw [← e] at h1 ⊢
            exact natL_mem.mpr (List.mem_filter.mpr ⟨hn, by simpa using fun z => h1 (natL_mem.mpr z)⟩)
        by_cases c : y ∈ natL (ts.filter fun x => decide (x ∉ g.flatten))
        · obtain ⟨c1, c2⟩ := key.mp c
          simp only [decide_eq_true c, decide_eq_true c1, decide_eq_true c2, Bool.and_self]
        · rw [decide_eq_false c]
          by_cases c1 : y ∉ natL g.flatten
          · have c2 : ¬ y ∈ natL ts := fun z => c (key.mpr ⟨c1, z⟩)
            rw [decide_eq_false c2, Bool.and_false]
          · rw [decide_eq_false c1, Bool.false_and]
      · rcases List.mem_append.mp hb' with z | z
        · exact bne b' z
        · rw [List.mem_singleton.mp z]; exact hbtl
      · rcases List.mem_append.mp hg' with z | z
        · exact gne g' z
        · rw [List.mem_singleton.mp z]; exact fun r hr => (RF.ring r hr).cyc.1
      · rw [List.length_append, List.length_singleton]
        omega
end
end K02

set_option Elab.async false
set_option linter.all false
set_option maxRecDepth 100000
set_option maxHeartbeats 4000000
namespace K02
open PySem L2 KS
section
variable {P : Program} {w : World} {K : PySem.W.Frag} {mg : Str → Option Value} {base : Heap} {f : Addr} {fd : FuncData}
theorem scPRather : FnScope ["wishes", "holder", "one", "other", "order"] ["wishes", "holder", "one", "other"] (defScope sPRather) := ⟨rfl, rfl, rfl, by decide +kernel, rfl, by decide +kernel, by decide +kernel⟩
theorem ok_prather (F : Fun K "rather" "rather" sPRather f fd) (T : Own K mg) (G : Fn P w K mg base "houses_for" ["wishes", "holder"] 1 spHouses) : FnOk P w K mg base CX0 2 f fd ["wishes", "holder", "one", "other"] spRather := by
  obtain ⟨fh, fdh, Gh, mh, kh, bh⟩ := G
  refine F.ok scPRather (fun vs H Q E h => ?_) (fun cdv A outer s H vs Q E hr h => ?_)
  · obtain ⟨a, as, rs, h, r, x, y, rfl, _⟩ := h
    rfl
  · obtain ⟨a, as, rs, h, r, x, y, rfl, R, hrow, hlen, q⟩ := h
    have nd := scPRather.nd
    refine ⟨_, pss_cons (ps_set (i := 4) nd rfl (Or.inl rfl) (pe_call Gh hr (by rfl) mh kh bh .nil pass0 (pa_cons (pv 0) (pa_cons (pv 1) pa_nil))))
      (pss_cons (ps_if (pt_cmpR op_notIn_seq (pv 2) (pv 4) (by with_unfolding_all rfl)) (pss_one (ps_ret pe_bl)) pss_nil)
      (pss_cons (ps_if (pt_cmpR op_notIn_seq (pv 3) (pv 4) (by with_unfolding_all rfl)) (pss_one (ps_ret pe_bl)) pss_nil)
      (pss_one (ps_ret (pe_cmpR op_lt (pe_bm PySem.F.plainAttrs_list PySem.F.slot_list_index PySem.F.type_list_index mt_index (pv 4) (pa_cons (pv 2) pa_nil)) (pe_bm PySem.F.plainAttrs_list PySem.F.slot_list_index PySem.F.type_list_index mt_index (pv 4) (pa_cons (pv 3) pa_nil)) (nomark _)))))), ?_⟩
    refine ⟨_, rfl, _, rfl, a, as, rs, h, r, rfl, R, hrow, hlen, fun b H1 s1 h1 h0 => ?_⟩
    have q := q H1 s1
    unfold KM.ratherV at q
    refine ⟨_, rfl, _, rfl, _, _, rfl, .inl (SqL.of h1), rfl, flat_ints _, _, rfl, ?_⟩
    refine ite2 (fun m => ?_) (fun m => ?_)
    · have m : ¬ x ∈ KM.order r (h : Int) := notin_of rfl m
      rw [if_neg m] at q
      exact q
    · have m : x ∈ KM.order r (h : Int) := in_of_not rfl m
      rw [if_pos m] at q
      refine ⟨_, rfl, _, rfl, _, _, rfl, .inl (SqL.of h1), rfl, flat_ints _, _, rfl, ?_⟩
      refine ite2 (fun m2 => ?_) (fun m2 => ?_)
      · have m2 : ¬ y ∈ KM.order r (h : Int) := notin_of rfl m2
        rw [if_neg m2] at q
        exact q
      · have m2 : y ∈ KM.order r (h : Int) := in_of_not rfl m2
        rw [if_pos m2] at q
        refine ⟨_, rfl, .inl ⟨rfl, _, SqL.of h1⟩, _, rfl, _, _, _, rfl, rfl, SqL.of h1, m, _, rfl, .inl ⟨rfl, _, SqL.of h1⟩, _, rfl, _, _, _, rfl, rfl, SqL.of h1, m2, _, _, rfl, rfl, ?_⟩
        have e : decide (((KM.order r (h : Int)).idxOf x : Int) < ((KM.order r (h : Int)).idxOf y : Int)) = decide ((KM.order r (h : Int)).idxOf x < (KM.order r (h : Int)).idxOf y) := by
          by_cases z : (KM.order r (h : Int)).idxOf x < (KM.order r (h : Int)).idxOf y
          · rw [decide_eq_true z, decide_eq_true (by omega)]
          · rw [decide_eq_false z, decide_eq_false (by omega)]
        rw [← e] at q
        exact q
end
end K02

set_option Elab.async false
set_option linter.all false
set_option maxRecDepth 100000
set_option maxHeartbeats 4000000
namespace K02
open PySem L2 KS
section
variable {P : Program} {w : World} {K : PySem.W.Frag} {mg : Str → Option Value} {base : Heap} {f : Addr} {fd : FuncData}
abbrev nPDealt : List Str := ["wishes", "houses", "rings", "ring", "holder", "looked_to"]
theorem scPDealt : FnScope nPDealt ["wishes"] (defScope sPDealt) := ⟨rfl, rfl, rfl, by decide +kernel, rfl, by decide +kernel, by decide +kernel⟩
theorem ok_pdealt (F : Fun K "dealt" "dealt" sPDealt f fd) (T : Own K mg) (A1 : Fn P w K mg base "rounds" ["wishes"] 3 spRounds) : FnOk P w K mg base CX0 4 f fd ["wishes"] spDealt := by
  obtain ⟨f1, fd1, G1, m1, k1, b1⟩ := A1
  refine F.ok scPDealt (fun vs H Q E h => ?_) (fun cdv A outer s H vs Q E hr h => ?_)
  · obtain ⟨a, as, rs, rfl, _⟩ := h
    rfl
  · obtain ⟨a, as, rs, rfl, R, wf, hn60, q⟩ := h
    have nd := scPDealt.nd
    refine ⟨_, (pss_cons (ps_set (i := 1) nd rfl (Or.inl rfl) (pe_callTy (call_list_rng rfl) (by rfl) T.list PyProof.Rows.boot_list (pa_cons (pe_range1 (by rfl) T.range (pa_cons (pe_callB call_len_seq (by rfl) T.len PySem.boot_len (pa_cons (pv 0) pa_nil)) pa_nil)) pa_nil)))
 (pss_cons (ps_for PassesOwn.never rfl (pi_list (pe_call G1 hr (by rfl) m1 k1 b1 .nil pass0 (pa_cons (pv 0) pa_nil))) (pg_name (i := 2) nd rfl (Or.inl rfl))
 (pss_one (ps_for PassesOwn.never rfl (pi_list (pv 2)) (pg_name (i := 3) nd rfl (Or.inl rfl))
 (pss_one (ps_for PassesOwn.never rfl (pi_zip (by rfl) T.zip (pa_cons (pv 3) (pa_cons (pe_op op_cat (pe_slice sl_list (pv 3) (po_some pe_int) po_none) (pe_slice sl_list (pv 3) po_none (po_some pe_int))) pa_nil))) (pg_tup rfl (pgs_cons (pg_name (i := 4) nd rfl (Or.inl rfl)) (pgs_cons (pg_name (i := 5) nd rfl (Or.inl rfl)) pgs_nil)))
 (pss_one (ps_asg (pv 5) (pg_sub (pv 1) (pv 4) set_list))))))))
 (pss_one (ps_ret (pv 1))))), ?_⟩
    have el : (((refs as).length : Nat) : Int) = (rs.length : Int) := by rw [List.length_map, R.len]
    -- houses = list(range(len(wishes)))
    refine ⟨_, rfl, _, _, rfl, .inl (SqL.of R.top), _, rfl, fun p0 hp0 => ?_⟩
    rw [el]
    have s0 : Same H (upd H p0 (.rng 0 (rs.length : Int))) := Same.upd (Same.refl H) hp0
    refine ⟨p0, rs.length, rfl, upd_same, by omega, fun hs hhs => ?_⟩
    have hhs0 : H hs = none := s0.free hhs
    have s1 : Same H (upd (upd H p0 (.rng 0 (rs.length : Int))) hs (.lst ((L2.upTo rs.length).map V.int))) := Same.upd s0 hhs0
    have h1 : upd (upd H p0 (.rng 0 (rs.length : Int))) hs (.lst ((L2.upTo rs.length).map V.int)) hs = some (.lst (nats (List.range rs.length))) := by rw [upd_same, upTo_natL]
    generalize upd (upd H p0 (.rng 0 (rs.length : Int))) hs (.lst ((L2.upTo rs.length).map V.int)) = H1 at s1 h1
    -- for rings in rounds(wishes)
    refine ⟨_, rfl, a, as, rs, rfl, R.same s1, wf, hn60, fun b bs gs H2 s2 R2 A => ?_⟩
    have hh2 : H2 hs = some (.lst (nats (List.range rs.length))) := s2 _ _ h1
    have s02 : Same H H2 := s1.trans s2
    obtain ⟨ds, D, hds⟩ := KM.DealOf.of_rounds A
    have dl : ds.length = rs.length := D.1
    have mem := KM.rounds_mem gs _ A
    refine ⟨b, rfl, ⟨_, SqL.of R2.top⟩, for_list (K := K) (a := b) (xs := refs bs) (fun i σ H3 => ∃ (o2 o3 o4 o5 : Option V) (es : List Nat), σ = [some (.ref a), some (.ref hs), o2, o3, o4, o5] ∧ Same H H3 ∧ Rd3n H1 H3 b bs gs ∧ H3 hs = some (.lst (nats es)) ∧ es.length = ds.length ∧ ∀ g ∈ gs.take i, ∀ r ∈ g, ∀ x ∈ r, es.getD x 0 = ds.getD x 0)
      ⟨none, none, none, none, _, rfl, s02, R2, hh2, by simp [dl], by simp⟩ (fun i σ H3 _ ⟨_, _, _, _, _, _, _, R3, _⟩ => SqL.of R3.top) ?_ ?_⟩
    · rintro i x σ H3 hx ⟨o2, o3, o4, o5, es, rfl, s3, R3, h3, el3, fill⟩
      obtain ⟨b', rfl, hb'⟩ := refs_at hx
      obtain ⟨g, cs, hg, q2, nb', nc'⟩ := R3.row_of hb'
      have hgm : g ∈ gs := List.mem_of_getElem? hg
      have keepU : ∀ {H' : Hp} {o : HO}, Rd2 H' b' cs (g.map natL) → Rd2 (upd H' hs o) b' cs (g.map natL) := fun {H' o} z =>
        ⟨by rw [upd_ne (ne_of_none h1 nb').symm]; exact z.top, z.len, fun j c r e1 e2 => by rw [upd_ne (ne_of_none h1 (nc' c (List.mem_of_getElem? e1))).symm]; exact z.row j c r e1 e2⟩
      -- for ring in rings
      refine ⟨_, rfl, b', rfl, ⟨_, SqL.of q2.top⟩, for_list (K := K) (a := b') (xs := refs cs) (fun j σ H4 => ∃ (o3 o4 o5 : Option V) (es : List Nat), σ = [some (.ref a), some (.ref hs), some (.ref b'), o3, o4, o5] ∧ Same H H4 ∧ Rd3n H1 H4 b bs gs ∧ Rd2 H4 b' cs (g.map natL) ∧ H4 hs = some (.lst (nats es)) ∧ es.length = ds.length ∧
          (∀ g ∈ gs.take i, ∀ r ∈ g, ∀ x ∈ r, es.getD x 0 = ds.getD x 0) ∧ ∀ r ∈ g.take j, ∀ x ∈ r, es.getD x 0 = ds.getD x 0)
        ⟨_, _, _, es, rfl, s3, R3, q2, h3, el3, fill, by simp⟩ (fun j σ H4 _ ⟨_, _, _, _, _, _, _, z, _⟩ => SqL.of z.top) ?_ ?_⟩
      · rintro j y σ H4 hy ⟨o3', o4', o5', es4, rfl, s4, R4, q4, h4, el4, fill4, fillg⟩
        obtain ⟨c, rfl, hc⟩ := refs_at hy
        obtain ⟨r, hr', hcr⟩ := q4.nat_row hc
        have hrm : r ∈ g := List.mem_of_getElem? hr'
        obtain ⟨_, hm⟩ := mem g hgm
        obtain ⟨hrne, hrt⟩ := hm r hrm
        have hrlt : ∀ x ∈ r, x < ds.length := fun x hx => by rw [dl]; exact List.mem_range.mp (hrt x hx)
        have rpos : 0 < r.length := List.length_pos_iff.mpr hrne
        have rnd := KM.rounds_nd gs _ A g hgm r hrm
        have rlen : r.length ≤ 60 := by
          have := KM.len_le_of_subset rnd hrt
          rw [List.length_range] at this
          omega
        have hcn : H1 c = none := nc' c (List.mem_of_getElem? hc)
        -- zip(ring, ring[1:] + ring[:1])
        refine ⟨_, rfl, _, rfl, _, rfl, c, _, rfl, SqL.of hcr, fun p1 hp1 => ?_⟩
        rw [cut_tail, nats_drop]
        have a1 : Same H4 (upd H4 p1 (.lst (nats (r.drop 1)))) := Same.upd (Same.refl _) hp1
        have f1 : upd H4 p1 (.lst (nats (r.drop 1))) p1 = some (.lst (nats (r.drop 1))) := upd_same
        generalize upd H4 p1 (.lst (nats (r.drop 1))) = G1 at a1 f1
        refine ⟨_, rfl, _, rfl, c, _, rfl, SqL.of (a1 _ _ hcr), fun p2 hp2 => ?_⟩
        rw [cut_head, nats_take]
        have a2 : Same G1 (upd G1 p2 (.lst (nats (r.take 1)))) := Same.upd (Same.refl _) hp2
        have f2 : upd G1 p2 (.lst (nats (r.take 1))) p2 = some (.lst (nats (r.take 1))) := upd_same
        generalize upd G1 p2 (.lst (nats (r.take 1))) = G2 at a2 f2
        refine ⟨p1, p2, _, _, rfl, rfl, a2 _ _ f1, f2, ?_, fun p3 hp3 => ?_⟩
        · rw [len_nats, len_nats, List.length_drop, List.length_take]
          exact small_line (by omega)
        rw [nats_app]
        have a3 : Same G2 (upd G2 p3 (.lst (nats (r.drop 1 ++ r.take 1)))) := Same.upd (Same.refl _) hp3
        have f3 : upd G2 p3 (.lst (nats (r.drop 1 ++ r.take 1))) p3 = some (.lst (nats (r.drop 1 ++ r.take 1))) := upd_same
        generalize upd G2 p3 (.lst (nats (r.drop 1 ++ r.take 1))) = G3 at a3 f3
        have s43 : Same H4 G3 := (a1.trans a2).trans a3
        have sH3 : Same H G3 := s4.trans s43
        have hcne : c ≠ hs := (ne_of_none h1 hcn).symm
        have hp3s : p3 ≠ hs := (ne_of_none ((a1.trans a2) _ _ h4) hp3).symm
        have rl2 : (r.drop 1 ++ r.take 1).length = r.length := (rot_perm r).length_eq
        have nx : ∀ k (hk : k < r.length), (r.drop 1 ++ r.take 1).getD k 0 = ds.getD r[k] 0 := fun k hk => by
          have z := KM.rot_get (l1 := r.take 1) (l2 := r.drop 1) (k := k) (by rw [rl2]; exact hk)
          have e1 : (r.take 1).length = 1 := by
            rw [List.length_take]
            omega
          rw [z, hds g hgm r hrm k hk, List.take_append_drop, e1]
        refine ⟨c, p3, rfl, ⟨_, SqL.of (s43 _ _ hcr)⟩, ⟨_, SqL.of f3⟩, for_zip (K := K) (a := c) (b := p3) (xs := nats r) (ys := nats (r.drop 1 ++ r.take 1)) (fun k σ H5 => ∃ (o4 o5 : Option V) (es : List Nat), σ = [some (.ref a), some (.ref hs), some (.ref b'), some (.ref c), o4, o5] ∧ Same H H5 ∧ Rd3n H1 H5 b bs gs ∧ Rd2 H5 b' cs (g.map natL) ∧ H5 c = some (.lst (nats r)) ∧ H5 p3 = some (.lst (nats (r.drop 1 ++ r.take 1))) ∧ H5 hs = some (.lst (nats es)) ∧ es.length = ds.length ∧
            (∀ g ∈ gs.take i, ∀ r ∈ g, ∀ x ∈ r, es.getD x 0 = ds.getD x 0) ∧ (∀ r ∈ g.take j, ∀ x ∈ r, es.getD x 0 = ds.getD x 0) ∧ ∀ x ∈ r.take k, es.getD x 0 = ds.getD x 0)
          (by rw [len_nats, len_nats, rl2]) ⟨_, _, es4, rfl, sH3, R4.same s43, q4.same s43, s43 _ _ hcr, f3, s43 _ _ h4, el4, fill4, fillg, by simp⟩ (fun k σ H5 _ ⟨_, _, _, _, _, _, _, z1, z2, _⟩ => ⟨SqL.of z1, SqL.of z2⟩) ?_ ?_⟩
        · rintro k x y Tp σ H5 hx' hy' ⟨o4'', o5'', es5, rfl, s5, R5, q5, c5, p5, h5, el5, fl1, fl2, fl3⟩ hT
          obtain ⟨n, rfl, hn⟩ := nats_at hx'
          obtain ⟨v, rfl, hv⟩ := nats_at hy'
          obtain ⟨hk, en⟩ := List.getElem?_eq_some_iff.mp hn
          have ev : v = ds.getD n 0 := by
            have := nx k hk
            rw [en] at this
            rw [← this, List.getD_eq_getElem?_getD, hv]
            rfl
          have hnm : n ∈ r := List.mem_of_getElem? hn
          have b1 : Same H5 (upd H5 Tp (.tup [.int (n : Int), .int (v : Int)])) := Same.upd (Same.refl _) hT
          refine ⟨Tp, _, rfl, SqT.of upd_same, rfl, _, _, rfl, _, _, rfl, rfl, ?_⟩
          generalize upd H5 Tp (.tup [.int (n : Int), .int (v : Int)]) = H6 at b1
          have h6 := b1 _ _ h5
          -- houses[holder] = looked_to
          refine ⟨_, rfl, _, rfl, _, rfl, hs, _, _, n, rfl, rfl, h6, ?_, ?_⟩
          · rw [len_nats, el5]
            exact ixN_nat (hrlt n hnm)
          rw [nats_set]
          have fl : ∀ y, (es5.getD y 0 = ds.getD y 0 ∨ y = n) → y < ds.length → (es5.set n v).getD y 0 = ds.getD y 0 := KM.set_fill el5 ev (D := fun y => es5.getD y 0 = ds.getD y 0) fun _ z => z
          have lt1 : ∀ g ∈ gs.take i, ∀ r ∈ g, ∀ x ∈ r, x < ds.length := fun g' hg' r' hr' x hx => by
            rw [dl]
            exact List.mem_range.mp (((mem g' (List.mem_of_mem_take hg')).2 r' hr').2 x hx)
          refine ⟨_, _, es5.set n v, rfl, Same.upd (s5.trans b1) hhs0, (R5.same b1).upd h1, keepU (q5.same b1), by rw [upd_ne hcne]; exact b1 _ _ c5, by rw [upd_ne hp3s]; exact b1 _ _ p5, upd_same, by simp [el5], fun g' hg' r' hr' x hx => ?_, fun r' hr' x hx => ?_, fun x hx => ?_⟩
          · exact fl x (.inl (fl1 g' hg' r' hr' x hx)) (lt1 g' hg' r' hr' x hx)
          · exact fl x (.inl (fl2 r' hr' x hx)) (by rw [dl]; exact List.mem_range.mp ((hm r' (List.mem_of_mem_take hr')).2 x hx))
          · rw [take_snoc hn] at hx
            rcases List.mem_append.mp hx with z | z
            · exact fl x (.inl (fl3 x z)) (hrlt x (List.mem_of_mem_take z))
            · rw [List.mem_singleton.mp z]
              exact fl n (.inr rfl) (hrlt n hnm)
        · rintro σ H5 ⟨o4'', o5'', es5, rfl, s5, R5, q5, c5, p5, h5, el5, fl1, fl2, fl3⟩
          rw [len_nats, List.take_length] at fl3
          refine ⟨_, _, _, es5, rfl, s5, R5, q5, h5, el5, fl1, fun r' hr'' x hx => ?_⟩
          rw [take_snoc hr'] at hr''
          rcases List.mem_append.mp hr'' with z | z
          · exact fl2 r' z x hx
          · rw [List.mem_singleton.mp z] at hx
            exact fl3 x hx
      · rintro σ H4 ⟨o3', o4', o5', es4, rfl, s4, R4, q4, h4, el4, fill4, fillg⟩
        have hcl : cs.length = g.length := by rw [q2.len, List.length_map]
        rw [List.length_map, hcl, List.take_length] at fillg
        refine ⟨_, _, _, _, es4, rfl, s4, R4, h4, el4, fun g' hg' => ?_⟩
        rw [take_snoc hg] at hg'
        rcases List.mem_append.mp hg' with z | z
        · exact fill4 g' z
        · rw [List.mem_singleton.mp z]
          exact fillg
    · rintro σ H3 ⟨o2, o3, o4, o5, es, rfl, s3, R3, h3, el3, fill⟩
      rw [List.length_map, R3.len, List.take_length] at fill
      have : es = ds := KM.fill_all el3 fun x hx => by
        obtain ⟨g, hg, r, hr', hxr⟩ := KM.rounds_cover gs _ A x (List.mem_range.mpr (by omega))
        exact fill g hg r hr' x hxr
      subst this
      exact ⟨_, rfl, q hs es H3 s3 h3 hhs0 D⟩
end
end K02

set_option Elab.async false
set_option linter.all false
set_option maxRecDepth 100000
set_option maxHeartbeats 4000000
namespace K02
open PySem L2 KS
section
variable {P : Program} {w : World} {K : PySem.W.Frag} {mg : Str → Option Value} {base : Heap} {f : Addr} {fd : FuncData}
abbrev nPGladder : List Str := ["wishes", "houses", "others"]
theorem scPGladder : FnScope nPGladder ["wishes", "houses", "others"] (defScope sPGladder) := ⟨rfl, rfl, rfl, by decide +kernel, rfl, by decide +kernel, by decide +kernel⟩
theorem ok_pgladder (F : Fun K "gladder" "gladder" sPGladder f fd) (T : Own K mg) (A1 : Fn P w K mg base "refuse_wrong" ["wishes"] 1 spRefuse) (A2 : Fn P w K mg base "rather" ["wishes", "holder", "one", "other"] 2 spRather) : FnOk P w K mg base CX0 3 f fd ["wishes", "houses", "others"] (spGladder K) := by
  obtain ⟨f1, fd1, G1, m1, k1, b1⟩ := A1
  obtain ⟨f2, fd2, G2, m2, k2, b2⟩ := A2
  refine F.ok scPGladder (fun vs H Q E h => ?_) (fun cdv A outer s H vs Q E hr h => ?_)
  · obtain ⟨a, h, o, as, rs, hs, os, rfl, _⟩ := h
    rfl
  · obtain ⟨a, hh, oo, as, rs, hs, os, rfl, R, wf, hn, Sh, So, ph, po, q⟩ := h
    have nd := scPGladder.nd
    have hr1 := hr.mono (j := 1) (by decide)
    refine ⟨_, (pss_cons (ps_expr (pe_call G1 hr1 (by rfl) m1 k1 b1 .nil pass0 (pa_cons (pv 0) pa_nil)))
 (pss_one (ps_ret (pe_lc (fr := ["wishes", "others", "houses"]) (ix := [0, 2, 1]) (tt := tB (tCall spRather [] E0 (tCons (tVar 1) (tCons (tVar 0) (tCons (tOp (rIxL K) (tVar 2) (tVar 0)) (tCons (tOp (rIxL K) (tVar 3) (tVar 0)) tNil)))))) (te := tVar 0)  rfl (compScope (defScope sPGladder) nPGladder rfl rfl (by decide +kernel)) (pi_range1 (by rfl) T.range (pa_cons (pe_callB call_len_seq (by rfl) T.len PySem.boot_len (pa_cons (pv 0) pa_nil)) pa_nil)) (fun _ _ _ _ _ => pifs_one (pt_val (pe_call G2 hr (by rfl) m2 k2 b2 .nil pass0 (pa_cons (pv 1) (pa_cons (pv 0) (pa_cons (pe_ix ix_list (pv 2) (pv 0) (fun _ _ => rfl)) (pa_cons (pe_ix ix_list (pv 3) (pv 0) (fun _ _ => rfl)) pa_nil))))))) (fun _ _ _ _ _ => (pv 0)))))), ?_⟩
    refine ⟨_, rfl, a, as, rs, rfl, R, wf, by omega, fun H1 s1 => ?_⟩
    have el : (((refs as).length : Nat) : Int) = (rs.length : Int) := by rw [List.length_map, R.len]
    have eN : (((refs as).length : Nat) : Int).toNat = rs.length := by rw [el]; simp
    have hsl : hs.length = rs.length := by rw [ph.length_eq, List.length_range]
    have osl : os.length = rs.length := by rw [po.length_eq, List.length_range]
    refine ⟨_, rfl, _, _, rfl, .inl (SqL.of (s1 _ _ R.top)), _, rfl, by rw [el]; omega, by rw [el]; omega, fun acc hacc => lc_range (fun i ys H' => ys = nats ((List.range i).filter fun k => KM.ratherV (rs.getD k []) (k : Int) ((os.getD k 0 : Nat) : Int) ((hs.getD k 0 : Nat) : Int)) ∧ Same H1 H' ∧ H' acc = some (.lst ys))
      ⟨rfl, Same.upd (Same.refl H1) hacc, upd_same⟩ (fun i ys H' _ ⟨_, _, h⟩ => h) ?_ ?_⟩
    · rintro i ys H' hi ⟨rfl, sm, hc⟩
      rw [eN] at hi
      have ez : (0 : Int) + (i : Int) = (i : Int) := by omega
      rw [ez]
      have sH : Same H H' := s1.trans sm
      have hri : rs[i]? = some rs[i] := by simp [hi]
      have eri : rs.getD i [] = rs[i] := by simp [hi]
      have eo : atI (nats os) (i : Int) = some (V.int ((os.getD i 0 : Nat) : Int)) := atI_nats (by simp [show i < os.length by omega])
      have eh : atI (nats hs) (i : Int) = some (V.int ((hs.getD i 0 : Nat) : Int)) := atI_nats (by simp [show i < hs.length by omega])
      refine ⟨_, rfl, _, rfl, _, rfl, _, rfl, _, _, _, _, rfl, rfl, sH.seq So, eo, _, rfl, _, rfl, _, _, _, _, rfl, rfl, sH.seq Sh, eh, a, as, rs, i, rs[i], _, _, rfl, R.same sH, hri, ?_, fun H2 s2 => ⟨_, rfl, ?_⟩⟩
      · have := wf.short rs[i] (List.getElem_mem hi)
        omega
      rw [← eri]
      refine ite2 (fun hz => ?_) (fun hz => ?_)
      · refine ⟨_, rfl, s2 _ _ hc, ?_, ?_, Same.upd (sm.trans s2) hacc, upd_same⟩
        · rw [len_nats]
          refine small1000 (Nat.le_trans (List.length_filter_le _ _) ?_)
          rw [List.length_range]
          omega
        · rw [nats_snoc, filter_snoc_pos (by exact hz)]
      · refine ⟨?_, sm.trans s2, s2 _ _ hc⟩
        rw [filter_snoc_neg (by simpa using hz)]
    · rintro ys H' ⟨rfl, sm, hc⟩
      rw [eN] at hc
      exact q acc H' (s1.trans sm) hc (s1.free hacc)
end
end K02

set_option Elab.async false
set_option linter.all false
set_option maxRecDepth 100000
set_option maxHeartbeats 4000000
namespace K02
open PySem L2 KS
section
variable {P : Program} {w : World} {K : PySem.W.Frag} {mg : Str → Option Value} {base : Heap} {f : Addr} {fd : FuncData}
abbrev nPUndoneBy : List Str := ["wishes", "houses", "group", "among", "somebody_gains", "holder", "house"]
theorem scPUndoneBy : FnScope nPUndoneBy ["wishes", "houses", "group", "among"] (defScope sPUndoneBy) := ⟨rfl, rfl, rfl, by decide +kernel, rfl, by decide +kernel, by decide +kernel⟩
theorem ok_pundoneby (F : Fun K "undone_by" "undone_by" sPUndoneBy f fd) (T : Own K mg) (A1 : Fn P w K mg base "refuse_wrong" ["wishes"] 1 spRefuse) (A2 : Fn P w K mg base "rather" ["wishes", "holder", "one", "other"] 2 spRather) : FnOk P w K mg base CX0 3 f fd ["wishes", "houses", "group", "among"] (spUndone K) := by
  obtain ⟨f1, fd1, G1, m1, k1, b1⟩ := A1
  obtain ⟨f2, fd2, G2, m2, k2, b2⟩ := A2
  refine F.ok scPUndoneBy (fun vs H Q E h => ?_) (fun cdv A outer s H vs Q E hr h => ?_)
  · obtain ⟨a, h, g, m, as, rs, hs, gs, es, rfl, _⟩ := h
    rfl
  · obtain ⟨a, hh, gg, mm, as, rs, hs, gs, es, rfl, R, wf, hn, Sh, Sg, Sm, ph, gnd, glt, pm, q⟩ := h
    have nd := scPUndoneBy.nd
    have hr1 := hr.mono (j := 1) (by decide)
    refine ⟨_, (pss_cons (ps_expr (pe_call G1 hr1 (by rfl) m1 k1 b1 .nil pass0 (pa_cons (pv 0) pa_nil)))
 (pss_cons (ps_set (i := 4) nd rfl (Or.inl rfl) pe_bl)
 (pss_cons (ps_for PassesOwn.never rfl (pi_zip (by rfl) T.zip (pa_cons (pv 2) (pa_cons (pv 3) pa_nil))) (pg_tup rfl (pgs_cons (pg_name (i := 5) nd rfl (Or.inl rfl)) (pgs_cons (pg_name (i := 6) nd rfl (Or.inl rfl)) pgs_nil)))
 (pss_cons (ps_if (pt_val (pe_call G2 hr (by rfl) m2 k2 b2 .nil pass0 (pa_cons (pv 0) (pa_cons (pv 5) (pa_cons (pe_ix ix_list (pv 1) (pv 5) (fun _ _ => rfl)) (pa_cons (pv 6) pa_nil))))))
 (pss_one (ps_ret pe_bl)) pss_nil)
 (pss_one (ps_if (pt_val (pe_call G2 hr (by rfl) m2 k2 b2 .nil pass0 (pa_cons (pv 0) (pa_cons (pv 5) (pa_cons (pv 6) (pa_cons (pe_ix ix_list (pv 1) (pv 5) (fun _ _ => rfl)) pa_nil))))))
 (pss_one (ps_set (i := 4) nd rfl (Or.inl rfl) pe_bl)) pss_nil))))
 (pss_one (ps_ret (pv 4)))))), ?_⟩
    refine ⟨_, rfl, a, as, rs, rfl, R, wf, by omega, fun H1 s1 => ?_⟩
    have hsl : hs.length = rs.length := by rw [ph.length_eq, List.length_range]
    have eml := pm.length_eq
    let less : Nat → Bool := fun j => KM.ratherV (rs.getD (gs.getD j 0) []) ((gs.getD j 0 : Nat) : Int) ((hs.getD (gs.getD j 0) 0 : Nat) : Int) ((es.getD j 0 : Nat) : Int)
    let more : Nat → Bool := fun j => KM.ratherV (rs.getD (gs.getD j 0) []) ((gs.getD j 0 : Nat) : Int) ((es.getD j 0 : Nat) : Int) ((hs.getD (gs.getD j 0) 0 : Nat) : Int)
    have uV : undoneV rs hs gs es = (((List.range gs.length).all fun j => !less j) && (List.range gs.length).any more) := rfl
    -- for holder, house in zip(group, among)
    refine ⟨_, rfl, _, rfl, gg, mm, rfl, ⟨_, s1.seq Sg⟩, ⟨_, s1.seq Sm⟩, for_zip (K := K) (a := gg) (b := mm) (xs := nats gs) (ys := nats es) (fun k σ H2 => ∃ (o5 o6 : Option V), σ = [some (.ref a), some (.ref hh), some (.ref gg), some (.ref mm), some (.bl ((List.range k).any more)), o5, o6] ∧ Same H H2 ∧ ((List.range k).all fun j => !less j) = true)
      (by rw [len_nats, len_nats, eml]) ⟨none, none, rfl, s1, rfl⟩ (fun k σ H2 _ ⟨_, _, _, s2, _⟩ => ⟨s2.seq Sg, s2.seq Sm⟩) ?_ ?_⟩
    · rintro k x y Tp σ H2 hx hy ⟨o5, o6, rfl, s2, al⟩ hT
      obtain ⟨n, rfl, hn'⟩ := nats_at hx
      obtain ⟨v, rfl, hv⟩ := nats_at hy
      have hnr : n < rs.length := glt n (List.mem_of_getElem? hn')
      have s3 : Same H (upd H2 Tp (.tup [.int (n : Int), .int (v : Int)])) := Same.upd s2 (s2.free hT)
      refine ⟨Tp, _, rfl, SqT.of upd_same, rfl, _, _, rfl, _, _, rfl, rfl, ?_⟩
      generalize upd H2 Tp (.tup [.int (n : Int), .int (v : Int)]) = H3 at s3
      have hri : rs[n]? = some rs[n] := by simp [hnr]
      have eri : rs.getD n [] = rs[n] := by simp [hnr]
      have eg : gs.getD k 0 = n := by simp [List.getD_eq_getElem?_getD, hn']
      have ee : es.getD k 0 = v := by simp [List.getD_eq_getElem?_getD, hv]
      have eh : atI (nats hs) (n : Int) = some (V.int ((hs.getD n 0 : Nat) : Int)) := atI_nats (by simp [show n < hs.length by omega])
      have sh := wf.short rs[n] (List.getElem_mem hnr)
      have el : less k = KM.ratherV rs[n] (n : Int) ((hs.getD n 0 : Nat) : Int) (v : Int) := by
        show KM.ratherV (rs.getD (gs.getD k 0) []) ((gs.getD k 0 : Nat) : Int) ((hs.getD (gs.getD k 0) 0 : Nat) : Int) ((es.getD k 0 : Nat) : Int) = _
        rw [eg, ee, eri]
      have em : more k = KM.ratherV rs[n] (n : Int) (v : Int) ((hs.getD n 0 : Nat) : Int) := by
        show KM.ratherV (rs.getD (gs.getD k 0) []) ((gs.getD k 0 : Nat) : Int) ((es.getD k 0 : Nat) : Int) ((hs.getD (gs.getD k 0) 0 : Nat) : Int) = _
        rw [eg, ee, eri]
      have hkl : k < gs.length := (List.getElem?_eq_some_iff.mp hn').1
      -- if rather(wishes, holder, houses[holder], house)
      refine ⟨_, rfl, _, rfl, _, rfl, _, rfl, _, _, _, _, rfl, rfl, s3.seq Sh, eh, _, rfl, a, as, rs, n, rs[n], _, _, rfl, R.same s3, hri, by omega, fun H4 s4 => ⟨_, rfl, ?_⟩⟩
      have s34 := s3.trans s4
      rw [← el]
      refine ite2 (fun hz => ?_) (fun hz => ?_)
      · have : undoneV rs hs gs es = false := by
          rw [uV]
          have : ((List.range gs.length).all fun j => !less j) = false := by
            rw [Bool.eq_false_iff]
            intro h
            have := List.all_eq_true.mp h k (List.mem_range.mpr hkl)
            rw [hz] at this
            cases this
          rw [this, Bool.false_and]
        have q' := q H4 s34
        rw [this] at q'
        exact q'
      · have hz : less k = false := by simpa using hz
        have al' : ((List.range (k + 1)).all fun j => !less j) = true := by
          rw [all_snoc, al, hz]
          rfl
        -- if rather(wishes, holder, house, houses[holder])
        refine ⟨_, rfl, _, rfl, _, rfl, _, rfl, _, rfl, _, _, _, _, rfl, rfl, s34.seq Sh, eh, a, as, rs, n, rs[n], _, _, rfl, R.same s34, hri, by omega, fun H5 s5 => ⟨_, rfl, ?_⟩⟩
        rw [← em]
        refine ite2 (fun hy => ?_) (fun hy => ?_)
        · refine ⟨some (.int (n : Int)), some (.int (v : Int)), ?_, s34.trans s5, al'⟩
          have : (List.range (k + 1)).any more = true := by rw [any_snoc, hy, Bool.or_true]
          rw [this]
          rfl
        · have hy : more k = false := by simpa using hy
          refine ⟨some (.int (n : Int)), some (.int (v : Int)), ?_, s34.trans s5, al'⟩
          have : (List.range (k + 1)).any more = (List.range k).any more := by rw [any_snoc, hy, Bool.or_false]
          rw [this]
          rfl
    · rintro σ H2 ⟨o5, o6, rfl, s2, al⟩
      rw [len_nats] at al
      have q' := q H2 s2
      rw [uV, al, Bool.true_and] at q'
      rw [len_nats]
      exact ⟨_, rfl, q'⟩
end
end K02

set_option Elab.async false
set_option linter.all false
set_option maxRecDepth 100000
set_option maxHeartbeats 4000000
namespace K02
open PySem L2 KS
section
variable {P : Program} {w : World} {K : PySem.W.Frag} {mg : Str → Option Value} {base : Heap} {f : Addr} {fd : FuncData}
theorem scWhole : FnScope ["_law_found"] ["_law_found"] (defScope sWhole) := ⟨rfl, rfl, rfl, by decide +kernel, rfl, by decide +kernel, by decide +kernel⟩
theorem ok_whole (F : Fun K "_law_whole" "_law_whole" sWhole f fd) (T : Own K mg) : FnOk P w K mg base CX0 1 f fd ["_law_found"] spWhole := by
  refine F.ok scWhole (fun vs H Q E h => ?_) (fun cdv A outer s H vs Q E hr h => ?_)
  · obtain ⟨n, rfl, _⟩ := h
    rfl
  · obtain ⟨n, rfl, k⟩ := h
    refine ⟨_, pss_one (ps_ret (pe_and (pe_callB call_isinst (by rfl) T.isinstance PyProof.Rows.boot_isinstance (pa_cons (pv 0) (pa_cons (pe_bltn (v := .ty "int") (by rfl) T.int PyProof.Rows.boot_int rfl) pa_nil)))
      (pe_one (pe_not (pe_callB call_isinst (by rfl) T.isinstance PyProof.Rows.boot_isinstance (pa_cons (pv 0) (pa_cons (pe_bltn (v := .ty "bool") (by rfl) T.bool PyProof.Rows.boot_bool rfl) pa_nil))))))), ?_⟩
    refine ⟨_, rfl, _, _, _, _, rfl, TyOf.int n, T.i_int, _, rfl, ?_⟩
    refine iteT ?_
    exact ⟨_, rfl, _, _, _, _, rfl, TyOf.int n, T.i_bool, _, rfl, k⟩
end
end K02

set_option Elab.async false
set_option linter.all false
set_option maxRecDepth 100000
set_option maxHeartbeats 4000000
namespace K02
open PySem L2 KS
section
variable {P : Program} {w : World} {K : PySem.W.Frag} {mg : Str → Option Value} {base : Heap} {f : Addr} {fd : FuncData}
theorem scAt : FnScope ["_law_script", "_law_k"] ["_law_script", "_law_k"] (defScope sAt) := ⟨rfl, rfl, rfl, by decide +kernel, rfl, by decide +kernel, by decide +kernel⟩
theorem ok_at (F : Fun K "_law_at" "_law_at" sAt f fd) (T : Own K mg) : FnOk P w K mg base CX0 1 f fd ["_law_script", "_law_k"] (spAt K) := by
  refine F.ok scAt (fun vs H Q E h => ?_) (fun cdv A outer s H vs Q E hr h => ?_)
  · obtain ⟨a, ns, k, rfl, _⟩ := h
    rfl
  · obtain ⟨a, ns, k, rfl, hS, q⟩ := h
    refine ⟨_, pss_cons (ps_if (pt_cmpR op_lt (pv 1) (pe_callB call_len_seq (by rfl) T.len PySem.boot_len (pa_cons (pv 0) pa_nil)) (nomark _)) (pss_one (ps_ret (pe_ix ix_list (pv 0) (pv 1) (fun _ _ => rfl)))) pss_nil)
      (pss_one (ps_ret pe_int)), ?_⟩
    refine ⟨_, rfl, _, rfl, _, _, rfl, .inl hS, _, _, rfl, rfl, _, rfl, ?_⟩
    refine ite2 (fun h => ?_) (fun h => ?_)
    · have h := of_decide_eq_true h
      rw [len_ints] at h
      have hk : k < ns.length := by omega
      refine ⟨_, rfl, _, rfl, _, _, _, _, rfl, rfl, hS, atI_ints (n := ns[k]) (by simp [hk]), ?_⟩
      have e : ns.getD k 0 = ns[k] := by simp [hk]
      rw [e] at q
      exact q
    · have h : ¬ ((k : Int) < ((nums ns).length : Int)) := fun z => h (decide_eq_true z)
      rw [len_ints] at h
      have hk : ns.length ≤ k := by omega
      have e : ns.getD k 0 = 0 := by simp [hk]
      rw [e] at q
      exact q
end
end K02

set_option Elab.async false
set_option linter.all false
set_option maxRecDepth 100000
set_option maxHeartbeats 4000000
namespace K02
open PySem L2 KS
section
variable {P : Program} {w : World} {K : PySem.W.Frag} {mg : Str → Option Value} {base : Heap} {f : Addr} {fd : FuncData}
theorem scRoom : FnScope ["_law_script", "_law_most", "_law_bound"] ["_law_script", "_law_most", "_law_bound"] (defScope sRoom) := ⟨rfl, rfl, rfl, by decide +kernel, rfl, by decide +kernel, by decide +kernel⟩
theorem ok_room (F : Fun K "_law_room" "_law_room" sRoom f fd) (T : Own K mg) : FnOk P w K mg base CX0 1 f fd ["_law_script", "_law_most", "_law_bound"] (spRoom K) := by
  refine F.ok scRoom (fun vs H Q E h => ?_) (fun cdv A outer s H vs Q E hr h => ?_)
  · obtain ⟨a, ns, m, b, rfl, _⟩ := h
    rfl
  · obtain ⟨a, ns, m, b, rfl, hS, hl, q⟩ := h
    refine ⟨_, pss_cons (ps_if (pt_cmpR op_gt (pe_callB call_len_seq (by rfl) T.len PySem.boot_len (pa_cons (pv 0) pa_nil)) pe_int (nomark _)) (pss_one (ps_ret (pv 2))) pss_nil)
      (pss_one (ps_ret (pv 1))), ?_⟩
    refine ⟨_, rfl, _, _, rfl, .inl hS, _, _, rfl, rfl, _, rfl, ?_⟩
    refine ite2 (fun h => ?_) (fun h => ?_)
    · have h := of_decide_eq_true h
      rw [len_ints] at h
      omega
    · exact ⟨_, rfl, q⟩
end
end K02

set_option Elab.async false
set_option linter.all false
set_option maxRecDepth 100000
set_option maxHeartbeats 4000000
namespace K02
open PySem L2 KS
section
variable {P : Program} {w : World} {K : PySem.W.Frag} {mg : Str → Option Value} {base : Heap} {f : Addr} {fd : FuncData}
abbrev nWished : List Str := ["_law_cells", "_law_count", "_law_rows", "_law_k", "_law_cell", "_law_row", "_law_house"]
theorem scWished : FnScope nWished ["_law_cells", "_law_count"] (defScope sWished) := ⟨rfl, rfl, rfl, by decide +kernel, rfl, by decide +kernel, by decide +kernel⟩
theorem ok_wished (F : Fun K "_law_wished" "_law_wished" sWished f fd) (T : Own K mg) : FnOk P w K mg base CX0 1 f fd ["_law_cells", "_law_count"] (spWished K) := by
  refine F.ok scWished (fun vs H Q E h => ?_) (fun cdv A outer s H vs Q E hr h => ?_)
  · obtain ⟨a, ns, c, rfl, _⟩ := h
    rfl
  · obtain ⟨a, ns, c, rfl, hS, hl, hc, q⟩ := h
    have nd := scWished.nd
    refine ⟨_, pss_cons (ps_setLc (i := 2) (fr := []) (ix := []) nd rfl (Or.inl rfl) rfl (compScope (defScope sWished) nWished rfl rfl (by decide +kernel)) (pi_range1 (by rfl) T.range (pa_cons (pv 1) pa_nil)) (fun _ _ _ _ _ => pifs_nil) (fun _ _ _ _ _ => pe_lst pa_nil))
      (pss_cons (ps_if (pt_cmpR op_eq (pv 1) pe_int (nomark _)) (pss_one (ps_ret (pv 2))) pss_nil)
      (pss_cons (ps_for PassesOwn.never rfl (pi_range1 (by rfl) T.range (pa_cons (pe_callB call_len_seq (by rfl) T.len PySem.boot_len (pa_cons (pv 0) pa_nil)) pa_nil)) (pg_name (i := 3) nd rfl (Or.inl rfl))
        (pss_cons (ps_set (i := 4) nd rfl (Or.inl rfl) (pe_ix ix_list (pv 0) (pv 3) (fun _ _ => rfl)))
        (pss_cons (ps_set (i := 5) nd rfl (Or.inl rfl) (pe_ix ix_list (pv 2) (pe_op op_mod (pe_op op_add (pv 4) (pv 3)) (pv 1)) (fun _ _ => rfl)))
        (pss_cons (ps_set (i := 6) nd rfl (Or.inl rfl) (pe_op op_mod (pe_op op_add (pe_op op_fdiv (pv 4) pe_int) (pe_op op_fdiv (pv 3) (pv 1))) (pv 1)))
        (pss_one (ps_if (pt_cmpR op_notIn_seq (pv 6) (pv 5) (by with_unfolding_all rfl))
          (pss_one (ps_expr (pe_bm PySem.F.plainAttrs_list PySem.F.slot_list_insert PySem.F.type_list_insert mt_insert (pv 5) (pa_cons (pe_op op_mod (pe_op op_add (pe_op op_fdiv (pv 4) pe_int) (pe_op op_fdiv (pv 3) pe_int)) (pe_op op_add (pe_callB call_len_seq (by rfl) T.len PySem.boot_len (pa_cons (pv 5) pa_nil)) pe_int)) (pa_cons (pv 6) pa_nil))))) pss_nil))))))
      (pss_one (ps_ret (pv 2))))), ?_⟩
    -- rows = [[] for k in range(count)]
    refine ⟨_, rfl, _, rfl, by omega, by omega, fun acc hacc => lc_range0 (fun i ys H' => ∃ bs, ys = refs bs ∧ bs.length = i ∧ Same H H' ∧ Rows H' acc bs (List.replicate i []) ∧ New H (acc :: bs)) ?_ ?_ ?_ ?_⟩
    · exact ⟨[], rfl, rfl, Same.upd (Same.refl H) hacc, Rows.nil upd_same, New.cons hacc fun _ z => by cases z⟩
    · rintro i ys H' hi ⟨bs, rfl, hb, sm, R, nw⟩
      exact R.top
    · rintro i ys H' hi ⟨bs, rfl, hb, sm, R, nw⟩
      refine ⟨Nat.zero_le _, fun p hp => ?_⟩
      have hpa := (R.notin hp)
      have h0 : H p = none := sm.free hp
      refine ⟨by rw [upd_ne hpa.1.symm]; exact R.top, ?_, bs ++ [p], by simp [refs], by simp [hb], Same.upd (Same.upd sm h0) hacc, ?_, New.cons hacc (New.snoc h0 fun b hb => nw b (List.mem_cons_of_mem _ hb))⟩
      · rw [List.length_map, hb]
        exact small1000 (by omega)
      · rw [List.replicate_succ']
        exact R.snoc' (r := []) hp
    · rintro ys H1 ⟨bs, rfl, hb, s1, R, nw⟩
      have hb' : bs.length = c := by simpa using hb
      have W0 : WF c (List.replicate (Int.toNat (c : Int)) []) := ⟨by simp, fun r hr => by rw [(List.mem_replicate.mp hr).2]; exact List.nodup_nil, fun r hr x hx => by rw [(List.mem_replicate.mp hr).2] at hx; cases hx⟩
      have L0 : ∀ r ∈ List.replicate (Int.toNat (c : Int)) ([] : List Int), r.length ≤ 0 := fun r hr => by rw [(List.mem_replicate.mp hr).2]; exact Nat.le_refl _
      -- if count == 0
      refine ⟨_, rfl, rfl, _, rfl, ?_⟩
      refine ite2 (fun h => ?_) (fun h => ?_)
      · exact ⟨_, rfl, q acc bs _ H1 s1 R nw W0 fun r hr => Nat.le_trans (L0 r hr) (Nat.zero_le _)⟩
      · have hc0 : 0 < c := by
          rcases Nat.eq_zero_or_pos c with z | z
          · subst z
            exact absurd (decide_eq_true rfl) h
          · exact z
        -- for k in range(len(cells))
        refine ⟨_, rfl, _, _, rfl, .inl (s1.seq hS), _, rfl, by rw [len_ints]; omega, by rw [len_ints]; omega, for_range (fun i σ H2 => ∃ (rs : List (List Int)) (ok o4 o5 o6 : Option V), σ = [some (.ref a), some (.int (c : Int)), some (.ref acc), ok, o4, o5, o6] ∧ Same H H2 ∧ Rows H2 acc bs rs ∧ WF c rs ∧ ∀ r ∈ rs, r.length ≤ i) ?_ ?_ ?_⟩
        · exact ⟨_, none, none, none, none, rfl, s1, R, W0, L0⟩
        · rintro i σ H2 hi ⟨rs, ok, o4, o5, o6, rfl, s2, R2, W2, L2⟩
          have hi' : i < ns.length := by rw [len_ints] at hi; omega
          -- cell = cells[k]
          refine ⟨_, rfl, _, rfl, _, _, _, _, rfl, rfl, s2.seq hS, by rw [show (0 : Int) + (i : Int) = (i : Int) by omega]; exact atI_ints (n := ns[i]) (by simp [hi']), ?_⟩
          -- row = rows[..]
          obtain ⟨j, ej, hj⟩ := modN (a := ns[i] + (0 + (i : Int))) hc0
          have hjr : j < rs.length := by rw [W2.len]; exact hj
          obtain ⟨b, hb1, hb2, hb3⟩ := R2.get hjr
          refine ⟨_, rfl, _, rfl, _, rfl, _, _, rfl, rfl, _, rfl, _, _, rfl, rfl, (by omega), _, _, _, _, rfl, rfl, SqL.of R2.top, by rw [ej]; exact atI_refs hb1, ?_⟩
          -- house = ..
          obtain ⟨x, ex, hx⟩ := modN (a := ns[i] / 5 + (0 + (i : Int)) / (c : Int)) hc0
          refine ⟨_, rfl, _, _, rfl, rfl, ⟨by decide, by decide⟩, _, rfl, _, rfl, _, _, rfl, rfl, ⟨by omega, by omega⟩, _, _, rfl, rfl, _, rfl, _, _, rfl, rfl, (by omega), ?_⟩
          -- if house not in row
          refine ⟨_, rfl, _, rfl, _, _, rfl, .inl (SqL.of hb2), rfl, flat_ints _, _, rfl, ?_⟩
          refine ite2 (fun h => ?_) (fun h => ?_)
          · have hn : ¬ (x : Int) ∈ rs[j] := notin_of ex h
            have hm : rs[j] ∈ rs := List.getElem_mem _
            have hlen := L2 _ hm
            obtain ⟨p, ep, hp⟩ := modN (a := ns[i] / 11 + (0 + (i : Int)) / 3) (c := rs[j].length + 1) (Nat.succ_pos _)
            refine ⟨_, rfl, .inl ⟨rfl, _, SqL.of hb2⟩, _, rfl, _, _, rfl, rfl, ⟨by decide, by decide⟩, _, rfl, _, _, rfl, rfl, ⟨by decide, by decide⟩, _, _, rfl, rfl, _, rfl, _, _, rfl, .inl (SqL.of hb2), _, _, rfl, rfl, _, _, rfl, rfl, by rw [len_ints]; omega, _, rfl, _, _, _, _, rfl, rfl, hb2, ?_⟩
            rw [len_ints]
            have ep' : (ns[i] / 11 + (0 + (i : Int)) / 3) % ((rs[j].length : Int) + 1) = (p : Int) := by rw [← ep]; simp
            dsimp only
            rw [ep', ex]
            refine ⟨by omega, by omega, small1000 (by omega), ?_⟩
            have e2 : insV (nums rs[j]) (p : Int).toNat (V.int (x : Int)) = nums (insV rs[j] p (x : Int)) := by
              rw [Int.toNat_natCast]
              exact (insV_map V.int rs[j] p (x : Int)).symm
            rw [e2]
            refine ⟨rs.set j (insV rs[j] p (x : Int)), _, _, _, _, rfl, Same.upd s2 (nw b (List.mem_cons_of_mem _ hb3)), R2.set _ hb1, W2.set (ins_nodup (W2.nd _ hm) hn) ?_, ?_⟩
            · intro y hy
              rcases ins_mem hy with z | z
              · exact W2.rng _ hm y z
              · subst z; omega
            · intro r hr
              rcases mem_set_cases hr with z | z
              · have := L2 r z; omega
              · rw [z, insV_length]; omega
          · exact ⟨rs, _, _, _, _, rfl, s2, R2, W2, fun r hr => Nat.le_succ_of_le (L2 r hr)⟩
        · rintro σ H2 ⟨rs, ok, o4, o5, o6, rfl, s2, R2, W2, L2⟩
          refine ⟨_, rfl, q acc bs rs H2 s2 R2 nw W2 fun r hr => ?_⟩
          have := L2 r hr
          rw [len_ints] at this
          omega
end
end K02

set_option Elab.async false
set_option linter.all false
set_option maxRecDepth 100000
set_option maxHeartbeats 4000000
namespace K02
open PySem L2 KS
section
variable {P : Program} {w : World} {K : PySem.W.Frag} {mg : Str → Option Value} {base : Heap} {f : Addr} {fd : FuncData}
theorem scCopies : FnScope ["_law_lists"] ["_law_lists"] (defScope sCopies) := ⟨rfl, rfl, rfl, by decide +kernel, rfl, by decide +kernel, by decide +kernel⟩
theorem ok_copies (F : Fun K "_law_copies" "_law_copies" sCopies f fd) (T : Own K mg) : FnOk P w K mg base CX0 1 f fd ["_law_lists"] spCopies := by
  refine F.ok scCopies (fun vs H Q E h => ?_) (fun cdv A outer s H vs Q E hr h => ?_)
  · obtain ⟨a, as, rs, rfl, _⟩ := h
    rfl
  · obtain ⟨a, as, rs, rfl, R, hl, q⟩ := h
    refine ⟨_, pss_one (ps_ret (pe_lc (fr := []) (ix := []) (te := tCB (rListOf K) (tCons (tVar 0) tNil)) rfl (compScope (defScope sCopies) ["_law_lists"] rfl rfl (by decide +kernel)) (pi_list (pv 0)) (fun _ _ _ _ _ => pifs_nil)
      (fun _ _ _ _ _ => pe_callTy call_listR (by rfl) T.list PyProof.Rows.boot_list (pa_cons (pv 0) pa_nil)))), ?_⟩
    refine ⟨_, rfl, a, rfl, ⟨_, SqL.of R.top⟩, fun acc hacc => lc_list0 (K := K) (a := a) (xs := refs as) (fun i ys H' => ∃ bs, ys = refs bs ∧ bs.length = i ∧ Same H H' ∧ Rows H' acc bs (rs.take i) ∧ New H (acc :: bs)) ?_ ?_ ?_ ?_⟩
    · exact ⟨[], rfl, rfl, Same.upd (Same.refl H) hacc, Rows.nil upd_same, New.cons hacc fun _ z => by cases z⟩
    · rintro i ys H' hi ⟨bs, rfl, hb, sm, R', nw⟩
      exact ⟨R'.top, SqL.of (sm _ _ R.top)⟩
    · rintro i x ys H' hx ⟨bs, rfl, hb, sm, R', nw⟩
      obtain ⟨b, rfl, hb1⟩ := refs_at hx
      obtain ⟨r, hr1, hr2⟩ := Rows.row_of R hb1
      refine ⟨_, rfl, _, _, rfl, .inl (SqL.of (sm _ _ hr2)), fun p hp => ?_⟩
      have hpa := R'.notin hp
      have h0 : H p = none := sm.free hp
      have hi : i < rs.length := (List.getElem?_eq_some_iff.mp hr1).1
      refine ⟨by rw [upd_ne hpa.1.symm]; exact R'.top, ?_, bs ++ [p], by simp [refs], by simp [hb], Same.upd (Same.upd sm h0) hacc, ?_, New.cons hacc (New.snoc h0 fun b hb => nw b (List.mem_cons_of_mem _ hb))⟩
      · rw [List.length_map, hb]
        exact small1000 (by omega)
      · rw [take_snoc hr1]
        exact R'.snoc' hp
    · rintro ys H1 ⟨bs, rfl, hb, s1, R', nw⟩
      have e : rs.take (refs as).length = rs := by
        rw [List.length_map, R.len]
        exact List.take_length
      rw [e] at R'
      exact q acc bs H1 s1 R' nw
end
end K02

set_option Elab.async false
set_option linter.all false
set_option maxRecDepth 100000
set_option maxHeartbeats 4000000
namespace K02
open PySem L2 KS
section
variable {P : Program} {w : World} {K : PySem.W.Frag} {mg : Str → Option Value} {base : Heap} {f : Addr} {fd : FuncData}
theorem scKept : FnScope ["_law_found", "_law_due", "_law_k", "_law_j"] ["_law_found", "_law_due"] (defScope sKept) := ⟨rfl, rfl, rfl, by decide +kernel, rfl, by decide +kernel, by decide +kernel⟩
theorem ok_kept (F : Fun K "_law_kept" "_law_kept" sKept f fd) (T : Own K mg) (W : Fn P w K mg base "_law_whole" ["_law_found"] 1 spWhole) : FnOk P w K mg base CX0 2 f fd ["_law_found", "_law_due"] spKept := by
  obtain ⟨fw, fdw, Gw, mw, kw, bw⟩ := W
  refine F.ok scKept (fun vs H Q E h => ?_) (fun cdv A outer s H vs Q E hr h => ?_)
  · obtain ⟨a, b, as, bs, rs, rfl, _⟩ := h
    rfl
  · obtain ⟨a, b, as, bs, rs, rfl, R1, R2, hl, hl2, q⟩ := h
    have nd := scKept.nd
    refine ⟨_, pss_cons (ps_if (pw_or (pt_not (pt_val (pe_callB call_isinst (by rfl) T.isinstance PyProof.Rows.boot_isinstance (pa_cons (pv 0) (pa_cons (pe_bltn (v := .ty "list") (by rfl) T.list PyProof.Rows.boot_list rfl) pa_nil)))))
          (pw_or1 (pt_cmpR op_ne (pe_callB call_len_seq (by rfl) T.len PySem.boot_len (pa_cons (pv 0) pa_nil)) (pe_callB call_len_seq (by rfl) T.len PySem.boot_len (pa_cons (pv 1) pa_nil)) (nomark _)))).pt (pss_one (ps_ret pe_bl)) pss_nil)
      (pss_cons (ps_for PassesOwn.never rfl (pi_range1 (by rfl) T.range (pa_cons (pe_callB call_len_seq (by rfl) T.len PySem.boot_len (pa_cons (pv 1) pa_nil)) pa_nil)) (pg_name (i := 2) nd rfl (Or.inl rfl))
        (pss_cons (ps_if (pw_or (pt_not (pt_val (pe_callB call_isinst (by rfl) T.isinstance PyProof.Rows.boot_isinstance (pa_cons (pe_ix ix_list (pv 0) (pv 2) (fun _ _ => rfl)) (pa_cons (pe_bltn (v := .ty "list") (by rfl) T.list PyProof.Rows.boot_list rfl) pa_nil)))))
            (pw_or1 (pt_cmpR op_ne (pe_callB call_len_seq (by rfl) T.len PySem.boot_len (pa_cons (pe_ix ix_list (pv 0) (pv 2) (fun _ _ => rfl)) pa_nil)) (pe_callB call_len_seq (by rfl) T.len PySem.boot_len (pa_cons (pe_ix ix_list (pv 1) (pv 2) (fun _ _ => rfl)) pa_nil)) (nomark _)))).pt (pss_one (ps_ret pe_bl)) pss_nil)
        (pss_one (ps_for PassesOwn.never rfl (pi_range1 (by rfl) T.range (pa_cons (pe_callB call_len_seq (by rfl) T.len PySem.boot_len (pa_cons (pe_ix ix_list (pv 1) (pv 2) (fun _ _ => rfl)) pa_nil)) pa_nil)) (pg_name (i := 3) nd rfl (Or.inl rfl))
          (pss_one (ps_if (pw_or (pt_not (pt_val (pe_call Gw hr (by rfl) mw kw bw .nil pass0 (pa_cons (pe_ix ix_list (pe_ix ix_list (pv 0) (pv 2) (fun _ _ => rfl)) (pv 3) (fun _ _ => rfl)) pa_nil))))
            (pw_or1 (pt_cmpR op_ne (pe_ix ix_list (pe_ix ix_list (pv 0) (pv 2) (fun _ _ => rfl)) (pv 3) (fun _ _ => rfl)) (pe_ix ix_list (pe_ix ix_list (pv 1) (pv 2) (fun _ _ => rfl)) (pv 3) (fun _ _ => rfl)) (nomark _)))).pt (pss_one (ps_ret pe_bl)) pss_nil))))))
      (pss_one (ps_ret pe_bl))), ?_⟩
    have elen : (refs as).length = (refs bs).length := by rw [List.length_map, List.length_map, R1.len, R2.len]
    refine ⟨_, rfl, _, _, _, _, rfl, TyOf.lst R1.top, T.l_list, _, rfl, ?_⟩
    refine iteF ⟨_, rfl, _, _, rfl, .inl (SqL.of R1.top), _, rfl, _, _, rfl, .inl (SqL.of R2.top), rfl, _, rfl, ?_⟩
    refine iteNS (by rw [elen]) ?_
    refine ⟨_, rfl, _, _, rfl, .inl (SqL.of R2.top), _, rfl, by rw [List.length_map, R2.len]; omega, by rw [List.length_map, R2.len]; omega,
      for_range (fun i σ H2 => ∃ (ok oj : Option V), σ = [some (.ref a), some (.ref b), ok, oj] ∧ H2 = H) ⟨none, none, rfl, rfl⟩ ?_ ?_⟩
    · rintro i σ H2 hi ⟨ok, oj, rfl, rfl⟩
      have hi' : i < rs.length := by rw [List.length_map, R2.len] at hi; omega
      obtain ⟨b1, e1, h1, _⟩ := R1.get hi'
      obtain ⟨b2, e2, h2, _⟩ := R2.get hi'
      have ez : (0 : Int) + (i : Int) = (i : Int) := by omega
      have l1000 := hl2 _ (List.getElem_mem hi')
      refine ⟨_, rfl, _, rfl, _, _, _, _, rfl, rfl, SqL.of R1.top, by rw [ez]; exact atI_refs e1, _, _, _, _, rfl, TyOf.lst h1, T.l_list, _, rfl, ?_⟩
      refine iteF ⟨_, rfl, _, rfl, _, _, _, _, rfl, rfl, SqL.of R1.top, by rw [ez]; exact atI_refs e1, _, _, rfl, .inl (SqL.of h1), _, rfl, _, rfl, _, _, _, _, rfl, rfl, SqL.of R2.top, by rw [ez]; exact atI_refs e2, _, _, rfl, .inl (SqL.of h2), rfl, _, rfl, ?_⟩
      refine iteNS rfl ?_
      refine ⟨_, rfl, _, rfl, _, _, _, _, rfl, rfl, SqL.of R2.top, by rw [ez]; exact atI_refs e2, _, _, rfl, .inl (SqL.of h2), _, rfl, by rw [len_ints]; omega, by rw [len_ints]; omega,
        for_range (fun j σ H3 => ∃ (oj : Option V), σ = [some (.ref a), some (.ref b), some (.int ((0 : Int) + (i : Int))), oj] ∧ H3 = H2) ⟨_, rfl, rfl⟩ ?_ ?_⟩
      · rintro j σ H2 hj ⟨oj, rfl, rfl⟩
        have hj' : j < rs[i].length := by rw [len_ints] at hj; omega
        have ey : (0 : Int) + (j : Int) = (j : Int) := by omega
        have ea : atI (nums rs[i]) ((0 : Int) + (j : Int)) = some (V.int rs[i][j]) := by rw [ey]; exact atI_ints (by simp [hj'])
        refine ⟨_, rfl, _, rfl, _, _, _, _, rfl, rfl, SqL.of R1.top, by rw [ez]; exact atI_refs e1, _, rfl, _, _, _, _, rfl, rfl, SqL.of h1, ea, _, rfl, _, rfl, ?_⟩
        refine iteF ⟨_, rfl, _, rfl, _, _, _, _, rfl, rfl, SqL.of R1.top, by rw [ez]; exact atI_refs e1, _, rfl, _, _, _, _, rfl, rfl, SqL.of h1, ea, _, rfl, _, rfl, _, _, _, _, rfl, rfl, SqL.of R2.top, by rw [ez]; exact atI_refs e2, _, rfl, _, _, _, _, rfl, rfl, SqL.of h2, ea, rfl, _, rfl, ?_⟩
        refine iteNS rfl ?_
        exact ⟨_, rfl, rfl⟩
      · rintro σ H2 ⟨oj, rfl, rfl⟩
        exact ⟨_, _, rfl, rfl⟩
    · rintro σ H2 ⟨ok, oj, rfl, rfl⟩
      exact q
end
end K02

set_option Elab.async false
set_option linter.all false
set_option maxRecDepth 100000
set_option maxHeartbeats 4000000
namespace K02
open PySem L2 KS
section
variable {P : Program} {w : World} {K : PySem.W.Frag} {mg : Str → Option Value} {base : Heap} {f : Addr} {fd : FuncData}
theorem scSpot : FnScope ["_law_lists", "_law_holder", "_law_house", "_law_row", "_law_far"] ["_law_lists", "_law_holder", "_law_house"] (defScope sSpot) := ⟨rfl, rfl, rfl, by decide +kernel, rfl, by decide +kernel, by decide +kernel⟩
theorem ok_spot (F : Fun K "_law_spot" "_law_spot" sSpot f fd) (T : Own K mg) : FnOk P w K mg base CX0 1 f fd ["_law_lists", "_law_holder", "_law_house"] spSpot := by
  refine F.ok scSpot (fun vs H Q E h => ?_) (fun cdv A outer s H vs Q E hr h => ?_)
  · obtain ⟨a, as, rs, h, r, x, rfl, _⟩ := h
    rfl
  · obtain ⟨a, as, rs, h, r, x, rfl, R, hrow, q⟩ := h
    have nd := scSpot.nd
    refine ⟨_, pss_cons (ps_set (i := 3) nd rfl (Or.inl rfl) (pe_ix ix_list (pv 0) (pv 1) (fun _ _ => rfl)))
      (pss_cons (ps_set (i := 4) nd rfl (Or.inl rfl) (pe_callB call_len_seq (by rfl) T.len PySem.boot_len (pa_cons (pv 3) pa_nil)))
      (pss_cons (ps_if (pt_cmpR op_in_seq (pv 1) (pv 3) (by with_unfolding_all rfl)) (pss_one (ps_set (i := 4) nd rfl (Or.inl rfl) (pe_bm PySem.F.plainAttrs_list PySem.F.slot_list_index PySem.F.type_list_index mt_index (pv 3) (pa_cons (pv 1) pa_nil)))) pss_nil)
      (pss_cons (ps_if (pt_cmpR op_eq (pv 2) (pv 1) (nomark _)) (pss_one (ps_ret (pv 4))) pss_nil)
      (pss_cons (ps_if (pw_and (pt_cmpR op_in_seq (pv 2) (pv 3) (by with_unfolding_all rfl)) (pw_and1 (pt_cmpR op_lt (pe_bm PySem.F.plainAttrs_list PySem.F.slot_list_index PySem.F.type_list_index mt_index (pv 3) (pa_cons (pv 2) pa_nil)) (pv 4) (nomark _)))).pt
        (pss_one (ps_ret (pe_bm PySem.F.plainAttrs_list PySem.F.slot_list_index PySem.F.type_list_index mt_index (pv 3) (pa_cons (pv 2) pa_nil)))) pss_nil)
      (pss_one (ps_ret pe_int)))))), ?_⟩
    obtain ⟨b, hb1, hb2, _⟩ := R.at hrow
    refine ⟨_, rfl, _, rfl, _, _, _, _, rfl, rfl, SqL.of R.top, atI_refs hb1, ?_⟩
    refine ⟨_, rfl, _, _, rfl, .inl (SqL.of hb2), ?_⟩
    refine ⟨_, rfl, _, rfl, _, _, rfl, .inl (SqL.of hb2), rfl, flat_ints _, _, rfl, ?_⟩
    -- behind far
    have rest : ∀ far : Int, far = (r.idxOf (h : Int) : Nat) → tSeq (tIfS (tTest (tOp rEq (tVar 2) (tVar 1))) (tRet (tVar 4)) tNext)
        (tSeq (tIfS (tAnd (tTest (tOp (rIn K false) (tVar 2) (tVar 3))) (tTest (tOp (rI0 fun i j => .bl (decide (i < j))) (tBM K "list" (rIndex K) (tVar 3) (tCons (tVar 2) tNil)) (tVar 4)))) (tRet (tBM K "list" (rIndex K) (tVar 3) (tCons (tVar 2) tNil))) tNext)
          (tRet (tC (.int 1000)))) { nx := fun _ H' => Q .non H', rt := Q } [some (.ref a), some (.int (h : Int)), some (.int x), some (.ref b), some (.int far)] H := by
      intro far efar
      refine ⟨_, rfl, _, rfl, rfl, _, rfl, ?_⟩
      refine ite2 (fun e => ?_) (fun e => ?_)
      · have e : V.int x = V.int (h : Int) := of_decide_eq_true e
        have e : x = (h : Int) := by injection e
        refine ⟨_, rfl, ?_⟩
        rw [efar]
        unfold KM.spot at q
        rw [if_pos e] at q
        exact q
      · have e : ¬ x = (h : Int) := fun z => e (decide_eq_true (congrArg V.int z))
        refine ⟨_, rfl, _, rfl, _, _, rfl, .inl (SqL.of hb2), rfl, flat_ints _, _, rfl, ?_⟩
        refine ite2 (fun m => ?_) (fun m => ?_)
        · have m : x ∈ r := in_of rfl m
          refine ⟨_, rfl, .inl ⟨rfl, _, SqL.of hb2⟩, _, rfl, _, _, _, rfl, rfl, SqL.of hb2, m, _, rfl, _, _, rfl, rfl, _, rfl, ?_⟩
          refine ite2 (fun l => ?_) (fun l => ?_)
          · have l := of_decide_eq_true l
            refine ⟨_, rfl, .inl ⟨rfl, _, SqL.of hb2⟩, _, rfl, _, _, _, rfl, rfl, SqL.of hb2, m, ?_⟩
            unfold KM.spot at q
            rw [if_neg e, if_pos ⟨m, by omega⟩] at q
            exact q
          · have l : ¬ ((r.idxOf x : Nat) : Int) < far := fun z => l (decide_eq_true z)
            unfold KM.spot at q
            rw [if_neg e, if_neg (fun z => l (by omega))] at q
            exact q
        · have m : ¬ x ∈ r := notin_of_not rfl m
          refine iteF ?_
          unfold KM.spot at q
          rw [if_neg e, if_neg (fun z => m z.1)] at q
          exact q
    refine ite2 (fun m => ?_) (fun m => ?_)
    · have m : (h : Int) ∈ r := in_of rfl m
      exact ⟨_, rfl, .inl ⟨rfl, _, SqL.of hb2⟩, _, rfl, _, _, _, rfl, rfl, SqL.of hb2, m, rest _ rfl⟩
    · have m : ¬ (h : Int) ∈ r := notin_of_not rfl m
      exact rest _ (by rw [len_ints, KM.idxOf_none m])
end
end K02

set_option Elab.async false
set_option linter.all false
set_option maxRecDepth 100000
set_option maxHeartbeats 4000000
namespace K02
open PySem L2 KS
section
variable {P : Program} {w : World} {K : PySem.W.Frag} {mg : Str → Option Value} {base : Heap} {f : Addr} {fd : FuncData}
theorem scLookedTo : FnScope ["_law_lists", "_law_there", "_law_holder", "_law_best", "_law_house"] ["_law_lists", "_law_there", "_law_holder"] (defScope sLookedTo) := ⟨rfl, rfl, rfl, by decide +kernel, rfl, by decide +kernel, by decide +kernel⟩
theorem ok_lookedto (F : Fun K "_law_looked_to" "_law_looked_to" sLookedTo f fd) (T : Own K mg) (G : Fn P w K mg base "_law_spot" ["_law_lists", "_law_holder", "_law_house"] 1 spSpot) : FnOk P w K mg base CX0 2 f fd ["_law_lists", "_law_there", "_law_holder"] (spLookedTo K) := by
  obtain ⟨f1, fd1, G1, m1, k1, b1⟩ := G
  refine F.ok scLookedTo (fun vs H Q E h => ?_) (fun cdv A outer s H vs Q E hr h => ?_)
  · obtain ⟨a, as, rs, b, ts, h, rfl, _⟩ := h
    rfl
  · obtain ⟨a, as, rs, b, ts, h, rfl, R, hS, hh, q⟩ := h
    have nd := scLookedTo.nd
    refine ⟨_, pss_cons (ps_set (i := 3) nd rfl (Or.inl rfl) (pv 2))
      (pss_cons (ps_for PassesOwn.never rfl (pi_list (pv 1)) (pg_name (i := 4) nd rfl (Or.inl rfl))
        (pss_one (ps_if (pt_cmpR op_lt (pe_call G1 hr (by rfl) m1 k1 b1 .nil pass0 (pa_cons (pv 0) (pa_cons (pv 2) (pa_cons (pv 4) pa_nil)))) (pe_call G1 hr (by rfl) m1 k1 b1 .nil pass0 (pa_cons (pv 0) (pa_cons (pv 2) (pa_cons (pv 3) pa_nil)))) (nomark _))
          (pss_one (ps_set (i := 3) nd rfl (Or.inl rfl) (pv 4))) pss_nil)))
      (pss_one (ps_ret (pv 3)))), ?_⟩
    have hrow : rs[h]? = some (rs.getD h []) := by simp [hh]
    refine ⟨_, rfl, ?_⟩
    refine ⟨_, rfl, b, rfl, ⟨_, hS⟩, for_list (K := K) (a := b) (xs := nats ts) (fun i σ H2 => H2 = H ∧ ∃ (ov : Option V), σ = [some (.ref a), some (.ref b), some (.int (h : Int)), some (.int (KM.look (KM.rk rs) (ts.take i) h : Nat)), ov])
      ⟨rfl, none, rfl⟩ (fun i σ H2 _ ⟨e, _⟩ => by rw [e]; exact hS) ?_ ?_⟩
    · rintro i y σ H2 hy ⟨eH, ov, rfl⟩
      rw [eH]
      obtain ⟨n, rfl, hn⟩ := nats_at hy
      have step : KM.look (KM.rk rs) (ts.take (i + 1)) h = if KM.rk rs h n < KM.rk rs h (KM.look (KM.rk rs) (ts.take i) h) then n else KM.look (KM.rk rs) (ts.take i) h := by
        unfold KM.look
        rw [take_snoc hn, List.foldl_append]
        rfl
      refine ⟨_, rfl, _, rfl, _, rfl, a, as, rs, h, _, _, rfl, R, hrow, _, rfl, _, rfl, _, rfl, a, as, rs, h, _, _, rfl, R, hrow, _, _, rfl, rfl, _, rfl, ?_⟩
      refine ite2 (fun l => ?_) (fun l => ?_)
      · have l := of_decide_eq_true l
        have l' : KM.rk rs h n < KM.rk rs h (KM.look (KM.rk rs) (ts.take i) h) := by
          unfold KM.rk at *
          omega
        rw [if_pos l'] at step
        refine ⟨_, rfl, rfl, some (.int (n : Int)), ?_⟩
        rw [step]
        rfl
      · have l' : ¬ KM.rk rs h n < KM.rk rs h (KM.look (KM.rk rs) (ts.take i) h) := fun z => l (decide_eq_true (by
          unfold KM.rk at *
          omega))
        rw [if_neg l'] at step
        refine ⟨rfl, some (.int (n : Int)), ?_⟩
        rw [step]
        rfl
    · rintro σ H2 ⟨eH, ov, rfl⟩
      rw [eH]
      have e : ts.take (nats ts).length = ts := by
        rw [len_nats]
        exact List.take_length
      rw [e]
      exact ⟨_, rfl, q⟩
end
end K02

set_option Elab.async false
set_option linter.all false
set_option maxRecDepth 100000
set_option maxHeartbeats 4000000
namespace K02
open PySem L2 KS
section
variable {P : Program} {w : World} {K : PySem.W.Frag} {mg : Str → Option Value} {base : Heap} {f : Addr} {fd : FuncData}
theorem scIsDealing : FnScope ["_law_found", "_law_count", "_law_seen", "_law_house"] ["_law_found", "_law_count"] (defScope sIsDealing) := ⟨rfl, rfl, rfl, by decide +kernel, rfl, by decide +kernel, by decide +kernel⟩
/-- which of c houses stand among ds -/
def seenV (c : Nat) (ds : List Nat) : List V := (List.range c).map fun j => V.bl (decide (j ∈ ds))
theorem seen_nil (c : Nat) : (List.replicate c [V.bl false]).flatten = seenV c [] := by
  unfold seenV
  induction c with
  | zero => rfl
  | succ c ih =>
    rw [List.replicate_succ', List.flatten_append, ih, List.range_succ, List.map_append]
    simp
theorem seen_get {c x : Nat} {ds : List Nat} (h : x < c) : (seenV c ds)[x]? = some (V.bl (decide (x ∈ ds))) := by simp [seenV, h]
theorem seen_set {c x : Nat} {ds : List Nat} : (seenV c ds).set x (V.bl true) = seenV c (ds ++ [x]) := by
  unfold seenV
  refine List.ext_getElem (by simp) fun i h1 h2 => ?_
  rw [List.getElem_set]
  by_cases e : x = i
  · subst e
    simp
  · have e' : ¬ i = x := fun z => e z.symm
    simp [e, e']
theorem ok_isdealing (F : Fun K "_law_is_dealing" "_law_is_dealing" sIsDealing f fd) (T : Own K mg) (G : Fn P w K mg base "_law_whole" ["_law_found"] 1 spWhole) : FnOk P w K mg base CX0 2 f fd ["_law_found", "_law_count"] spIsDealing := by
  obtain ⟨f1, fd1, G1, m1, k1, b1⟩ := G
  refine F.ok scIsDealing (fun vs H Q E h => ?_) (fun cdv A outer s H vs Q E hr h => ?_)
  · obtain ⟨a, ds, c, rfl, _⟩ := h
    rfl
  · obtain ⟨a, ds, c, rfl, ha, hlen, hnd, hlt, hc, q⟩ := h
    have nd := scIsDealing.nd
    refine ⟨_, pss_cons (ps_if (pw_or (pt_not (pt_val (pe_callB call_isinst (by rfl) T.isinstance PyProof.Rows.boot_isinstance (pa_cons (pv 0) (pa_cons (pe_bltn (v := .ty "list") (by rfl) T.list PyProof.Rows.boot_list rfl) pa_nil)))))
          (pw_or1 (pt_cmpR op_ne (pe_callB call_len_seq (by rfl) T.len PySem.boot_len (pa_cons (pv 0) pa_nil)) (pv 1) (nomark _)))).pt (pss_one (ps_ret pe_bl)) pss_nil)
      (pss_cons (ps_set (i := 2) nd rfl (Or.inl rfl) (pe_op op_rep (pe_lst (pa_cons pe_bl pa_nil)) (pv 1)))
      (pss_cons (ps_for PassesOwn.never rfl (pi_list (pv 0)) (pg_name (i := 3) nd rfl (Or.inl rfl))
        (pss_cons (ps_if (pw_or (pt_not (pt_val (pe_call G1 hr (by rfl) m1 k1 b1 .nil pass0 (pa_cons (pv 3) pa_nil))))
            (pw_or (pt_cmpR op_lt (pv 3) pe_int (nomark _)) (pw_or (pt_cmpR op_ge (pv 3) (pv 1) (nomark _)) (pw_or1 (pt_val (pe_ix ix_list (pv 2) (pv 3) (fun _ _ => rfl))))))).pt (pss_one (ps_ret pe_bl)) pss_nil)
        (pss_one (ps_asg pe_bl (pg_sub (pv 2) (pv 3) set_list)))))
      (pss_one (ps_ret pe_bl)))), ?_⟩
    have el : ((nats ds).length : Int) = (c : Int) := by rw [len_nats, hlen]
    refine ⟨_, rfl, _, _, _, _, rfl, TyOf.lst ha, T.l_list, _, rfl, ?_⟩
    refine iteF ⟨_, rfl, _, _, rfl, .inl (SqL.of ha), _, rfl, rfl, _, rfl, ?_⟩
    refine iteNS (by rw [el]) ?_
    refine ⟨small_line (n := 1) (by decide), fun p hp => ⟨_, rfl, p, _, _, rfl, rfl, upd_same, by omega, by omega, ?_, fun o ho => ?_⟩⟩
    · rw [Int.toNat_natCast]
      show 1 * c ≤ sizeLine
      rw [Nat.one_mul]
      exact small_line hc
    · have s1 : Same H (upd H p (.lst [V.bl false])) := Same.upd (Same.refl H) hp
      have ho0 : H o = none := s1.free ho
      have s2 : Same H (upd (upd H p (.lst [V.bl false])) o (.lst (List.replicate (Int.toNat (c : Int)) [V.bl false]).flatten)) := Same.upd s1 ho0
      refine ⟨_, rfl, a, rfl, ⟨_, SqL.of (s2 _ _ ha)⟩, for_list (K := K) (a := a) (xs := nats ds) (fun i σ H2 => ∃ (ov : Option V), σ = [some (.ref a), some (.int (c : Int)), some (.ref o), ov] ∧ Same H H2 ∧ H2 o = some (.lst (seenV c (ds.take i))))
        ⟨none, rfl, s2, by rw [upd_same, Int.toNat_natCast, seen_nil]; rfl⟩ (fun i σ H2 _ ⟨_, _, s3, _⟩ => SqL.of (s3 _ _ ha)) ?_ ?_⟩
      · rintro i y σ H2 hy ⟨ov, rfl, s3, h3⟩
        obtain ⟨n, rfl, hn⟩ := nats_at hy
        have hnc : n < c := hlt n (List.mem_of_getElem? hn)
        have hnew : n ∉ ds.take i := by
          intro m
          obtain ⟨j, hj, e⟩ := List.getElem_of_mem m
          obtain ⟨hi, e2⟩ := List.getElem?_eq_some_iff.mp hn
          rw [List.length_take] at hj
          rw [List.getElem_take] at e
          have := (List.getElem_inj hnd).mp (e.trans e2.symm)
          omega
        refine ⟨_, rfl, _, rfl, _, rfl, ?_⟩
        refine iteF ⟨_, rfl, _, _, rfl, rfl, _, rfl, ?_⟩
        rw [decide_eq_false (by omega)]
        refine iteF ⟨_, rfl, _, rfl, _, _, rfl, rfl, _, rfl, ?_⟩
        rw [decide_eq_false (by omega)]
        refine iteF ⟨_, rfl, _, rfl, _, _, _, _, rfl, rfl, SqL.of h3, atI_nat (seen_get hnc), _, rfl, ?_⟩
        rw [decide_eq_false hnew]
        refine iteF ⟨_, rfl, _, rfl, o, _, _, n, rfl, rfl, h3, ?_, ?_⟩
        · have : (seenV c (ds.take i)).length = c := by simp [seenV]
          rw [this]
          exact ixN_nat hnc
        · refine ⟨_, rfl, Same.upd s3 ho0, ?_⟩
          rw [upd_same, seen_set, take_snoc hn]
      · rintro σ H2 ⟨ov, rfl, s3, h3⟩
        exact q H2 s3
end
end K02

set_option Elab.async false
set_option linter.all false
set_option maxRecDepth 100000
set_option maxHeartbeats 4000000
namespace K02
open PySem L2 KS
section
variable {P : Program} {w : World} {K : PySem.W.Frag} {mg : Str → Option Value} {base : Heap} {f : Addr} {fd : FuncData}
abbrev nDealingBy : List Str := ["_law_lists", "_law_houses", "_law_there", "_law_looks", "_law_holder", "_law_here", "_law_k", "_law_gone"]
theorem scDealingBy : FnScope nDealingBy ["_law_lists"] (defScope sDealingBy) := ⟨rfl, rfl, rfl, by decide +kernel, rfl, by decide +kernel, by decide +kernel⟩
theorem ok_dealingby (F : Fun K "_law_dealing_by" "_law_dealing_by" sDealingBy f fd) (T : Own K mg) (G : Fn P w K mg base "_law_looked_to" ["_law_lists", "_law_there", "_law_holder"] 2 (spLookedTo K)) : FnOk P w K mg base CX0 3 f fd ["_law_lists"] spDealt := by
  obtain ⟨f1, fd1, G1, m1, k1, b1⟩ := G
  refine F.ok scDealingBy (fun vs H Q E h => ?_) (fun cdv A outer s H vs Q E hr h => ?_)
  · obtain ⟨a, as, rs, rfl, _⟩ := h
    rfl
  · obtain ⟨a, as, rs, rfl, R, wf, hn100, q⟩ := h
    have nd := scDealingBy.nd
    have hu := hu_of hr
    have hu0 := hr.units0
    refine ⟨_, pss_cons (ps_set (i := 1) nd rfl (Or.inl rfl) (pe_op op_rep (pe_lst (pa_cons pe_int pa_nil)) (pe_callB call_len_seq (by rfl) T.len PySem.boot_len (pa_cons (pv 0) pa_nil))))
      (pss_cons (ps_setLc (i := 2) (fr := []) (ix := []) nd rfl (Or.inl rfl) rfl (compScope (defScope sDealingBy) nDealingBy rfl rfl (by decide +kernel)) (pi_range1 (by rfl) T.range (pa_cons (pe_callB call_len_seq (by rfl) T.len PySem.boot_len (pa_cons (pv 0) pa_nil)) pa_nil)) (fun _ _ _ _ _ => pifs_nil) (fun _ _ _ _ _ => pv 0))
      (pss_cons (ps_while PassesOwn.never (pt_cmpR (op_neNil hu0) (pv 2) (pe_lst pa_nil) (nomark _))
        (pss_cons (ps_set (i := 3) nd rfl (Or.inl rfl) pe_dnewK)
        (pss_cons (ps_for PassesOwn.never rfl (pi_list (pv 2)) (pg_name (i := 4) nd rfl (Or.inl rfl)) (pss_one (ps_dput hu (pv 3) (pv 4) (pe_call G1 hr (by rfl) m1 k1 b1 .nil pass0 (pa_cons (pv 0) (pa_cons (pv 2) (pa_cons (pv 4) pa_nil)))) rfl)))
        (pss_cons (ps_set (i := 5) nd rfl (Or.inl rfl) (pe_ix ix_list (pv 2) pe_int (fun _ _ => rfl)))
        (pss_cons (ps_for PassesOwn.never rfl (pi_range1 (by rfl) T.range (pa_cons (pe_callB call_len_seq (by rfl) T.len PySem.boot_len (pa_cons (pv 2) pa_nil)) pa_nil)) (pg_name (i := 6) nd rfl (Or.inl rfl)) (pss_one (ps_set (i := 5) nd rfl (Or.inl rfl) (pe_dget hu (pv 3) (pv 5) (fun _ _ => rfl)))))
        (pss_cons (ps_set (i := 7) nd rfl (Or.inr rfl) (pe_lst pa_nil))
        (pss_cons (ps_while PassesOwn.never (pt_cmpR op_notIn_seq (pv 5) (pv 7) (by with_unfolding_all rfl))
          (pss_cons (ps_expr (pe_bm PySem.F.plainAttrs_list PySem.F.slot_list_append PySem.F.type_list_append mt_append (pv 7) (pa_cons (pv 5) pa_nil)))
          (pss_cons (ps_asg (pe_dget hu (pv 3) (pv 5) (fun _ _ => rfl)) (pg_sub (pv 1) (pv 5) set_list))
          (pss_one (ps_set (i := 5) nd rfl (Or.inl rfl) (pe_dget hu (pv 3) (pv 5) (fun _ _ => rfl)))))))
        (pss_one (ps_setLc (i := 2) (fr := ["_law_gone"]) (ix := [7]) (tt := tTest (tOp (rIn K true) (tVar 0) (tVar 1))) (te := tVar 0) nd rfl (Or.inl rfl) rfl (compScope (defScope sDealingBy) nDealingBy rfl rfl (by decide +kernel)) (pi_list (pv 2)) (fun _ _ _ _ _ => pifs_one (pt_cmpR op_notIn_seq (pv 0) (pv 1) (by with_unfolding_all rfl))) (fun _ _ _ _ _ => pv 0))))))))))
      (pss_one (ps_ret (pv 1))))), ?_⟩
    -- houses = [0] * len(lists)
    refine ⟨small_line (n := 1) (by decide), fun p0 hp0 => ⟨_, rfl, _, _, rfl, .inl (SqL.of (by rw [upd_ne (ne_of_none R.top hp0)]; exact R.top)), p0, _, _, rfl, rfl, upd_same, by omega, by rw [List.length_map, R.len]; omega, ?_, fun hs hhs => ?_⟩⟩
    · rw [Int.toNat_natCast, List.length_map, R.len]
      show 1 * rs.length ≤ sizeLine
      rw [Nat.one_mul]
      exact small_line (by omega)
    have s0 : Same H (upd H p0 (.lst [V.int 0])) := Same.upd (Same.refl H) hp0
    have hhs0 : H hs = none := s0.free hhs
    have eN : (((refs as).length : Nat) : Int).toNat = rs.length := by rw [Int.toNat_natCast, List.length_map, R.len]
    rw [eN, rep_nats]
    have s1 : Same H (upd (upd H p0 (.lst [V.int 0])) hs (.lst (nats (List.replicate rs.length 0)))) := Same.upd s0 hhs0
    have hhs1 : upd (upd H p0 (.lst [V.int 0])) hs (.lst (nats (List.replicate rs.length 0))) hs = some (.lst (nats (List.replicate rs.length 0))) := upd_same
    generalize upd (upd H p0 (.lst [V.int 0])) hs (.lst (nats (List.replicate rs.length 0))) = H1 at s1 hhs1
    -- there = [k for k in range(len(lists))]
    refine ⟨_, rfl, _, _, rfl, .inl (SqL.of (s1 _ _ R.top)), _, rfl, by omega, by rw [List.length_map, R.len]; omega, fun th hth => lc_range0 (fun i ys H' => ys = nats (List.range i) ∧ Same H1 H' ∧ H' th = some (.lst ys)) ⟨rfl, Same.upd (Same.refl H1) hth, upd_same⟩ (fun i ys H' _ ⟨_, _, h⟩ => h) ?_ ?_⟩
    · rintro i ys H' hi ⟨rfl, sm, hh⟩
      refine ⟨_, rfl, hh, ?_, ?_, Same.upd sm hth, upd_same⟩
      · rw [len_nats, List.length_range]
        rw [eN] at hi
        exact small1000 (by omega)
      · rw [show (0 : Int) + (i : Int) = (i : Int) by omega, nats_snoc, List.range_succ]
    rintro ys H2 ⟨rfl, s2, hth2⟩
    rw [eN] at hth2
    -- while there != []
    refine ⟨fun m σ H3 => ∃ (ts ds : List Nat) (th : Addr) (o3 o4 o5 o6 o7 : Option V) (t : Nat → Nat) (τ : Nat), m = ts.length ∧ σ = [some (.ref a), some (.ref hs), some (.ref th), o3, o4, o5, o6, o7] ∧ Same H H3 ∧ H3 hs = some (.lst (nats ds)) ∧ H3 th = some (.lst (nats ts)) ∧ H th = none ∧ hs ≠ th ∧
        ds.length = rs.length ∧ ts.Nodup ∧ (∀ x ∈ ts, x < rs.length) ∧ KM.PCert rs.length (KM.rk rs) (KM.Left rs.length ts) (fun i => ds.getD i 0) t τ,
      ⟨_, List.range rs.length, List.replicate rs.length 0, th, none, none, none, none, none, fun _ => 0, 0, rfl, rfl, s1.trans s2, s2 _ _ hhs1, hth2, s1.free hth, ne_of_none hhs1 hth, by simp, List.nodup_range, fun x hx => List.mem_range.mp hx, KM.PCert.start fun i g => g.2 (List.mem_range.mpr g.1)⟩, ?_⟩
    rintro m σ H3 ⟨ts, ds, th', o3, o4, o5, o6, o7, t, τ, rfl, rfl, s3, hhs3, hth3, hthn, hne, hds, hnd, hlt, C⟩
    refine ⟨_, rfl, Nat.zero_le _, fun p1 hp1 => ⟨th', p1, nats ts, rfl, rfl, SqL.of (by rw [upd_ne (ne_of_none hth3 hp1)]; exact hth3), SqL.of upd_same, _, rfl, ?_⟩⟩
    have s4 : Same H3 (upd H3 p1 (.lst [])) := Same.upd (Same.refl H3) hp1
    generalize upd H3 p1 (.lst []) = H4 at s4
    have hhs4 := s4 _ _ hhs3
    have hth4 := s4 _ _ hth3
    have sH4 : Same H H4 := s3.trans s4
    cases ts with
    | nil =>
      refine iteF ⟨_, rfl, q hs ds H4 sH4 hhs4 hhs0 ⟨hds, t, C.cert fun i hi => ⟨hi, by simp⟩⟩⟩
    | cons x0 tr =>
      refine iteT ?_
      generalize ets : x0 :: tr = ts at *
      have hx0 : x0 ∈ ts := by rw [← ets]; exact List.mem_cons_self
      have h00 : ts[0]? = some x0 := by rw [← ets]; rfl
      have htl : 0 < ts.length := List.length_pos_of_mem hx0
      have hfin : ∀ x ∈ ts, KM.look (KM.rk rs) ts x ∈ ts := fun x hx => KM.look_mem hx
      generalize hf : KM.look (KM.rk rs) ts = fl at hfin
      have hlen100 : ts.length ≤ 100 := by
        have := KM.len_le_of_subset hnd (l2 := List.range rs.length) fun x hx => List.mem_range.mpr (hlt x hx)
        rw [List.length_range] at this
        omega
      refine ⟨fun σ' H' => ∃ m', m' < ts.length ∧ ∃ (ts ds : List Nat) (th : Addr) (o3 o4 o5 o6 o7 : Option V) (t : Nat → Nat) (τ : Nat), m' = ts.length ∧ σ' = [some (.ref a), some (.ref hs), some (.ref th), o3, o4, o5, o6, o7] ∧ Same H H' ∧ H' hs = some (.lst (nats ds)) ∧ H' th = some (.lst (nats ts)) ∧ H th = none ∧ hs ≠ th ∧
        ds.length = rs.length ∧ ts.Nodup ∧ (∀ x ∈ ts, x < rs.length) ∧ KM.PCert rs.length (KM.rk rs) (KM.Left rs.length ts) (fun i => ds.getD i 0) t τ, fun _ _ h => h, ?_⟩
      -- looks
      intro lk hlk
      have s5 : Same H4 (upd H4 lk (.dK [])) := Same.upd (Same.refl H4) hlk
      refine ⟨_, rfl, th', rfl, ⟨_, SqL.of (s5 _ _ hth4)⟩, for_list (K := K) (a := th') (xs := nats ts) (fun i σ H5 => ∃ (o4 : Option V), σ = [some (.ref a), some (.ref hs), some (.ref th'), some (.ref lk), o4, o5, o6, o7] ∧ Same H4 H5 ∧ H5 lk = some (.dK (lookD fl (ts.take i))))
        ⟨_, rfl, s5, upd_same⟩ (fun i σ H5 _ ⟨_, _, s6, _⟩ => SqL.of (s6 _ _ hth4)) ?_ ?_⟩
      · rintro i y σ H5 hy ⟨o4, rfl, s6, h6⟩
        obtain ⟨n, rfl, hn⟩ := nats_at hy
        have hnm : n ∈ ts := List.mem_of_getElem? hn
        refine ⟨_, rfl, _, rfl, _, rfl, a, as, rs, th', ts, n, rfl, (R.same sH4).same s6, SqL.of (s6 _ _ hth4), hlt n hnm, _, rfl, _, rfl, lk, _, rfl, DPut.k (k := Sum.inl (n : Int)) h6 ?_, ?_⟩
        · rw [lookD_length, List.length_take]
          exact small1000 (by omega)
        · refine ⟨_, rfl, Same.upd s6 hlk, ?_⟩
          rw [upd_same, hf, lookD_put fl (nodup_take hnd hn), take_snoc hn]
      rintro σ H5 ⟨o4', rfl, s6, h6⟩
      rw [len_nats, List.take_length] at h6
      have sH5 : Same H H5 := sH4.trans s6
      -- here = there[0]
      refine ⟨_, rfl, _, _, _, _, rfl, rfl, SqL.of (s6 _ _ hth4), atI_nats (i := 0) h00, ?_⟩
      -- len(there) looks on
      refine ⟨_, rfl, _, _, rfl, .inl (SqL.of (s6 _ _ hth4)), _, rfl, by omega, by rw [len_nats]; omega, for_range (fun i σ H' => H' = H5 ∧ ∃ (o6 : Option V), σ = [some (.ref a), some (.ref hs), some (.ref th'), some (.ref lk), o4', some (.int (KM.it fl i x0 : Nat)), o6, o7]) ⟨rfl, _, rfl⟩ ?_ ?_⟩
      · rintro i σ H' hi ⟨rfl, o6', rfl⟩
        exact ⟨_, rfl, _, rfl, lk, _, rfl, lookD_get h6 (KM.it_mem hfin hx0 i), rfl, _, rfl⟩
      rintro σ H' ⟨rfl, o6', rfl⟩
      have eM : (((nats ts).length : Nat) : Int).toNat = ts.length := by rw [Int.toNat_natCast, len_nats]
      rw [eM]
      obtain ⟨pr, hpr, _, per⟩ := KM.periodic hfin hx0 (Nat.le_refl ts.length)
      have hc0 : KM.it fl ts.length x0 ∈ ts := KM.it_mem hfin hx0 _
      generalize KM.it fl ts.length x0 = c0 at per hc0
      -- gone = []
      refine ⟨Nat.zero_le _, fun g hg => ?_⟩
      have s7 : Same H' (upd H' g (.lst [])) := Same.upd (Same.refl _) hg
      have hgH : H g = none := sH5.free hg
      have hgs : g ≠ hs := (ne_of_none (s6 _ _ hhs4) hg).symm
      have hgt : g ≠ th' := (ne_of_none (s6 _ _ hth4) hg).symm
      have hglk : g ≠ lk := (ne_of_none h6 hg).symm
      have hlkH : H lk = none := sH4.free hlk
      have hlks : lk ≠ hs := (ne_of_none hhs4 hlk).symm
      have hlkt : lk ≠ th' := (ne_of_none hth4 hlk).symm
      -- while here not in gone
      refine ⟨fun m σ H8 => ∃ (k : Nat), m = ts.length - k ∧ σ = [some (.ref a), some (.ref hs), some (.ref th'), some (.ref lk), o4', some (.int (KM.it fl k c0 : Nat)), o6', some (.ref g)] ∧ Same H H8 ∧ H8 hs = some (.lst (nats (KM.writes fl (KM.orbit fl c0 k) ds))) ∧ H8 th' = some (.lst (nats ts)) ∧
          H8 lk = some (.dK (lookD fl ts)) ∧ H8 g = some (.lst (nats (KM.orbit fl c0 k))) ∧ (KM.orbit fl c0 k).Nodup,
        ⟨_, 0, rfl, rfl, sH5.trans s7, s7 _ _ (s6 _ _ hhs4), s7 _ _ (s6 _ _ hth4), s7 _ _ h6, upd_same, List.nodup_nil⟩, ?_⟩
      rintro m σ H8 ⟨k, rfl, rfl, s8, h8s, h8t, h8l, h8g, ndo⟩
      have hck : KM.it fl k c0 ∈ ts := KM.it_mem hfin hc0 k
      have hko : ∀ x ∈ KM.orbit fl c0 k, x ∈ ts := fun x hx => by
        obtain ⟨i, _, e⟩ := KM.mem_orbit.mp hx
        rw [← e]
        exact KM.it_mem hfin hc0 i
      have hkl : k ≤ ts.length := by
        have := KM.len_le_of_subset ndo hko
        rw [KM.orbit_length] at this
        exact this
      refine ⟨_, rfl, _, rfl, g, _, rfl, .inl (SqL.of h8g), rfl, flat_ints _, _, rfl, ?_⟩
      refine ite2 (fun hin => ?_) (fun hin => ?_)
      · have hnot : ¬ KM.it fl k c0 ∈ KM.orbit fl c0 k := fun z => notin_of rfl hin (natL_mem.mpr z)
        have ndo' : (KM.orbit fl c0 (k + 1)).Nodup := by
          rw [KM.orbit_succ, List.nodup_append]
          exact ⟨ndo, by simp, fun x hx y hy e => by rw [List.mem_singleton.mp hy] at e; exact hnot (by rw [← e]; exact hx)⟩
        have hk1 : k + 1 ≤ ts.length := by
          have := KM.len_le_of_subset ndo' (l2 := ts) fun x hx => by
            obtain ⟨i, _, e⟩ := KM.mem_orbit.mp hx
            rw [← e]
            exact KM.it_mem hfin hc0 i
          rw [KM.orbit_length] at this
          exact this
        refine ⟨fun σ' H' => ∃ m', m' < ts.length - k ∧ ∃ (k : Nat), m' = ts.length - k ∧ σ' = [some (.ref a), some (.ref hs), some (.ref th'), some (.ref lk), o4', some (.int (KM.it fl k c0 : Nat)), o6', some (.ref g)] ∧ Same H H' ∧ H' hs = some (.lst (nats (KM.writes fl (KM.orbit fl c0 k) ds))) ∧ H' th' = some (.lst (nats ts)) ∧
          H' lk = some (.dK (lookD fl ts)) ∧ H' g = some (.lst (nats (KM.orbit fl c0 k))) ∧ (KM.orbit fl c0 k).Nodup, fun _ _ h => h, ?_⟩
        -- gone.append(here)
        refine ⟨_, rfl, .inl ⟨rfl, _, SqL.of h8g⟩, _, rfl, g, _, _, rfl, rfl, h8g, ?_, ?_⟩
        · rw [len_nats, KM.orbit_length]
          exact small1000 (by omega)
        rw [nats_snoc, ← KM.orbit_succ]
        have h9s : upd H8 g (.lst (nats (KM.orbit fl c0 (k + 1)))) hs = some (.lst (nats (KM.writes fl (KM.orbit fl c0 k) ds))) := by rw [upd_ne hgs.symm]; exact h8s
        have h9t : upd H8 g (.lst (nats (KM.orbit fl c0 (k + 1)))) th' = some (.lst (nats ts)) := by rw [upd_ne hgt.symm]; exact h8t
        have h9l : upd H8 g (.lst (nats (KM.orbit fl c0 (k + 1)))) lk = some (.dK (lookD fl ts)) := by rw [upd_ne hglk.symm]; exact h8l
        have h9g : upd H8 g (.lst (nats (KM.orbit fl c0 (k + 1)))) g = some (.lst (nats (KM.orbit fl c0 (k + 1)))) := upd_same
        have s9 : Same H (upd H8 g (.lst (nats (KM.orbit fl c0 (k + 1))))) := Same.upd s8 hgH
        generalize upd H8 g (.lst (nats (KM.orbit fl c0 (k + 1)))) = H9 at h9s h9t h9l h9g s9
        -- houses[here] = looks[here]
        refine ⟨_, rfl, _, rfl, lk, _, rfl, lookD_get h9l hck, _, rfl, _, rfl, hs, _, _, KM.it fl k c0, rfl, rfl, h9s, ?_, ?_⟩
        · rw [len_nats, KM.writes_length, hds]
          exact ixN_nat (hlt _ hck)
        rw [nats_set, ← KM.writes_snoc, ← KM.orbit_succ]
        have h10l : upd H9 hs (.lst (nats (KM.writes fl (KM.orbit fl c0 (k + 1)) ds))) lk = some (.dK (lookD fl ts)) := by rw [upd_ne hlks]; exact h9l
        refine ⟨_, rfl, _, rfl, lk, _, rfl, lookD_get h10l hck, ?_⟩
        exact ⟨ts.length - (k + 1), by omega, k + 1, rfl, rfl, Same.upd s9 hhs0, upd_same, by rw [upd_ne hne.symm]; exact h9t, h10l, by rw [upd_ne hgs]; exact h9g, ndo'⟩
      · have hmem : KM.it fl k c0 ∈ KM.orbit fl c0 k := natL_mem.mp (in_of_not rfl hin)
        have hk0 : 0 < k := by
          rcases Nat.eq_zero_or_pos k with z | z
          · subst z; cases hmem
          · exact z
        have close := KM.ring_close hpr per ndo hmem
        have hc0o : c0 ∈ KM.orbit fl c0 k := KM.mem_orbit.mpr ⟨0, hk0, rfl⟩
        -- there = [holder for holder in there if holder not in gone]
        refine ⟨_, rfl, th', rfl, ⟨_, SqL.of h8t⟩, fun acc hacc => lc_list (K := K) (a := th') (xs := nats ts) (fun i ys H' => ys = nats ((ts.take i).filter fun x => decide (x ∉ KM.orbit fl c0 k)) ∧ Same H8 H' ∧ H' acc = some (.lst ys))
          ⟨rfl, Same.upd (Same.refl _) hacc, upd_same⟩ (fun i ys H' _ ⟨_, sm, h⟩ => ⟨h, SqL.of (sm _ _ h8t)⟩) ?_ ?_⟩
        · rintro i y ys H' hy ⟨rfl, sm, hh⟩
          obtain ⟨n, rfl, hn⟩ := nats_at hy
          have hil : i < ts.length := (List.getElem?_eq_some_iff.mp hn).1
          refine ⟨_, rfl, _, rfl, g, _, rfl, .inl (SqL.of (sm _ _ h8g)), rfl, flat_ints _, _, rfl, ?_⟩
          refine ite2 (fun hz => ?_) (fun hz => ?_)
          · have hz : n ∉ KM.orbit fl c0 k := fun z => notin_of rfl hz (natL_mem.mpr z)
            refine ⟨_, rfl, hh, ?_, ?_, Same.upd sm hacc, upd_same⟩
            · rw [len_nats]
              refine small1000 (Nat.le_trans (List.length_filter_le _ _) ?_)
              rw [List.length_take]
              omega
            · rw [nats_snoc, take_snoc hn, List.filter_append, List.filter_cons_of_pos (by simpa using hz)]
              rfl
          · have hz : n ∈ KM.orbit fl c0 k := natL_mem.mp (in_of_not rfl hz)
            refine ⟨?_, sm, hh⟩
            rw [take_snoc hn, List.filter_append, List.filter_cons_of_neg (by simpa using hz)]
            simp
        · rintro ys H' ⟨rfl, sm, hh⟩
          rw [len_nats, List.take_length] at hh
          obtain ⟨t', C'⟩ := KM.ring_step (ts' := ts.filter fun x => decide (x ∉ KM.orbit fl c0 k)) (gs := KM.orbit fl c0 k) (f := fl) C hds hlt hko (fun x hx => KM.ring_into hk0 close hx) (fun x hx y hy e => KM.ring_inj ndo close hx hy e)
            (fun x hx y hy => by rw [← hf]; exact KM.look_best hy) (fun x => by rw [List.mem_filter]; simp)
          refine ⟨_, ?_, ts.filter fun x => decide (x ∉ KM.orbit fl c0 k), KM.writes fl (KM.orbit fl c0 k) ds, acc, _, _, _, _, _, t', τ + 1, rfl, rfl, s8.trans sm, sm _ _ h8s, hh, s8.free hacc, ne_of_none h8s hacc, by rw [KM.writes_length]; exact hds, List.Nodup.sublist List.filter_sublist hnd, fun x hx => hlt x (List.mem_filter.mp hx).1, C'⟩
          refine List.length_filter_lt_length_iff_exists.mpr ⟨c0, hc0, by simpa using hc0o⟩
end
end K02

set_option Elab.async false
set_option linter.all false
set_option maxRecDepth 100000
set_option maxHeartbeats 4000000
namespace K02
open PySem L2 KS
section
variable {P : Program} {w : World} {K : PySem.W.Frag} {mg : Str → Option Value} {base : Heap} {f : Addr} {fd : FuncData}
abbrev nAny : List Str := ["_law_cell", "_law_size"]
theorem scAny : FnScope nAny ["_law_cell"] (defScope sAny) := ⟨rfl, rfl, rfl, by decide +kernel, rfl, by decide +kernel, by decide +kernel⟩
theorem ok_any (F : Fun K "_law_any" "_law_any" sAny f fd) (T : Own K mg) : FnOk P w K mg base CX0 1 f fd ["_law_cell"] spAny := by
  refine F.ok scAny (fun vs H Q E h => ?_) (fun cdv A outer s H vs Q E hr h => ?_)
  · obtain ⟨n, rfl, _⟩ := h
    rfl
  · obtain ⟨n, rfl, q⟩ := h
    have nd := scAny.nd
    refine ⟨_, (pss_cons (ps_set (i := 1) nd rfl (Or.inl rfl) (pe_op op_mod (pe_op op_fdiv (pv 0) pe_int) (pe_op op_pow pe_int pe_int)))
 (pss_one (ps_ret (pe_op op_mul (pv 1) (@pe_ix _ _ _ _ _ _ _ ix_list (@pe_lst _ _ _ _ (pa_cons pe_int (pa_cons (pe_un un_neg pe_int) pa_nil))) (pe_op op_mod (pv 0) pe_int) plain_op))))), ?_⟩
    have p59 : (0 : Int) < 10 ^ (59 : Nat) := by decide
    obtain ⟨j, ej, hj⟩ := modN (a := n) (c := 2) (by decide)
    refine ⟨_, rfl, _, _, rfl, rfl, ⟨(by decide), (by decide)⟩, _, _, rfl, rfl, ⟨by decide, by decide, by decide⟩, _, _, rfl, rfl, p59, ?_⟩
    refine ⟨_, rfl, _, rfl, (by show (2 : Nat) ≤ sizeLine; exact small_line (by decide)), fun p hp => ?_⟩
    refine ⟨_, rfl, _, _, rfl, rfl, (by show (0 : Int) < 2; decide), p, _, n % 2, V.int (if j = 0 then 1 else -1), rfl, rfl, SqL.of upd_same, ?_, _, _, rfl, rfl, ?_, ?_⟩
    · rw [show n % 2 = (j : Int) from ej]
      match j, hj with
      | 0, _ => rfl
      | 1, _ => rfl
    · refine .inr ?_
      split <;> exact ⟨by decide, by decide⟩
    · exact q _ _ (Same.upd (Same.refl H) hp)
end
end K02

set_option Elab.async false
set_option linter.all false
set_option maxRecDepth 100000
set_option maxHeartbeats 4000000
namespace K02
open PySem L2 KS
section
variable {P : Program} {w : World} {K : PySem.W.Frag} {mg : Str → Option Value} {base : Heap} {f : Addr} {fd : FuncData}
abbrev nBaseTells : List Str := ["_law_lists", "_law_way", "e", "_law_many"]
theorem scBaseTells : FnScope nBaseTells ["_law_lists", "_law_way"] (defScope sBaseTells) := ⟨rfl, rfl, rfl, by decide +kernel, rfl, by decide +kernel, by decide +kernel⟩
theorem boot_VE : bootBuiltins "ValueError" = some (.type "ValueError") := by decide +kernel
theorem ok_basetells {C0 C1 C2 : Addr} (F : Fun K "_law_base_tells" "_law_base_tells" sBaseTells f fd) (T : Own K mg) (Z : Refs K mg C0 C1 C2) (A1 : FnX P w K mg base "rounds" ["wishes"] 3 (orSp spRounds (spWrong C1 C2 0)))
    (A3 : FnX P w K mg base "gladder" ["wishes", "houses", "others"] 3 (orSp (spGladder K) (spWrong C1 C2 2))) : FnOk P w K mg base CX0 4 f fd ["_law_lists", "_law_way"] spBaseTells := by
  obtain ⟨f1, fd1, G1, m1, k1, b1⟩ := A1
  obtain ⟨f3, fd3, G3, m3, k3, b3⟩ := A3
  refine F.ok scBaseTells (fun vs H Q E h => ?_) (fun cdv A outer s H vs Q E hr h => ?_)
  · obtain ⟨j, a, as, rs, x, rfl, _⟩ := h
    rfl
  · obtain ⟨j, a, as, rs, x, rfl, R, h0, hn, short, due, q⟩ := h
    have nd := scBaseTells.nd
    refine ⟨_, (pss_cons (ps_try ⟨rfl, rfl, rfl⟩ (fun _ _ _ hpass => (pss_one (ps_if (pt_cmpR op_eq (pv 1) pe_int (nomark _))
 (pss_one (ps_expr (pe_call G1 hr (by rfl) m1 k1 b1 .nil hpass (pa_cons (pv 0) pa_nil)))) (pss_one (ps_expr (pe_call G3 hr (by rfl) m3 k3 b3 .nil hpass (pa_cons (pv 0) (pa_cons (pe_callTy (call_list_rng rfl) (by rfl) T.list PyProof.Rows.boot_list (pa_cons (pe_range1 (by rfl) T.range (pa_cons (pe_callB (show CallR _ _ (rLenOf K) from call_lenR) (by rfl) T.len PySem.boot_len (pa_cons (pv 0) pa_nil)) pa_nil)) pa_nil)) (pa_cons (pe_callTy (call_list_rng rfl) (by rfl) T.list PyProof.Rows.boot_list (pa_cons (pe_range1 (by rfl) T.range (pa_cons (pe_callB (show CallR _ _ (rLenOf K) from call_lenR) (by rfl) T.len PySem.boot_len (pa_cons (pv 0) pa_nil)) pa_nil)) pa_nil)) pa_nil))))))))) (ph_as (i := 2) (by rfl) Z.m0 nd rfl rfl (fun _ => (pss_cons (ps_set (i := 3) nd rfl (Or.inl rfl) (pe_op op_add (pe_callTy call_int1 (by rfl) T.int PyProof.Rows.boot_int (pa_cons (pe_callB (show CallR _ _ (rIsExc K) from call_isexc) (by rfl) T.isinstance PyProof.Rows.boot_isinstance (pa_cons (pv 2) (pa_cons (pe_glob (v := .ref C1) (by rfl) Z.m1 rfl) pa_nil))) pa_nil)) (pe_callTy call_int1 (by rfl) T.int PyProof.Rows.boot_int (pa_cons (pe_callB (show CallR _ _ (rIsExc K) from call_isexc) (by rfl) T.isinstance PyProof.Rows.boot_isinstance (pa_cons (pv 2) (pa_cons (pe_glob (v := .ref C2) (by rfl) Z.m2 rfl) pa_nil))) pa_nil))))
 (pss_one (ps_ret (pe_and (pe_callB (show CallR _ _ (rIsExc K) from call_isexc) (by rfl) T.isinstance PyProof.Rows.boot_isinstance (pa_cons (pv 2) (pa_cons (pe_bltn (v := .ty "ValueError") (by rfl) Z.ve boot_VE rfl) pa_nil))) (pe_one (pe_cmpR op_eq (pv 3) pe_int (nomark _)))))))) ph_nil))
 (pss_one (ps_ret pe_bl))), ?_⟩
    -- how it is told
    have hT : ∀ {C : Addr} {H' : Hp}, Wrong C1 C2 rs C → Same H H' → ∀ σ' : St, σ'.length = 4 → ∃ b, PySem.W.exmOne K (.ref C) (.ref C0) = some b ∧
        if b = true then ∀ ea : Addr, H' ea = none → tSeq (tAsg (tOp (rI0 fun i j => V.int (i + j))
            (tCB (fun xs H Q => (∃ i, xs = [V.int i] ∧ Q (V.int i) H) ∨ ∃ k, xs = [V.bl k] ∧ Q (V.int (if k = true then 1 else 0)) H) (tCons (tCB (rIsExc K) (tCons (tVar 2) (tCons (tC (V.ref C1)) tNil))) tNil))
            (tCB (fun xs H Q => (∃ i, xs = [V.int i] ∧ Q (V.int i) H) ∨ ∃ k, xs = [V.bl k] ∧ Q (V.int (if k = true then 1 else 0)) H) (tCons (tCB (rIsExc K) (tCons (tVar 2) (tCons (tC (V.ref C2)) tNil))) tNil))) (gName 3))
          (tRet (tAndV (tCB (rIsExc K) (tCons (tVar 2) (tCons (tC (V.ty "ValueError")) tNil))) (tOp rEq (tVar 3) (tC (V.int 1))))) { nx := fun _ _ => False, rt := Q } (List.set σ' 2 (some (V.ref ea))) (upd H' ea (excO ea (.ref C)))
        else False := fun {C H'} wr s' σ' hl => by
      match σ', hl with
      | [o0, o1, o2, o3], _ =>
        rcases wr with ⟨z, rfl⟩ | ⟨z, t, rfl⟩
        · have ex : x = "no house" := by
            rcases due with ⟨_, e⟩ | ⟨z', _⟩ | ⟨wf, _⟩
            · exact e
            · exact absurd z z'
            · obtain ⟨r, hr, y, hy, b⟩ := z
              have := wf.rng r hr y hy
              omega
          refine ⟨true, Z.e10, iteT fun ea hea => ?_⟩
          have q' := q _ (Same.upd (o := excO ea (.ref C)) s' (s'.free hea))
          rw [ex] at q'
          refine ⟨_, rfl, ea, _, C, true, rfl, upd_same, Z.x1, .inl ⟨_, rfl, Z.k11⟩, .inr ⟨_, rfl, _, rfl, ea, _, C, false, rfl, upd_same, Z.x1, .inl ⟨_, rfl, Z.k12⟩, .inr ⟨_, rfl, _, _, rfl, rfl, ?_⟩⟩⟩
          exact ⟨_, rfl, ea, _, C, true, rfl, upd_same, Z.x1, .inr ⟨_, rfl, Z.kv1⟩, _, rfl, iteT ⟨_, rfl, rfl, q'⟩⟩
        · have ex : x = "twice" := by
            rcases due with ⟨z', _⟩ | ⟨_, _, e⟩ | ⟨wf, _⟩
            · exact absurd z' z
            · exact e
            · obtain ⟨r, hr, b⟩ := t
              exact absurd (wf.nd r hr) b
          refine ⟨true, Z.e20, iteT fun ea hea => ?_⟩
          have q' := q _ (Same.upd (o := excO ea (.ref C)) s' (s'.free hea))
          rw [ex] at q'
          refine ⟨_, rfl, ea, _, C, false, rfl, upd_same, Z.x2, .inl ⟨_, rfl, Z.k21⟩, .inr ⟨_, rfl, _, rfl, ea, _, C, true, rfl, upd_same, Z.x2, .inl ⟨_, rfl, Z.k22⟩, .inr ⟨_, rfl, _, _, rfl, rfl, ?_⟩⟩⟩
          exact ⟨_, rfl, ea, _, C, true, rfl, upd_same, Z.x2, .inr ⟨_, rfl, Z.kv2⟩, _, rfl, iteT ⟨_, rfl, rfl, q'⟩⟩
    have cs : (WF rs.length rs ∧ x = "done") ∨ ∃ C, Wrong C1 C2 rs C := by
      rcases due with ⟨z, _⟩ | ⟨z, t, _⟩ | h
      · exact .inr ⟨C1, .inl ⟨z, rfl⟩⟩
      · exact .inr ⟨C2, .inr ⟨z, t, rfl⟩⟩
      · exact .inl h
    have el : (((refs as).length : Nat) : Int) = (rs.length : Int) := by rw [List.length_map, R.len]
    have pr : (List.range rs.length).Perm (List.range rs.length) := List.Perm.refl _
    refine ⟨_, rfl, rfl, _, rfl, ?_⟩
    refine ite2 (fun hz => ?_) (fun hz => ?_)
    · refine ⟨_, rfl, ?_⟩
      rcases cs with ⟨wf, e⟩ | ⟨C, wr⟩
      · rw [e] at q
        exact .inl ⟨a, as, rs, rfl, R, wf, hn, fun b bs gs H' s' _ _ => q H' s'⟩
      · exact .inr ⟨a, as, rs, C, [], rfl, rfl, R, hn, short, wr, fun H' s' => hT wr s'⟩
    · refine ⟨_, rfl, _, rfl, _, _, rfl, .inl (SqL.of R.top), _, rfl, fun p0 hp0 => ?_⟩
      rw [el]
      have s0 : Same H (upd H p0 (.rng 0 (rs.length : Int))) := Same.upd (Same.refl H) hp0
      refine ⟨p0, rs.length, rfl, upd_same, by omega, fun hs hhs => ?_⟩
      have s1 : Same H (upd (upd H p0 (.rng 0 (rs.length : Int))) hs (.lst ((L2.upTo rs.length).map V.int))) := Same.upd s0 (s0.free hhs)
      have h1 : upd (upd H p0 (.rng 0 (rs.length : Int))) hs (.lst ((L2.upTo rs.length).map V.int)) hs = some (.lst (nats (List.range rs.length))) := by rw [upd_same, upTo_natL]
      generalize upd (upd H p0 (.rng 0 (rs.length : Int))) hs (.lst ((L2.upTo rs.length).map V.int)) = H1 at s1 h1
      refine ⟨_, rfl, _, _, rfl, .inl (SqL.of (s1 _ _ R.top)), _, rfl, fun p1 hp1 => ?_⟩
      rw [el]
      have s2 : Same H1 (upd H1 p1 (.rng 0 (rs.length : Int))) := Same.upd (Same.refl H1) hp1
      refine ⟨p1, rs.length, rfl, upd_same, by omega, fun hs2 hhs2 => ?_⟩
      have s3 : Same H1 (upd (upd H1 p1 (.rng 0 (rs.length : Int))) hs2 (.lst ((L2.upTo rs.length).map V.int))) := Same.upd s2 (s2.free hhs2)
      have h3 : upd (upd H1 p1 (.rng 0 (rs.length : Int))) hs2 (.lst ((L2.upTo rs.length).map V.int)) hs2 = some (.lst (nats (List.range rs.length))) := by rw [upd_same, upTo_natL]
      generalize upd (upd H1 p1 (.rng 0 (rs.length : Int))) hs2 (.lst ((L2.upTo rs.length).map V.int)) = H3 at s3 h3
      have s13 := s1.trans s3
      rcases cs with ⟨wf, e⟩ | ⟨C, wr⟩
      · rw [e] at q
        exact .inl ⟨a, hs, hs2, as, rs, _, _, rfl, R.same s13, wf, by omega, SqL.of (s3 _ _ h1), SqL.of h3, pr, pr, fun b H' s' _ _ => q H' (s13.trans s')⟩
      · exact .inr ⟨a, as, rs, C, [.ref hs, .ref hs2], rfl, rfl, R.same s13, hn, short, wr, fun H' s' => hT wr (s13.trans s')⟩
end
end K02

set_option Elab.async false
set_option linter.all false
set_option maxRecDepth 100000
set_option maxHeartbeats 4000000
namespace K02
open PySem L2 KS
section
variable {P : Program} {w : World} {K : PySem.W.Frag} {mg : Str → Option Value} {base : Heap} {f : Addr} {fd : FuncData}
abbrev nSaid : List Str := ["_law_way", "_law_lists", "_law_houses", "_law_word"]
theorem scSaid : FnScope nSaid ["_law_way", "_law_lists"] (defScope sSaid) := ⟨rfl, rfl, rfl, by decide +kernel, rfl, by decide +kernel, by decide +kernel⟩
theorem ok_said {C0 C1 C2 : Addr} (F : Fun K "_law_said" "_law_said" sSaid f fd) (T : Own K mg) (Z : Refs K mg C0 C1 C2) (A1 : FnX P w K mg base "rounds" ["wishes"] 3 (orSp spRounds (spWrong C1 C2 0))) (A2 : FnX P w K mg base "dealt" ["wishes"] 4 (orSp spDealt (spWrong C1 C2 0)))
    (A3 : FnX P w K mg base "gladder" ["wishes", "houses", "others"] 3 (orSp (spGladder K) (spWrong C1 C2 2))) (A4 : FnX P w K mg base "undone_by" ["wishes", "houses", "group", "among"] 3 (orSp (spUndone K) (spWrong C1 C2 3))) : FnOk P w K mg base CX0 5 f fd ["_law_way", "_law_lists"] spSaid := by
  obtain ⟨f1, fd1, G1, m1, k1, b1⟩ := A1
  obtain ⟨f2, fd2, G2, m2, k2, b2⟩ := A2
  obtain ⟨f3, fd3, G3, m3, k3, b3⟩ := A3
  obtain ⟨f4, fd4, G4, m4, k4, b4⟩ := A4
  refine F.ok scSaid (fun vs H Q E h => ?_) (fun cdv A outer s H vs Q E hr h => ?_)
  · obtain ⟨j, a, as, rs, x, rfl, _⟩ := h
    rfl
  · obtain ⟨j, a, as, rs, x, rfl, R, h0, hn, short, due, q⟩ := h
    have nd := scSaid.nd
    have hr3 := hr.mono (j := 3) (by decide)
    refine ⟨_, (pss_cons (ps_setLc (i := 2) (fr := []) (ix := []) (te := tVar 0) nd rfl (Or.inl rfl) rfl (compScope (defScope sSaid) nSaid rfl rfl (by decide +kernel)) (pi_range1 (by rfl) T.range (pa_cons (pe_callB call_len_seq (by rfl) T.len PySem.boot_len (pa_cons (pv 1) pa_nil)) pa_nil)) (fun _ _ _ _ _ => pifs_nil) (fun _ _ _ _ _ => (pv 0)))
 (pss_cons (ps_set (i := 3) nd rfl (Or.inl rfl) pe_str)
 (pss_cons (ps_try ⟨rfl, rfl, rfl⟩ (fun _ _ _ hpass => (pss_one (ps_if (pt_cmpR op_eq (pv 0) pe_int (nomark _))
 (pss_one (ps_expr (pe_call G1 hr3 (by rfl) m1 k1 b1 .nil hpass (pa_cons (pv 1) pa_nil)))) (pss_one (ps_if (pt_cmpR op_eq (pv 0) pe_int (nomark _))
 (pss_one (ps_expr (pe_call G2 hr (by rfl) m2 k2 b2 .nil hpass (pa_cons (pv 1) pa_nil)))) (pss_one (ps_if (pt_cmpR op_eq (pv 0) pe_int (nomark _))
 (pss_one (ps_expr (pe_call G3 hr3 (by rfl) m3 k3 b3 .nil hpass (pa_cons (pv 1) (pa_cons (pv 2) (pa_cons (pv 2) pa_nil)))))) (pss_one (ps_expr (pe_call G4 hr3 (by rfl) m4 k4 b4 .nil hpass (pa_cons (pv 1) (pa_cons (pv 2) (@pa_cons _ _ _ _ _ (pe_lst (pa_cons pe_int pa_nil)) (@pa_cons _ _ _ _ _ (pe_lst (pa_cons pe_int pa_nil)) pa_nil star_list) star_list))))))))))))) (ph_name (by rfl) Z.m1 (fun _ => (pss_one (ps_set (i := 3) nd rfl (Or.inl rfl) pe_str))) (ph_name (by rfl) Z.m2 (fun _ => (pss_one (ps_set (i := 3) nd rfl (Or.inl rfl) pe_str))) ph_nil)))
 (pss_one (ps_ret (pv 3)))))), ?_⟩
    have eN : (((refs as).length : Nat) : Int).toNat = rs.length := by rw [Int.toNat_natCast, List.length_map, R.len]
    -- houses
    refine ⟨_, rfl, _, _, rfl, .inl (SqL.of R.top), _, rfl, by omega, by rw [List.length_map, R.len]; omega, fun ho hho => lc_range0 (fun i ys H' => ys = nats (List.range i) ∧ Same H H' ∧ H' ho = some (.lst ys)) ⟨rfl, Same.upd (Same.refl H) hho, upd_same⟩ (fun i ys H' _ ⟨_, _, h⟩ => h) ?_ ?_⟩
    · rintro i ys H' hi ⟨rfl, sm, hh⟩
      refine ⟨_, rfl, hh, ?_, ?_, Same.upd sm hho, upd_same⟩
      · rw [len_nats, List.length_range]
        rw [eN] at hi
        exact small1000 (by omega)
      · rw [show (0 : Int) + (i : Int) = (i : Int) by omega, nats_snoc, List.range_succ]
    rintro ys H1 ⟨rfl, s1, h1⟩
    rw [eN] at h1
    have R1 := R.same s1
    have due0 := due
    -- what is said
    have hC : ∀ {C : Addr} {H' : Hp}, Wrong C1 C2 rs C → Same H1 H' → ∀ σ' : St, σ'.length = 4 → ∃ b, PySem.W.exmOne K (.ref C) (.ref C1) = some b ∧
        if b = true then tAsg (tC (V.str "no house")) (gName 3) { nx := tRet (tVar 3) { nx := fun _ H' => Q V.non H', rt := Q }, rt := Q } σ' H'
        else ∃ b, PySem.W.exmOne K (.ref C) (.ref C2) = some b ∧ if b = true then tAsg (tC (V.str "twice")) (gName 3) { nx := tRet (tVar 3) { nx := fun _ H' => Q V.non H', rt := Q }, rt := Q } σ' H' else False := fun {C H'} wr s' σ' hl => by
      have q' := q H' (s1.trans s')
      match σ', hl with
      | [o0, o1, o2, o3], _ =>
        rcases wr with ⟨z, rfl⟩ | ⟨z, t, rfl⟩
        · refine ⟨true, Z.e11, iteT ?_⟩
          rcases due with ⟨_, e⟩ | ⟨z', _⟩ | ⟨wf, _⟩
          · rw [e] at q'
            exact ⟨_, rfl, q'⟩
          · exact absurd z z'
          · obtain ⟨r, hr, y, hy, b⟩ := z
            have := wf.rng r hr y hy
            omega
        · refine ⟨false, Z.e21, iteF ⟨true, Z.e22, iteT ?_⟩⟩
          rcases due with ⟨z', _⟩ | ⟨_, _, e⟩ | ⟨wf, _⟩
          · exact absurd z' z
          · rw [e] at q'
            exact ⟨_, rfl, q'⟩
          · obtain ⟨r, hr, b⟩ := t
            exact absurd (wf.nd r hr) b
    have cs : (WF rs.length rs ∧ x = "done") ∨ ∃ C, Wrong C1 C2 rs C := by
      rcases due with ⟨z, _⟩ | ⟨z, t, _⟩ | h
      · exact .inr ⟨C1, .inl ⟨z, rfl⟩⟩
      · exact .inr ⟨C2, .inr ⟨z, t, rfl⟩⟩
      · exact .inl h
    have lo := SqL.of (K := K) h1
    have pr : (List.range rs.length).Perm (List.range rs.length) := List.Perm.refl _
    refine ⟨_, rfl, rfl, _, rfl, ?_⟩
    refine ite2 (fun hz => ?_) (fun hz => ?_)
    · refine ⟨_, rfl, ?_⟩
      rcases cs with ⟨wf, e⟩ | ⟨C, wr⟩
      · rw [e] at q
        exact .inl ⟨a, as, rs, rfl, R1, wf, hn, fun b bs gs H' s' _ _ => ⟨_, rfl, q H' (s1.trans s')⟩⟩
      · exact .inr ⟨a, as, rs, C, [], rfl, rfl, R1, hn, short, wr, fun H' s' => hC wr s'⟩
    refine ⟨_, rfl, rfl, _, rfl, ?_⟩
    refine ite2 (fun hz => ?_) (fun hz => ?_)
    · refine ⟨_, rfl, ?_⟩
      rcases cs with ⟨wf, e⟩ | ⟨C, wr⟩
      · rw [e] at q
        exact .inl ⟨a, as, rs, rfl, R1, wf, hn, fun b ds H' s' _ _ _ => ⟨_, rfl, q H' (s1.trans s')⟩⟩
      · exact .inr ⟨a, as, rs, C, [], rfl, rfl, R1, hn, short, wr, fun H' s' => hC wr s'⟩
    refine ⟨_, rfl, rfl, _, rfl, ?_⟩
    refine ite2 (fun hz => ?_) (fun hz => ?_)
    · refine ⟨_, rfl, _, rfl, _, rfl, ?_⟩
      rcases cs with ⟨wf, e⟩ | ⟨C, wr⟩
      · rw [e] at q
        exact .inl ⟨a, ho, ho, as, rs, _, _, rfl, R1, wf, by omega, lo, lo, pr, pr, fun b H' s' _ _ => ⟨_, rfl, q H' (s1.trans s')⟩⟩
      · exact .inr ⟨a, as, rs, C, [.ref ho, .ref ho], rfl, rfl, R1, hn, short, wr, fun H' s' => hC wr s'⟩
    · refine ⟨_, rfl, _, rfl, small_line (n := 1) (by decide), fun g hg => ⟨small_line (n := 1) (by decide), fun m hm => ?_⟩⟩
      have s2 : Same H1 (upd H1 g (.lst [V.int 0])) := Same.upd (Same.refl H1) hg
      have s3 : Same H1 (upd (upd H1 g (.lst [V.int 0])) m (.lst [V.int 0])) := Same.upd s2 (s2.free hm)
      have hgm : upd (upd H1 g (.lst [V.int 0])) m (.lst [V.int 0]) g = some (.lst (nats [0])) := by
        rw [upd_ne (ne_of_none upd_same hm)]
        exact upd_same
      have hmm : upd (upd H1 g (.lst [V.int 0])) m (.lst [V.int 0]) m = some (.lst (nats [0])) := upd_same
      generalize upd (upd H1 g (.lst [V.int 0])) m (.lst [V.int 0]) = H3 at s3 hgm hmm
      rcases cs with ⟨wf, e⟩ | ⟨C, wr⟩
      · rw [e] at q
        exact .inl ⟨a, ho, g, m, as, rs, _, [0], [0], rfl, R1.same s3, wf, by omega, s3.seq lo, SqL.of hgm, SqL.of hmm, pr, by simp, by simpa using h0, List.Perm.refl _, fun H' s' => ⟨_, rfl, q H' ((s1.trans s3).trans s')⟩⟩
      · exact .inr ⟨a, as, rs, C, [.ref ho, .ref g, .ref m], rfl, rfl, R1.same s3, hn, short, wr, fun H' s' => hC wr (s3.trans s')⟩
end
end K02

set_option Elab.async false
set_option linter.all false
set_option maxRecDepth 100000
set_option maxHeartbeats 4000000
namespace K02
open PySem L2 KS
section
variable {P : Program} {w : World} {K : PySem.W.Frag} {mg : Str → Option Value} {base : Heap} {f : Addr} {fd : FuncData}
abbrev nxPRefuseWrong : List Str := ["wishes", "holder", "told", "house"]
theorem scxPRefuseWrong : FnScope nxPRefuseWrong ["wishes"] (defScope sPRefuseWrong) := ⟨rfl, rfl, rfl, by decide +kernel, rfl, by decide +kernel, by decide +kernel⟩
theorem ox_prefusewrong {C0 C1 C2 : Addr} (F : Fun K "refuse_wrong" "refuse_wrong" sPRefuseWrong f fd) (T : Own K mg) (Z : Refs K mg C0 C1 C2) : FnOk P w K mg base (CX1 P w) 1 f fd ["wishes"] (spWrong C1 C2 0) := by
  refine F.okX scxPRefuseWrong (fun vs H Q E h => ?_) (fun cdv A outer s H vs Q E hr h => ?_)
  · obtain ⟨a, as, rs, C, rest, rfl, e, _⟩ := h
    rw [List.length_cons, e]
    rfl
  · obtain ⟨a, as, rs, C, rest, rfl, e0, R, hn, short, wr, q⟩ := h
    cases List.length_eq_zero_iff.mp e0
    have nd := scxPRefuseWrong.nd
    refine ⟨_, (pss_cons (ps_for PassesOwn.leaving rfl (pi_enum (by rfl) T.enumerate (pa_cons (pv 0) pa_nil)) (pg_tup rfl (pgs_cons (pg_name (i := 1) nd rfl (Or.inl rfl)) (pgs_cons (pg_name (i := 2) nd rfl (Or.inl rfl)) pgs_nil)))
 (pss_one (ps_for PassesOwn.leaving rfl (pi_list (pv 2)) (pg_name (i := 3) nd rfl (Or.inl rfl))
 (pss_one (ps_if (pw_or (pt_cmpR op_lt (pv 3) pe_int (nomark _)) (pw_or1 (pt_cmpR op_ge (pv 3) (pe_callB call_len_seq (by rfl) T.len PySem.boot_len (pa_cons (pv 0) pa_nil)) (nomark _)))).pt
 (pss_one (ps_raise (by rfl) Z.m1 Z.v1 (pa_cons (pe_fstr (pv 1) (by decide) (by decide)) pa_nil))) pss_nil)))))
 (pss_one (ps_for PassesOwn.leaving rfl (pi_enum (by rfl) T.enumerate (pa_cons (pv 0) pa_nil)) (pg_tup rfl (pgs_cons (pg_name (i := 1) nd rfl (Or.inl rfl)) (pgs_cons (pg_name (i := 2) nd rfl (Or.inl rfl)) pgs_nil)))
 (pss_one (ps_if (pt_cmpR op_lt (pe_callB call_lenS (by rfl) T.len PySem.boot_len (pa_cons (pe_callTy (call_setR rfl) (by rfl) T.set PyProof.Rows.boot_set (pa_cons (pv 2) pa_nil)) pa_nil)) (pe_callB call_len_seq (by rfl) T.len PySem.boot_len (pa_cons (pv 2) pa_nil)) (nomark _))
 (pss_one (ps_raise (by rfl) Z.m2 Z.v2 (pa_cons (pe_fstr (pv 1) (by decide) (by decide)) pa_nil))) pss_nil))))), ?_⟩
    have el : (((refs as).length : Nat) : Int) = (rs.length : Int) := by rw [List.length_map, R.len]
    refine ⟨_, rfl, a, rfl, ⟨_, SqL.of R.top⟩, for_enum (K := K) (a := a) (xs := refs as) (fun i σ H2 => ∃ (o1 o2 o3 : Option V), σ = [some (.ref a), o1, o2, o3] ∧ Same H H2 ∧ ∀ r ∈ rs.take i, ∀ x ∈ r, ¬ (x < 0 ∨ (rs.length : Int) ≤ x))
      ⟨none, none, none, rfl, Same.refl H, by simp⟩ (fun i σ H2 _ ⟨_, _, _, _, s2, _⟩ => SqL.of (s2 _ _ R.top)) ?_ ?_⟩
    · rintro i x Tp σ H2 hx ⟨o1, o2, o3, rfl, s2, ok⟩ hT
      obtain ⟨b, rfl, hb⟩ := refs_at hx
      obtain ⟨r, hr1, hb1⟩ := R.row_of hb
      have hrm : r ∈ rs := List.mem_of_getElem? hr1
      have hi60 : i < 60 := by
        have := (List.getElem?_eq_some_iff.mp hr1).1
        omega
      have s3 : Same H (upd H2 Tp (.tup [.int (i : Int), .ref b])) := Same.upd s2 (s2.free hT)
      refine ⟨Tp, _, rfl, SqT.of upd_same, rfl, _, _, rfl, _, _, rfl, rfl, ?_⟩
      refine ⟨_, rfl, b, rfl, ⟨_, SqL.of (s3 _ _ hb1)⟩, for_list (K := K) (a := b) (xs := nums r) (fun j σ H3 => ∃ (o3 : Option V), σ = [some (.ref a), some (.int (i : Int)), some (.ref b), o3] ∧ Same H H3 ∧ ∀ x ∈ r.take j, ¬ (x < 0 ∨ (rs.length : Int) ≤ x))
        ⟨_, rfl, s3, by simp⟩ (fun j σ H3 _ ⟨_, _, s4, _⟩ => SqL.of (s4 _ _ hb1)) ?_ ?_⟩
      · rintro j y σ H3 hy ⟨o3', rfl, s4, okr⟩
        obtain ⟨n, rfl, hn1⟩ := ints_at hy
        have hE : (n < 0 ∨ (rs.length : Int) ≤ n) → E (.ref C1) none H3 := fun hz => by
          rcases wr with ⟨_, rfl⟩ | ⟨nb, _⟩
          · exact q H3 s4
          · exact absurd ⟨r, hrm, n, List.mem_of_getElem? hn1, hz⟩ nb
        have next : ¬ (n < 0 ∨ (rs.length : Int) ≤ n) → ∀ x ∈ r.take (j + 1), ¬ (x < 0 ∨ (rs.length : Int) ≤ x) := fun hz x hx => by
          rw [take_snoc hn1] at hx
          rcases List.mem_append.mp hx with h | h
          · exact okr x h
          · rw [List.mem_singleton.mp h]; exact hz
        refine ⟨_, rfl, _, _, rfl, rfl, _, rfl, ?_⟩
        refine ite2 (fun hz => ?_) (fun hz => ?_)
        · have hz : n < 0 := by simpa using hz
          exact ⟨_, rfl, ⟨_, rfl, by omega, fun z => ⟨one_small, hE (.inl hz)⟩⟩⟩
        · have hz : ¬ n < 0 := by simpa using hz
          refine ⟨_, rfl, _, rfl, _, _, rfl, .inl (SqL.of (s4 _ _ R.top)), _, _, rfl, rfl, _, rfl, ?_⟩
          rw [el]
          refine ite2 (fun hy => ?_) (fun hy => ?_)
          · have hy : (rs.length : Int) ≤ n := by simpa using hy
            exact ⟨_, rfl, ⟨_, rfl, by omega, fun z => ⟨one_small, hE (.inr hy)⟩⟩⟩
          · have hy : ¬ (rs.length : Int) ≤ n := by simpa using hy
            exact ⟨_, rfl, s4, next (by omega)⟩
      · rintro σ H3 ⟨o3', rfl, s4, okr⟩
        rw [len_ints, List.take_length] at okr
        refine ⟨_, _, _, rfl, s4, fun r' hr' => ?_⟩
        rw [take_snoc hr1] at hr'
        rcases List.mem_append.mp hr' with h | h
        · exact ok r' h
        · rw [List.mem_singleton.mp h]; exact okr
    rintro σ H1 ⟨o1, o2, o3, rfl, s1, ok⟩
    rw [List.length_map, R.len, List.take_length] at ok
    have noH : ¬ NoH rs := fun ⟨r, hr, x, hx, z⟩ => ok r hr x hx z
    obtain ⟨tw, rfl⟩ : Twi rs ∧ C = C2 := by
      rcases wr with ⟨z, _⟩ | ⟨_, z⟩
      · exact absurd z noH
      · exact z
    refine ⟨_, rfl, a, rfl, ⟨_, SqL.of (s1 _ _ R.top)⟩, for_enum (K := K) (a := a) (xs := refs as) (fun i σ H2 => ∃ (o1 o2 o3 : Option V), σ = [some (.ref a), o1, o2, o3] ∧ Same H H2 ∧ ∀ r ∈ rs.take i, r.Nodup)
      ⟨_, _, _, rfl, s1, by simp⟩ (fun i σ H2 _ ⟨_, _, _, _, s2, _⟩ => SqL.of (s2 _ _ R.top)) ?_ ?_⟩
    · rintro i x Tp σ H2 hx ⟨o1, o2, o3, rfl, s2, okn⟩ hT
      obtain ⟨b, rfl, hb⟩ := refs_at hx
      obtain ⟨r, hr1, hb1⟩ := R.row_of hb
      have hrm : r ∈ rs := List.mem_of_getElem? hr1
      have hrl := short r hrm
      have hi60 : i < 60 := by
        have := (List.getElem?_eq_some_iff.mp hr1).1
        omega
      have s3 : Same H (upd H2 Tp (.tup [.int (i : Int), .ref b])) := Same.upd s2 (s2.free hT)
      refine ⟨Tp, _, rfl, SqT.of upd_same, rfl, _, _, rfl, _, _, rfl, rfl, ?_⟩
      refine ⟨_, rfl, b, r, rfl, SqL.of (s3 _ _ hb1), by omega, fun l S n hl hn1 hn2 => ⟨l, S, n, rfl, upd_same, ?_⟩⟩
      have s4 := Same.upd (o := .set S n) s3 (s3.free hl)
      refine ⟨_, rfl, _, _, rfl, .inl (SqL.of (s4 _ _ hb1)), _, _, rfl, rfl, _, rfl, ?_⟩
      refine ite2 (fun hz => ?_) (fun hz => ?_)
      · exact ⟨_, rfl, ⟨_, rfl, by omega, fun z => ⟨one_small, q _ s4⟩⟩⟩
      · have hz : ¬ (n : Int) < ((nums r).length : Int) := by simpa using hz
        rw [len_ints] at hz
        have rn : r.Nodup := hn2.mp (by omega)
        refine ⟨_, _, _, rfl, s4, fun r' hr' => ?_⟩
        rw [take_snoc hr1] at hr'
        rcases List.mem_append.mp hr' with h | h
        · exact okn r' h
        · rw [List.mem_singleton.mp h]; exact rn
    · rintro σ H2 ⟨o1, o2, o3, rfl, s2, okn⟩
      rw [List.length_map, R.len, List.take_length] at okn
      obtain ⟨r, hr, z⟩ := tw
      exact absurd (okn r hr) z
end
end K02

set_option Elab.async false
set_option linter.all false
set_option maxRecDepth 100000
set_option maxHeartbeats 4000000
namespace K02
open PySem L2 KS
section
variable {P : Program} {w : World} {K : PySem.W.Frag} {mg : Str → Option Value} {base : Heap} {f : Addr} {fd : FuncData}
abbrev nxPRounds : List Str := ["wishes", "orders", "holder", "told", "rings"]
theorem scxPRounds : FnScope nxPRounds ["wishes"] (defScope sPRounds) := ⟨rfl, rfl, rfl, by decide +kernel, rfl, by decide +kernel, by decide +kernel⟩
theorem ox_prounds {C1 C2 : Addr} (F : Fun K "rounds" "rounds" sPRounds f fd) (T : Own K mg) (A1 : FnX P w K mg base "refuse_wrong" ["wishes"] 1 (spWrong C1 C2 0)) : FnOk P w K mg base (CX1 P w) 2 f fd ["wishes"] (spWrong C1 C2 0) := by
  obtain ⟨f1, fd1, G1, m1, k1, b1⟩ := A1
  refine F.okX scxPRounds (fun vs H Q E h => ?_) (fun cdv A outer s H vs Q E hr h => ?_)
  · obtain ⟨a, as, rs, C, rest, rfl, e, _⟩ := h
    rw [List.length_cons, e]
    rfl
  · obtain ⟨a, as, rs, C, rest, rfl, e0, R, hn, short, wr, q⟩ := h
    have nd := scxPRounds.nd
    cases List.length_eq_zero_iff.mp e0
    refine ⟨_, pss_cons (ps_expr (pe_call G1 hr (by rfl) m1 k1 b1 .nil pass1 (pa_cons (pv 0) pa_nil))) pss_never, ?_⟩
    exact ⟨_, rfl, a, as, rs, C, [], rfl, rfl, R, hn, short, wr, q⟩
end
end K02

set_option Elab.async false
set_option linter.all false
set_option maxRecDepth 100000
set_option maxHeartbeats 4000000
namespace K02
open PySem L2 KS
section
variable {P : Program} {w : World} {K : PySem.W.Frag} {mg : Str → Option Value} {base : Heap} {f : Addr} {fd : FuncData}
abbrev nxPDealt : List Str := ["wishes", "houses", "rings", "ring", "holder", "looked_to"]
theorem scxPDealt : FnScope nxPDealt ["wishes"] (defScope sPDealt) := ⟨rfl, rfl, rfl, by decide +kernel, rfl, by decide +kernel, by decide +kernel⟩
theorem ox_pdealt {C1 C2 : Addr} (F : Fun K "dealt" "dealt" sPDealt f fd) (T : Own K mg) (A1 : FnX P w K mg base "rounds" ["wishes"] 2 (spWrong C1 C2 0)) : FnOk P w K mg base (CX1 P w) 3 f fd ["wishes"] (spWrong C1 C2 0) := by
  obtain ⟨f1, fd1, G1, m1, k1, b1⟩ := A1
  refine F.okX scxPDealt (fun vs H Q E h => ?_) (fun cdv A outer s H vs Q E hr h => ?_)
  · obtain ⟨a, as, rs, C, rest, rfl, e, _⟩ := h
    rw [List.length_cons, e]
    rfl
  · obtain ⟨a, as, rs, C, rest, rfl, e0, R, hn, short, wr, q⟩ := h
    have nd := scxPDealt.nd
    cases List.length_eq_zero_iff.mp e0
    refine ⟨_, pss_cons (ps_set (i := 1) nd rfl (Or.inl rfl) (pe_callTy (call_list_rng rfl) (by rfl) T.list PyProof.Rows.boot_list (pa_cons (pe_range1 (by rfl) T.range (pa_cons (pe_callB call_len_seq (by rfl) T.len PySem.boot_len (pa_cons (pv 0) pa_nil)) pa_nil)) pa_nil))) (pss_cons (ps_for PassesOwn.leaving rfl (pi_list (pe_call G1 hr (by rfl) m1 k1 b1 .nil pass1 (pa_cons (pv 0) pa_nil))) pg_never pss_never) pss_never), ?_⟩
    have el : (((refs as).length : Nat) : Int) = (rs.length : Int) := by rw [List.length_map, R.len]
    refine ⟨_, rfl, _, _, rfl, .inl (SqL.of R.top), _, rfl, fun p0 hp0 => ?_⟩
    rw [el]
    have s0 : Same H (upd H p0 (.rng 0 (rs.length : Int))) := Same.upd (Same.refl H) hp0
    refine ⟨p0, rs.length, rfl, upd_same, by omega, fun hs hhs => ?_⟩
    have hhs0 : H hs = none := s0.free hhs
    have s1 : Same H (upd (upd H p0 (.rng 0 (rs.length : Int))) hs (.lst ((L2.upTo rs.length).map V.int))) := Same.upd s0 hhs0
    generalize upd (upd H p0 (.rng 0 (rs.length : Int))) hs (.lst ((L2.upTo rs.length).map V.int)) = H1 at s1
    exact ⟨_, rfl, a, as, rs, C, [], rfl, rfl, R.same s1, hn, short, wr, fun H' s' => q H' (s1.trans s')⟩
end
end K02

set_option Elab.async false
set_option linter.all false
set_option maxRecDepth 100000
set_option maxHeartbeats 4000000
namespace K02
open PySem L2 KS
section
variable {P : Program} {w : World} {K : PySem.W.Frag} {mg : Str → Option Value} {base : Heap} {f : Addr} {fd : FuncData}
abbrev nxPGladder : List Str := ["wishes", "houses", "others"]
theorem scxPGladder : FnScope nxPGladder ["wishes", "houses", "others"] (defScope sPGladder) := ⟨rfl, rfl, rfl, by decide +kernel, rfl, by decide +kernel, by decide +kernel⟩
theorem ox_pgladder {C1 C2 : Addr} (F : Fun K "gladder" "gladder" sPGladder f fd) (T : Own K mg) (A1 : FnX P w K mg base "refuse_wrong" ["wishes"] 1 (spWrong C1 C2 0)) : FnOk P w K mg base (CX1 P w) 2 f fd ["wishes", "houses", "others"] (spWrong C1 C2 2) := by
  obtain ⟨f1, fd1, G1, m1, k1, b1⟩ := A1
  refine F.okX scxPGladder (fun vs H Q E h => ?_) (fun cdv A outer s H vs Q E hr h => ?_)
  · obtain ⟨a, as, rs, C, rest, rfl, e, _⟩ := h
    rw [List.length_cons, e]
    rfl
  · obtain ⟨a, as, rs, C, rest, rfl, e0, R, hn, short, wr, q⟩ := h
    have nd := scxPGladder.nd
    match rest, e0 with
    | [x0, x1], _ =>
    refine ⟨_, pss_cons (ps_expr (pe_call G1 hr (by rfl) m1 k1 b1 .nil pass1 (pa_cons (pv 0) pa_nil))) pss_never, ?_⟩
    exact ⟨_, rfl, a, as, rs, C, [], rfl, rfl, R, hn, short, wr, q⟩
end
end K02

set_option Elab.async false
set_option linter.all false
set_option maxRecDepth 100000
set_option maxHeartbeats 4000000
namespace K02
open PySem L2 KS
section
variable {P : Program} {w : World} {K : PySem.W.Frag} {mg : Str → Option Value} {base : Heap} {f : Addr} {fd : FuncData}
abbrev nxPUndoneBy : List Str := ["wishes", "houses", "group", "among", "somebody_gains", "holder", "house"]
theorem scxPUndoneBy : FnScope nxPUndoneBy ["wishes", "houses", "group", "among"] (defScope sPUndoneBy) := ⟨rfl, rfl, rfl, by decide +kernel, rfl, by decide +kernel, by decide +kernel⟩
theorem ox_pundoneby {C1 C2 : Addr} (F : Fun K "undone_by" "undone_by" sPUndoneBy f fd) (T : Own K mg) (A1 : FnX P w K mg base "refuse_wrong" ["wishes"] 1 (spWrong C1 C2 0)) : FnOk P w K mg base (CX1 P w) 2 f fd ["wishes", "houses", "group", "among"] (spWrong C1 C2 3) := by
  obtain ⟨f1, fd1, G1, m1, k1, b1⟩ := A1
  refine F.okX scxPUndoneBy (fun vs H Q E h => ?_) (fun cdv A outer s H vs Q E hr h => ?_)
  · obtain ⟨a, as, rs, C, rest, rfl, e, _⟩ := h
    rw [List.length_cons, e]
    rfl
  · obtain ⟨a, as, rs, C, rest, rfl, e0, R, hn, short, wr, q⟩ := h
    have nd := scxPUndoneBy.nd
    match rest, e0 with
    | [x0, x1, x2], _ =>
    refine ⟨_, pss_cons (ps_expr (pe_call G1 hr (by rfl) m1 k1 b1 .nil pass1 (pa_cons (pv 0) pa_nil))) pss_never, ?_⟩
    exact ⟨_, rfl, a, as, rs, C, [], rfl, rfl, R, hn, short, wr, q⟩
end
end K02

set_option Elab.async false
set_option linter.all false
set_option maxRecDepth 100000
set_option maxHeartbeats 4000000
namespace K02
open PySem L2 KS
section
variable {P : Program} {w : World} {K : PySem.W.Frag} {mg : Str → Option Value} {base : Heap} {f : Addr} {fd : FuncData}
abbrev nLaw : List Str := ["_law_script", "_law_count", "_law_lists", "_law_way", "_law_seat", "_law_due", "_law_row", "_law_house", "_law_far", "_law_strange", "_law_odd", "_law_handed", "_law_turn", "_law_found"]
theorem scLaw : FnScope nLaw ["_law_script"] (defScope sLaw) := ⟨rfl, rfl, rfl, by decide +kernel, rfl, by decide +kernel, by decide +kernel⟩
/-- the wishes as they stand: no list longer than n, what is due of them -/
def Sta (H : Hp) (a : Addr) (n : Nat) (G : List (List Int) → Prop) (σ : St) (H2 : Hp) : Prop := ∃ (b : Addr) (bs : List Addr) (rs : List (List Int)) (x : Str) (y z : Int) (o6 o7 o8 o9 o10 : Option V),
  σ = [some (.ref a), some (.int (rs.length : Int)), some (.ref b), some (.int y), some (.int z), some (.str x), o6, o7, o8, o9, o10, none, none, none] ∧ Same H H2 ∧ Rows H2 b bs rs ∧ New H (b :: bs) ∧ 0 < rs.length ∧ rs.length ≤ 9 ∧ (∀ r ∈ rs, r.length ≤ n) ∧ Due rs x ∧ G rs
/-- .. and one list that is not empty -/
def StaR (H : Hp) (a : Addr) (σ : St) (H2 : Hp) : Prop := ∃ (b : Addr) (bs : List Addr) (rs : List (List Int)) (x : Str) (y z : Int) (c : Addr) (r : List Int) (i : Nat) (o7 o8 o9 o10 : Option V),
  σ = [some (.ref a), some (.int (rs.length : Int)), some (.ref b), some (.int y), some (.int z), some (.str x), some (.ref c), o7, o8, o9, o10, none, none, none] ∧ Same H H2 ∧ Rows H2 b bs rs ∧ New H (b :: bs) ∧ 0 < rs.length ∧ rs.length ≤ 9 ∧ (∀ r ∈ rs, r.length ≤ 64) ∧ ¬ NoH rs ∧ bs[i]? = some c ∧ rs[i]? = some r ∧ r ≠ []
theorem ins_has {r : List Int} {k : Nat} {x : Int} : x ∈ insV r k x := by simp [insV]
theorem ins_twice {r : List Int} {k : Nat} {x : Int} (h : x ∈ r) : ¬ (insV r k x).Nodup := fun nd => by
  unfold insV at nd
  rw [← List.take_append_drop k r] at h
  rw [List.nodup_append] at nd
  obtain ⟨_, n2, n3⟩ := nd
  rcases List.mem_append.mp h with m | m
  · exact n3 x m x List.mem_cons_self rfl
  · exact (List.nodup_cons.mp n2).1 m
theorem NoH.not_set {rs : List (List Int)} {i : Nat} {r : List Int} (h : ¬ NoH rs) (hr : ∀ x ∈ r, 0 ≤ x ∧ x < (rs.length : Int)) : ¬ NoH (rs.set i r) := fun ⟨q, hq, x, hx, z⟩ => by
  rw [List.length_set] at z
  rcases mem_set_cases hq with m | m
  · exact h ⟨q, m, x, hx, z⟩
  · rw [m] at hx
    have := hr x hx
    omega
theorem mem_set_self {rs : List (List Int)} {i : Nat} {r : List Int} (h : i < rs.length) : r ∈ rs.set i r := List.mem_iff_getElem?.mpr ⟨i, List.getElem?_set_self h⟩
theorem NoH.rng {rs : List (List Int)} (h : ¬ NoH rs) {r : List Int} (hr : r ∈ rs) {x : Int} (hx : x ∈ r) : 0 ≤ x ∧ x < (rs.length : Int) :=
  ⟨Int.not_lt.mp fun z => h ⟨r, hr, x, hx, .inl z⟩, Int.not_le.mp fun z => h ⟨r, hr, x, hx, .inr z⟩⟩
theorem ok_law {C0 C1 C2 : Addr} (F : Fun K "law" "law" sLaw f fd) (T : Own K mg) (Z : Refs K mg C0 C1 C2) (A1 : Fn P w K mg base "_law_at" ["_law_script", "_law_k"] 1 (spAt K)) (A2 : Fn P w K mg base "_law_room" ["_law_script", "_law_most", "_law_bound"] 1 (spRoom K))
    (A3 : Fn P w K mg base "_law_wished" ["_law_cells", "_law_count"] 1 (spWished K)) (A4 : Fn P w K mg base "_law_any" ["_law_cell"] 1 spAny) (A5 : Fn P w K mg base "_law_copies" ["_law_lists"] 1 spCopies) (A6 : Fn P w K mg base "_law_base_tells" ["_law_lists", "_law_way"] 4 spBaseTells)
    (A7 : Fn P w K mg base "_law_said" ["_law_way", "_law_lists"] 5 spSaid) (A8 : Fn P w K mg base "_law_kept" ["_law_found", "_law_due"] 2 spKept) (A9 : Fn P w K mg base "dealt" ["wishes"] 4 spDealt) (A10 : Fn P w K mg base "_law_is_dealing" ["_law_found", "_law_count"] 2 spIsDealing) (A11 : Fn P w K mg base "_law_dealing_by" ["_law_lists"] 3 spDealt) :
    FnOk P w K mg base CX0 6 f fd ["_law_script"] (spLaw K) := by
  obtain ⟨f1, fd1, G1, m1, k1, b1⟩ := A1
  obtain ⟨f2, fd2, G2, m2, k2, b2⟩ := A2
  obtain ⟨f3, fd3, G3, m3, k3, b3⟩ := A3
  obtain ⟨f4, fd4, G4, m4, k4, b4⟩ := A4
  obtain ⟨f5, fd5, G5, m5, k5, b5⟩ := A5
  obtain ⟨f6, fd6, G6, m6, k6, b6⟩ := A6
  obtain ⟨f7, fd7, G7, m7, k7, b7⟩ := A7
  obtain ⟨f8, fd8, G8, m8, k8, b8⟩ := A8
  obtain ⟨f9, fd9, G9, m9, k9, b9⟩ := A9
  obtain ⟨f10, fd10, G10, m10, k10, b10⟩ := A10
  obtain ⟨f11, fd11, G11, m11, k11, b11⟩ := A11
  refine F.ok scLaw (fun vs H Q E h => ?_) (fun cdv A outer s H vs Q E hr h => ?_)
  · obtain ⟨a, ns, rfl, _⟩ := h
    rfl
  · obtain ⟨a, ns, rfl, hS, hlen, q⟩ := h
    have nd := scLaw.nd
    have hr1 : Room 1 _ := hr.mono (by omega)
    have hr2 : Room 2 _ := hr.mono (by omega)
    have hr3 : Room 3 _ := hr.mono (by omega)
    have hr4 : Room 4 _ := hr.mono (by omega)
    have hu := hu_of hr
    have hu0 := hr.units0
    refine ⟨_, (pss_cons (ps_set (i := 1) nd rfl (Or.inl rfl) (pe_op op_add pe_int (pe_op op_mod (pe_call G1 hr1 (by rfl) m1 k1 b1 .nil pass0 (pa_cons (pv 0) (pa_cons pe_int pa_nil))) (pe_call G2 hr1 (by rfl) m2 k2 b2 .nil pass0 (pa_cons (pv 0) (pa_cons pe_int (pa_cons pe_int pa_nil)))))))
 (pss_cons (ps_set (i := 2) nd rfl (Or.inl rfl) (pe_call G3 hr1 (by rfl) m3 k3 b3 .nil pass0 (pa_cons (pe_slice sl_list (pv 0) (po_some pe_int) po_none) (pa_cons (pv 1) pa_nil))))
 (pss_cons (ps_set (i := 3) nd rfl (Or.inl rfl) (pe_op op_mod (pe_call G1 hr1 (by rfl) m1 k1 b1 .nil pass0 (pa_cons (pv 0) (pa_cons pe_int pa_nil))) pe_int))
 (pss_cons (ps_set (i := 4) nd rfl (Or.inl rfl) (pe_call G1 hr1 (by rfl) m1 k1 b1 .nil pass0 (pa_cons (pv 0) (pa_cons pe_int pa_nil))))
 (pss_cons (ps_set (i := 5) nd rfl (Or.inl rfl) pe_str)
 (pss_imp (t' := fun D σ H2 => D = { nx := fun _ H' => Q .non H', rt := Q } ∧ Sta H a 63 (fun rs => ¬ NoH rs) σ H2)
 (pss_cons (ps_if (pw_or (pt_cmpR op_eq (pv 3) pe_int (nomark _)) (pw_or1 (pt_cmpR op_eq (pv 3) pe_int (nomark _)))).pt
 (pss_imp (t' := fun D σ H2 => (∀ σ' H', Sta H a 65 (fun rs => ¬ NoH rs) σ' H' → D.nx σ' H') ∧ Sta H a 63 (fun rs => ¬ NoH rs) σ H2)
 (pss_cons (ps_set (i := 6) nd rfl (Or.inl rfl) (pe_ix ix_list (pv 2) (pe_op op_mod (pv 4) (pv 1)) (fun _ _ => rfl)))
 (pss_cons (ps_if (pt_cmpR (op_eqNil hu0) (pv 6) (pe_lst pa_nil) (nomark _))
 (pss_one (ps_expr (pe_bm PySem.F.plainAttrs_list PySem.F.slot_list_append PySem.F.type_list_append mt_append (pv 6) (pa_cons (pe_op op_mod (pv 4) (pv 1)) pa_nil)))) pss_nil)
 (pss_imp (t' := fun D σ H2 => (∀ σ' H', Sta H a 65 (fun rs => ¬ NoH rs) σ' H' → D.nx σ' H') ∧ StaR H a σ H2)
 (pss_cons (ps_set (i := 7) nd rfl (Or.inl rfl) (pe_ix ix_list (pv 6) (pe_op op_mod (pe_call G1 hr1 (by rfl) m1 k1 b1 .nil pass0 (pa_cons (pv 0) (pa_cons pe_int pa_nil))) (pe_callB call_len_seq (by rfl) T.len PySem.boot_len (pa_cons (pv 6) pa_nil))) (fun _ _ => rfl)))
 (pss_cons (ps_expr (pe_bm PySem.F.plainAttrs_list PySem.F.slot_list_insert PySem.F.type_list_insert mt_insert (pv 6) (pa_cons (pe_op op_mod (pe_call G1 hr1 (by rfl) m1 k1 b1 .nil pass0 (pa_cons (pv 0) (pa_cons pe_int pa_nil))) (pe_op op_add (pe_callB call_len_seq (by rfl) T.len PySem.boot_len (pa_cons (pv 6) pa_nil)) pe_int)) (pa_cons (pv 7) pa_nil))))
 (pss_one (ps_set (i := 5) nd rfl (Or.inl rfl) pe_str)))) ?ins))) ?dup) pss_nil)
 (pss_imp (t' := fun D σ H2 => D = { nx := fun _ H' => Q .non H', rt := Q } ∧ Sta H a 65 (fun rs => ¬ NoH rs) σ H2)
 (pss_cons (ps_if (pw_or (pt_cmpR op_eq (pv 3) pe_int (nomark _)) (pw_or1 (pt_cmpR op_eq (pv 3) pe_int (nomark _)))).pt
 (pss_imp (t' := fun D σ H2 => (∀ σ' H', Sta H a 66 (fun _ => True) σ' H' → D.nx σ' H') ∧ Sta H a 65 (fun rs => ¬ NoH rs) σ H2)
 (pss_cons (ps_set (i := 6) nd rfl (Or.inl rfl) (pe_ix ix_list (pv 2) (pe_op op_mod (pe_call G1 hr1 (by rfl) m1 k1 b1 .nil pass0 (pa_cons (pv 0) (pa_cons pe_int pa_nil))) (pv 1)) (fun _ _ => rfl)))
 (pss_cons (ps_set (i := 8) nd rfl (Or.inl rfl) (pe_callB call_abs (by rfl) T.abs PyProof.Rows.boot_abs (pa_cons (pe_call G4 hr1 (by rfl) m4 k4 b4 .nil pass0 (pa_cons (pe_call G1 hr1 (by rfl) m1 k1 b1 .nil pass0 (pa_cons (pv 0) (pa_cons pe_int pa_nil))) pa_nil)) pa_nil)))
 (pss_cons (ps_set (i := 9) nd rfl (Or.inl rfl) (pe_lst (pa_cons (pe_un un_neg pe_int) (pa_cons (pe_un un_neg pe_int) (pa_cons (pv 1) (pa_cons (pe_op op_add (pv 1) pe_int) (pa_cons (pe_op op_add (pv 1) pe_int) (pa_cons (pe_op op_sub (pe_un un_neg pe_int) (pv 8)) (pa_cons (pe_op op_add (pv 1) (pv 8)) pa_nil)))))))))
 (pss_cons (ps_set (i := 10) nd rfl (Or.inl rfl) (pe_ix ix_list (pv 9) (pe_op op_mod (pe_call G1 hr1 (by rfl) m1 k1 b1 .nil pass0 (pa_cons (pv 0) (pa_cons pe_int pa_nil))) pe_int) (fun _ _ => rfl)))
 (pss_cons (ps_expr (pe_bm PySem.F.plainAttrs_list PySem.F.slot_list_insert PySem.F.type_list_insert mt_insert (pv 6) (pa_cons (pe_op op_mod (pe_call G1 hr1 (by rfl) m1 k1 b1 .nil pass0 (pa_cons (pv 0) (pa_cons pe_int pa_nil))) (pe_op op_add (pe_callB call_len_seq (by rfl) T.len PySem.boot_len (pa_cons (pv 6) pa_nil)) pe_int)) (pa_cons (pv 10) pa_nil))))
 (pss_one (ps_set (i := 5) nd rfl (Or.inl rfl) pe_str))))))) ?odd) pss_nil)
 (pss_imp (t' := fun D σ H2 => D = { nx := fun _ H' => Q .non H', rt := Q } ∧ Sta H a 66 (fun _ => True) σ H2)
 (pss_cons (ps_set (i := 11) nd rfl (Or.inl rfl) (pe_call G5 hr1 (by rfl) m5 k5 b5 .nil pass0 (pa_cons (pv 2) pa_nil)))
 (pss_cons (ps_if (pt_cmpR op_ne (pe_call G6 hr4 (by rfl) m6 k6 b6 .nil pass0 (pa_cons (pv 11) (pa_cons (pe_op op_mod (pe_call G1 hr1 (by rfl) m1 k1 b1 .nil pass0 (pa_cons (pv 0) (pa_cons pe_int pa_nil))) pe_int) pa_nil))) (pe_cmpR op_ne (pv 5) pe_str (nomark _)) (nomark _))
 (pss_one (ps_ret pe_bl)) pss_nil)
 (pss_cons (ps_for PassesOwn.never rfl (pi_range1 (by rfl) T.range (pa_cons pe_int pa_nil)) (pg_name (i := 12) nd rfl (Or.inl rfl))
 (pss_one (ps_if (pt_cmpR op_ne (pe_call G7 hr (by rfl) m7 k7 b7 .nil pass0 (pa_cons (pv 12) (pa_cons (pv 11) pa_nil))) (pv 5) (nomark _))
 (pss_one (ps_ret pe_bl)) pss_nil)))
 (pss_cons (ps_if (pt_not (pt_val (pe_call G8 hr2 (by rfl) m8 k8 b8 .nil pass0 (pa_cons (pv 11) (pa_cons (pv 2) pa_nil)))))
 (pss_one (ps_ret pe_bl)) pss_nil)
 (pss_cons (ps_if (pt_cmpR op_ne (pv 5) pe_str (nomark _))
 (pss_one (ps_ret pe_bl)) pss_nil)
 (pss_cons (ps_set (i := 13) nd rfl (Or.inl rfl) (pe_call G9 hr4 (by rfl) m9 k9 b9 .nil pass0 (pa_cons (pe_call G5 hr1 (by rfl) m5 k5 b5 .nil pass0 (pa_cons (pv 2) pa_nil)) pa_nil)))
 (pss_one (ps_ret (pe_and (pe_call G10 hr2 (by rfl) m10 k10 b10 .nil pass0 (pa_cons (pv 13) (pa_cons (pv 1) pa_nil))) (pe_one (pe_cmpR (op_eqL hu0) (pv 13) (pe_call G11 hr3 (by rfl) m11 k11 b11 .nil pass0 (pa_cons (pv 2) pa_nil)) (nomark _)))))))))))) ?tail)) ?mid)) ?st0)))))), ?_⟩
    case st0 =>
      rintro D σ H1 ⟨rfl, st⟩
      have st' := st
      obtain ⟨b, bs, rs, x, y, z, o6, o7, o8, o9, o10, rfl, s1, R, nw, h0, h9, sh, du, g⟩ := st'
      refine ⟨_, rfl, rfl, _, rfl, ite2 (fun _ => ⟨fun _ _ h => ⟨rfl, h⟩, st⟩) (fun _ => ⟨_, rfl, rfl, _, rfl, ite2 (fun _ => ⟨fun _ _ h => ⟨rfl, h⟩, st⟩) (fun _ => ⟨rfl, ?_⟩)⟩)⟩
      exact ⟨b, bs, rs, x, y, z, o6, o7, o8, o9, o10, rfl, s1, R, nw, h0, h9, fun r hr => by have := sh r hr; omega, du, g⟩
    case mid =>
      rintro D σ H1 ⟨rfl, st⟩
      have st' := st
      obtain ⟨b, bs, rs, x, y, z, o6, o7, o8, o9, o10, rfl, s1, R, nw, h0, h9, sh, du, g⟩ := st'
      refine ⟨_, rfl, rfl, _, rfl, ite2 (fun _ => ⟨fun _ _ h => ⟨rfl, h⟩, st⟩) (fun _ => ⟨_, rfl, rfl, _, rfl, ite2 (fun _ => ⟨fun _ _ h => ⟨rfl, h⟩, st⟩) (fun _ => ⟨rfl, ?_⟩)⟩)⟩
      exact ⟨b, bs, rs, x, y, z, o6, o7, o8, o9, o10, rfl, s1, R, nw, h0, h9, fun r hr => by have := sh r hr; omega, du, trivial⟩
    case tail =>
      rintro D σ H1 ⟨rfl, b, bs, rs, x, y, z, o6, o7, o8, o9, o10, rfl, s1, R, nw, h0, h9, sh, du, _⟩
      have short : ∀ r ∈ rs, r.length ≤ 1000 := fun r hr => by have := sh r hr; omega
      -- handed
      refine ⟨_, rfl, b, bs, rs, rfl, R, by omega, fun hd hds H2 s2 R2 n2 => ?_⟩
      have s12 := s1.trans s2
      -- base_tells
      refine ⟨_, rfl, _, rfl, a, ns, 8, rfl, s12.seq hS, _, _, rfl, rfl, (by show (0 : Int) < 2; decide), _, hd, hds, rs, x, rfl, R2, h0, by omega, short, du, fun H3 s3 => ?_⟩
      refine ⟨_, rfl, rfl, rfl, _, rfl, ?_⟩
      rw [decide_eq_true rfl]
      refine iteF ?_
      have s13 := s12.trans s3
      have R3 := R2.same s3
      have Rb3 := (R.same s2).same s3
      -- said
      refine ⟨4, rfl, by decide, by decide, for_range (fun k σ H4 => ∃ (o12 : Option V), σ = [some (.ref a), some (.int (rs.length : Int)), some (.ref b), some (.int y), some (.int z), some (.str x), o6, o7, o8, o9, o10, some (.ref hd), o12, none] ∧ Same H3 H4) ⟨none, rfl, Same.refl H3⟩ ?_ ?_⟩
      · rintro k σ H4 hk ⟨o12, rfl, s4⟩
        refine ⟨_, rfl, _, rfl, k, hd, hds, rs, x, by rw [show (0 : Int) + (k : Int) = (k : Int) by omega]; rfl, R3.same s4, h0, by omega, short, du, fun H5 s5 => ⟨_, rfl, rfl, _, rfl, ?_⟩⟩
        rw [decide_eq_true rfl]
        exact iteF ⟨_, rfl, s4.trans s5⟩
      · rintro σ H4 ⟨o12, rfl, s4⟩
        have Rb4 := Rb3.same s4
        have s14 := s13.trans s4
        refine ⟨_, rfl, _, rfl, hd, b, hds, bs, rs, rfl, (R3.same s4).rd, Rb4.rd, by omega, short, _, rfl, ?_⟩
        refine iteF ?_
        -- if due != "done"
        refine ⟨_, rfl, rfl, _, rfl, ite2 (fun _ => q _) (fun hz => ?_)⟩
        have ex : x = "done" := by
          have h1 : V.str x = V.str "done" := by simpa using hz
          exact V.str.inj h1
        have wf : WF rs.length rs := by
          rcases du with ⟨_, e⟩ | ⟨_, _, e⟩ | ⟨w, _⟩
          · rw [ex] at e
            exact absurd e (by decide)
          · rw [ex] at e
            exact absurd e (by decide)
          · exact w
        have sh2 : ∀ r ∈ rs, r.length < 1000 := fun r hr => by have := sh r hr; omega
        -- found
        refine ⟨_, rfl, b, bs, rs, rfl, Rb4, by omega, fun c2 cs2 H7 s7 R7 n7 => ⟨c2, cs2, rs, rfl, R7, wf, by omega, fun fo ds H8 s8 h8 n8 D8 => ?_⟩⟩
        have Dn := D8.nodup
        refine ⟨_, rfl, _, rfl, fo, ds, rs.length, rfl, h8, D8.1, Dn.1, Dn.2, by omega, fun H9 s9 => ⟨_, rfl, iteT ?_⟩⟩
        refine ⟨_, rfl, _, rfl, b, bs, rs, rfl, ((Rb4.same s7).same s8).same s9, wf, by omega, fun di es H10 s10 h10 n10 D10 => ⟨fo, di, natL ds, natL es, rfl, rfl, SqL.of (s10 _ _ (s9 _ _ h8)), SqL.of h10, ?_⟩⟩
        rw [D10.unique sh2 D8, decide_eq_true rfl]
        exact q _
    case dup =>
      rintro D σ H1 ⟨nx, b, bs, rs, x, y, z, o6, o7, o8, o9, o10, rfl, s1, R, nw, h0, h9, sh, du, g⟩
      obtain ⟨i, ei, hi⟩ := modN (a := z) h0
      obtain ⟨c, hc1, hc2, hc3⟩ := R.get hi
      have hri : rs[i]? = some rs[i] := by simp [hi]
      have hrm : rs[i] ∈ rs := List.getElem_mem hi
      refine ⟨_, rfl, _, rfl, _, rfl, _, _, rfl, rfl, (by omega), _, _, _, _, rfl, rfl, SqL.of R.top, by rw [ei]; exact atI_refs hc1, ?_⟩
      refine ⟨_, rfl, Nat.zero_le _, fun p hp => ?_⟩
      have s2 : Same H1 (upd H1 p (.lst [])) := Same.upd (Same.refl H1) hp
      refine ⟨c, p, _, rfl, rfl, SqL.of (s2 _ _ hc2), SqL.of upd_same, _, rfl, ?_⟩
      generalize upd H1 p (.lst []) = H2 at s2
      have R2 := R.same s2
      have sH2 := s1.trans s2
      have hc2' := s2 _ _ hc2
      refine ite2 (fun hz => ?_) (fun hz => ?_)
      · have he : rs[i] = [] := by
          cases hl : rs[i] with
          | nil => rfl
          | cons u v => rw [hl] at hz; cases hz
        rw [he] at hc2'
        refine ⟨_, rfl, .inl ⟨rfl, _, SqL.of hc2'⟩, _, rfl, _, rfl, _, _, rfl, rfl, (by omega), c, [], _, rfl, rfl, hc2', small1000 (Nat.zero_le _), ?_⟩
        dsimp only
        rw [ei]
        have R3 := R2.set [(i : Int)] hc1
        refine ⟨nx, b, bs, rs.set i [(i : Int)], x, y, z, c, [(i : Int)], i, o7, o8, o9, o10, by rw [List.length_set]; rfl, Same.upd sH2 (nw c (List.mem_cons_of_mem _ hc3)), R3, nw, by rw [List.length_set]; exact h0, by rw [List.length_set]; exact h9, fun r hr => ?_, NoH.not_set g ?_, hc1, List.getElem?_set_self hi, by simp⟩
        · rcases mem_set_cases hr with m | m
          · have := sh r m
            omega
          · rw [m, List.length_singleton]
            decide
        · intro u hu
          rw [List.mem_singleton.mp hu]
          omega
      · have hne : rs[i] ≠ [] := fun e => hz (by rw [e]; rfl)
        exact ⟨nx, b, bs, rs, x, y, z, c, rs[i], i, o7, o8, o9, o10, rfl, sH2, R2, nw, h0, h9, fun r hr => by have := sh r hr; omega, g, hc1, hri, hne⟩
    case odd =>
      rintro D σ H1 ⟨nx, b, bs, rs, x, y, z, o6, o7, o8, o9, o10, rfl, s1, R, nw, h0, h9, sh, du, g⟩
      obtain ⟨i, ei, hi⟩ := modN (a := ns.getD 4 0) h0
      obtain ⟨c, hc1, hc2, hc3⟩ := R.get hi
      have hrm : rs[i] ∈ rs := List.getElem_mem hi
      have hrl := sh _ hrm
      refine ⟨_, rfl, _, rfl, a, ns, 4, rfl, s1.seq hS, _, rfl, _, _, rfl, rfl, (by omega), _, _, _, _, rfl, rfl, SqL.of R.top, by rw [ei]; exact atI_refs hc1, ?_⟩
      refine ⟨_, rfl, a, ns, 9, rfl, s1.seq hS, _, rfl, fun m H2 s2 => ⟨_, rfl, ?_⟩⟩
      have hfa : ∃ fa : Int, (if m < 0 then -m else m) = fa ∧ 0 ≤ fa := ⟨_, rfl, by split <;> omega⟩
      obtain ⟨fa, efa, hfa⟩ := hfa
      rw [efa]
      have s12 := s1.trans s2
      -- strange
      refine ⟨_, rfl, _, rfl, _, rfl, _, rfl, _, _, rfl, rfl, _, rfl, _, _, rfl, rfl, _, rfl, _, rfl, _, _, rfl, rfl, _, rfl, _, rfl, _, _, rfl, rfl, small_line (n := 7) (by decide), fun p hp => ?_⟩
      obtain ⟨k, ek, hk⟩ := modN (a := ns.getD 5 0) (c := 7) (by decide)
      have hod : ∃ od : Int, atI [V.int (-1), V.int (-2), V.int (rs.length : Int), V.int ((rs.length : Int) + 1), V.int ((rs.length : Int) + 3), V.int (-1 - fa), V.int ((rs.length : Int) + fa)] (k : Int) = some (V.int od) ∧ (od < 0 ∨ (rs.length : Int) ≤ od) := by
        match k, hk with
        | 0, _ => exact ⟨_, rfl, by omega⟩
        | 1, _ => exact ⟨_, rfl, by omega⟩
        | 2, _ => exact ⟨_, rfl, by omega⟩
        | 3, _ => exact ⟨_, rfl, by omega⟩
        | 4, _ => exact ⟨_, rfl, by omega⟩
        | 5, _ => exact ⟨_, rfl, by omega⟩
        | 6, _ => exact ⟨_, rfl, by omega⟩
      obtain ⟨od, hat, hod⟩ := hod
      have s3 : Same H2 (upd H2 p (.lst [V.int (-1), V.int (-2), V.int (rs.length : Int), V.int ((rs.length : Int) + 1), V.int ((rs.length : Int) + 3), V.int (-1 - fa), V.int ((rs.length : Int) + fa)])) := Same.upd (Same.refl H2) hp
      have s13 := s12.trans s3
      refine ⟨_, rfl, _, rfl, a, ns, 5, rfl, s13.seq hS, _, _, rfl, rfl, (by show (0 : Int) < 7; decide), p, _, _, V.int od, rfl, rfl, SqL.of upd_same, by rw [show ns.getD 5 0 % 7 = (k : Int) from ek]; exact hat, ?_⟩
      have R3 := (R.same s2).same s3
      have hc3' := s3 _ _ (s2 _ _ hc2)
      generalize upd H2 p _ = H3 at s3 s13 R3 hc3'
      -- insert
      obtain ⟨j, ej, hj⟩ := modN (a := ns.getD 6 0) (c := rs[i].length + 1) (Nat.succ_pos _)
      have ej' : ns.getD 6 0 % ((rs[i].length : Int) + 1) = (j : Int) := by rw [← ej]; simp
      refine ⟨_, rfl, .inl ⟨rfl, _, SqL.of hc3'⟩, _, rfl, a, ns, 6, rfl, s13.seq hS, _, rfl, _, _, rfl, .inl (SqL.of hc3'), _, _, rfl, rfl, _, _, rfl, rfl, by rw [len_ints]; omega, _, rfl, _, _, _, _, rfl, rfl, hc3', ?_⟩
      rw [len_ints]
      dsimp only
      rw [ej']
      refine ⟨by omega, by omega, small1000 (by omega), ?_⟩
      have e2 : insV (nums rs[i]) (j : Int).toNat (V.int od) = nums (insV rs[i] j od) := by
        rw [Int.toNat_natCast]
        exact (insV_map V.int rs[i] j od).symm
      rw [e2]
      refine nx _ _ ⟨b, bs, rs.set i (insV rs[i] j od), "no house", y, z, some (.ref c), o7, some (.int fa), some (.ref p), some (.int od), by rw [List.length_set]; rfl, Same.upd s13 (nw c (List.mem_cons_of_mem _ hc3)), R3.set _ hc1, nw, by rw [List.length_set]; exact h0, by rw [List.length_set]; exact h9, fun q hq => ?_, .inl ⟨⟨_, mem_set_self hi, od, ins_has, by rw [List.length_set]; exact hod⟩, rfl⟩, trivial⟩
      rcases mem_set_cases hq with m' | m'
      · have := sh q m'
        omega
      · rw [m', insV_length]
        omega
    case ins =>
      rintro D σ H1 ⟨nx, b, bs, rs, x, y, z, c, r, i, o7, o8, o9, o10, rfl, s1, R, nw, h0, h9, sh, g, hc1, hr1', hne⟩
      have hc2 := R.row i c r hc1 hr1'
      have hrm : r ∈ rs := List.mem_of_getElem? hr1'
      have hi : i < rs.length := (List.getElem?_eq_some_iff.mp hr1').1
      have hrl := sh r hrm
      have hpos : 0 < r.length := List.length_pos_iff.mpr hne
      obtain ⟨j, ej, hj⟩ := modN (a := ns.getD 7 0) hpos
      have hhm : r[j] ∈ r := List.getElem_mem hj
      -- house
      refine ⟨_, rfl, _, rfl, a, ns, 7, rfl, s1.seq hS, _, rfl, _, _, rfl, .inl (SqL.of hc2), _, _, rfl, rfl, (by rw [len_ints]; omega), _, _, _, V.int r[j], rfl, rfl, SqL.of hc2, ?_, ?_⟩
      · rw [len_ints, ej]
        exact atI_ints (by simp [hj])
      -- insert
      obtain ⟨p, ep, hp⟩ := modN (a := ns.getD 3 0) (c := r.length + 1) (Nat.succ_pos _)
      have ep' : ns.getD 3 0 % ((r.length : Int) + 1) = (p : Int) := by rw [← ep]; simp
      refine ⟨_, rfl, .inl ⟨rfl, _, SqL.of hc2⟩, _, rfl, a, ns, 3, rfl, s1.seq hS, _, rfl, _, _, rfl, .inl (SqL.of hc2), _, _, rfl, rfl, _, _, rfl, rfl, by rw [len_ints]; omega, _, rfl, _, _, _, _, rfl, rfl, hc2, ?_⟩
      rw [len_ints]
      dsimp only
      rw [ep']
      refine ⟨by omega, by omega, small1000 (by omega), ?_⟩
      have e2 : insV (nums r) (p : Int).toNat (V.int r[j]) = nums (insV r p r[j]) := by
        rw [Int.toNat_natCast]
        exact (insV_map V.int r p r[j]).symm
      rw [e2]
      have noH : ¬ NoH (rs.set i (insV r p r[j])) := NoH.not_set g fun u hu => by
        rcases ins_mem hu with m | m
        · exact NoH.rng g hrm m
        · rw [m]; exact NoH.rng g hrm hhm
      refine nx _ _ ⟨b, bs, rs.set i (insV r p r[j]), "twice", y, z, some (.ref c), some (.int r[j]), o8, o9, o10, by rw [List.length_set]; rfl, Same.upd s1 (nw c (List.mem_cons_of_mem _ (List.mem_of_getElem? hc1))), R.set _ hc1, nw, by rw [List.length_set]; exact h0, by rw [List.length_set]; exact h9, fun q hq => ?_, .inr (.inl ⟨noH, ⟨_, mem_set_self hi, ins_twice hhm⟩, rfl⟩), noH⟩
      rcases mem_set_cases hq with m | m
      · have := sh q m
        omega
      · rw [m, insV_length]
        omega
    obtain ⟨ms, ems, hms⟩ := cutV_ints ns (some 2) none
    obtain ⟨c, ec, hc⟩ := modN (a := ns.getD 0 0) (c := 9) (by decide)
    refine ⟨_, rfl, a, ns, 0, rfl, hS, _, rfl, a, ns, 9, 100, rfl, hS, hlen, _, _, rfl, rfl, (by show (0 : Int) < 9; decide), _, _, rfl, rfl, ?_⟩
    have e1 : (1 : Int) + ns.getD 0 0 % 9 = ((1 + c : Nat) : Int) := by
      rw [show ns.getD 0 0 % 9 = (c : Int) from ec]
      omega
    dsimp only
    rw [e1]
    generalize hcc : 1 + c = cc
    have hcc9 : cc ≤ 9 := by omega
    have hcc0 : 0 < cc := by omega
    refine ⟨_, rfl, _, rfl, _, _, rfl, hS, fun p hp => ⟨_, rfl, p, ms, cc, rfl, SqL.of (by rw [upd_same, ems]), by omega, by omega, fun b bs rs H1 s1 R1 n1 W1 L1 => ?_⟩⟩
    have sH1 : Same H H1 := (Same.upd (Same.refl H) hp).trans s1
    have el := W1.len
    subst el
    refine ⟨_, rfl, a, ns, 1, rfl, sH1.seq hS, _, _, rfl, rfl, (by show (0 : Int) < 5; decide), ?_⟩
    refine ⟨_, rfl, a, ns, 2, rfl, sH1.seq hS, ?_⟩
    refine ⟨rfl, b, bs, rs, "done", _, _, none, none, none, none, none, rfl, sH1, R1, fun x hx => (Same.upd (Same.refl H) hp).free (n1 x hx), hcc0, hcc9, fun r hr => by have := L1 r hr; omega, .inr (.inr ⟨W1, rfl⟩), fun ⟨r, hr, x, hx, z⟩ => by have := W1.rng r hr x hx; omega⟩
end
end K02

set_option Elab.async false
set_option linter.all false
set_option maxRecDepth 100000
set_option maxHeartbeats 4000000
namespace K02
open PySem L2 KS
theorem all_mk {l : PySem.W.OpenLaw} {w : World} {K : PySem.W.Frag} {h : Heap} {mg : Str → Option Value} {fa fPRefuseWrong fPHousesFor fPFromLeast fPRingsOf fPOrdersLeft fPRounds fPRather fPDealt fPGladder fPUndoneBy fWhole fAt fRoom fWished fCopies fKept fSpot fLookedTo fIsDealing fDealingBy fAny fBaseTells fSaid fLaw C0 C1 C2 : Addr} (X : K.In h) (G : h.Ns mainGlobals mg) (hfa : mg "law" = some (.ref fa))
    {odPRefuseWrong anPRefuseWrong odPHousesFor anPHousesFor odPFromLeast anPFromLeast odPRingsOf anPRingsOf odPOrdersLeft anPOrdersLeft odPRounds anPRounds odPRather anPRather odPDealt anPDealt odPGladder anPGladder odPUndoneBy anPUndoneBy odWhole anWhole odAt anAt odRoom anRoom odWished anWished odCopies anCopies odKept anKept odSpot anSpot odLookedTo anLookedTo odIsDealing anIsDealing odDealingBy anDealingBy odAny anAny odBaseTells anBaseTells odSaid anSaid odLaw anLaw : Option Addr} {slPRefuseWrong slPHousesFor slPFromLeast slPRingsOf slPOrdersLeft slPRounds slPRather slPDealt slPGladder slPUndoneBy slWhole slAt slRoom slWished slCopies slKept slSpot slLookedTo slIsDealing slDealingBy slAny slBaseTells slSaid slLaw : Array (Option Value)} {ocPRefuseWrong kVPRefuseWrong dcPRefuseWrong pmPRefuseWrong cdPRefuseWrong ctPRefuseWrong ocPHousesFor kVPHousesFor dcPHousesFor pmPHousesFor cdPHousesFor ctPHousesFor ocPFromLeast kVPFromLeast dcPFromLeast pmPFromLeast cdPFromLeast ctPFromLeast ocPRingsOf kVPRingsOf dcPRingsOf pmPRingsOf cdPRingsOf ctPRingsOf ocPOrdersLeft kVPOrdersLeft dcPOrdersLeft pmPOrdersLeft cdPOrdersLeft ctPOrdersLeft ocPRounds kVPRounds dcPRounds pmPRounds cdPRounds ctPRounds ocPRather kVPRather dcPRather pmPRather cdPRather ctPRather ocPDealt kVPDealt dcPDealt pmPDealt cdPDealt ctPDealt ocPGladder kVPGladder dcPGladder pmPGladder cdPGladder ctPGladder ocPUndoneBy kVPUndoneBy dcPUndoneBy pmPUndoneBy cdPUndoneBy ctPUndoneBy ocWhole kVWhole dcWhole pmWhole cdWhole ctWhole ocAt kVAt dcAt pmAt cdAt ctAt ocRoom kVRoom dcRoom pmRoom cdRoom ctRoom ocWished kVWished dcWished pmWished cdWished ctWished ocCopies kVCopies dcCopies pmCopies cdCopies ctCopies ocKept kVKept dcKept pmKept cdKept ctKept ocSpot kVSpot dcSpot pmSpot cdSpot ctSpot ocLookedTo kVLookedTo dcLookedTo pmLookedTo cdLookedTo ctLookedTo ocIsDealing kVIsDealing dcIsDealing pmIsDealing cdIsDealing ctIsDealing ocDealingBy kVDealingBy dcDealingBy pmDealingBy cdDealingBy ctDealingBy ocAny kVAny dcAny pmAny cdAny ctAny ocBaseTells kVBaseTells dcBaseTells pmBaseTells cdBaseTells ctBaseTells ocSaid kVSaid dcSaid pmSaid cdSaid ctSaid ocLaw kVLaw dcLaw pmLaw cdLaw ctLaw : Value}
    (aPRefuseWrong : PySem.W.nsIn K mainGlobals "refuse_wrong" = some (some (.ref fPRefuseWrong))) (lPRefuseWrong : K.lookup fPRefuseWrong = some ⟨ocPRefuseWrong, odPRefuseWrong, .func (PySem.W.fnOf "refuse_wrong" "refuse_wrong" (defArgs sPRefuseWrong) (defBody sPRefuseWrong) (defScope sPRefuseWrong) .none kVPRefuseWrong dcPRefuseWrong pmPRefuseWrong anPRefuseWrong cdPRefuseWrong ctPRefuseWrong), slPRefuseWrong⟩) (cPRefuseWrong : PySem.W.codeIn K cdPRefuseWrong "refuse_wrong" = true) (kPRefuseWrong : PySem.W.keepIn K (.ref fPRefuseWrong) = true)
    (aPHousesFor : PySem.W.nsIn K mainGlobals "houses_for" = some (some (.ref fPHousesFor))) (lPHousesFor : K.lookup fPHousesFor = some ⟨ocPHousesFor, odPHousesFor, .func (PySem.W.fnOf "houses_for" "houses_for" (defArgs sPHousesFor) (defBody sPHousesFor) (defScope sPHousesFor) .none kVPHousesFor dcPHousesFor pmPHousesFor anPHousesFor cdPHousesFor ctPHousesFor), slPHousesFor⟩) (cPHousesFor : PySem.W.codeIn K cdPHousesFor "houses_for" = true) (kPHousesFor : PySem.W.keepIn K (.ref fPHousesFor) = true)
    (aPFromLeast : PySem.W.nsIn K mainGlobals "from_least" = some (some (.ref fPFromLeast))) (lPFromLeast : K.lookup fPFromLeast = some ⟨ocPFromLeast, odPFromLeast, .func (PySem.W.fnOf "from_least" "from_least" (defArgs sPFromLeast) (defBody sPFromLeast) (defScope sPFromLeast) .none kVPFromLeast dcPFromLeast pmPFromLeast anPFromLeast cdPFromLeast ctPFromLeast), slPFromLeast⟩) (cPFromLeast : PySem.W.codeIn K cdPFromLeast "from_least" = true) (kPFromLeast : PySem.W.keepIn K (.ref fPFromLeast) = true)
    (aPRingsOf : PySem.W.nsIn K mainGlobals "rings_of" = some (some (.ref fPRingsOf))) (lPRingsOf : K.lookup fPRingsOf = some ⟨ocPRingsOf, odPRingsOf, .func (PySem.W.fnOf "rings_of" "rings_of" (defArgs sPRingsOf) (defBody sPRingsOf) (defScope sPRingsOf) .none kVPRingsOf dcPRingsOf pmPRingsOf anPRingsOf cdPRingsOf ctPRingsOf), slPRingsOf⟩) (cPRingsOf : PySem.W.codeIn K cdPRingsOf "rings_of" = true) (kPRingsOf : PySem.W.keepIn K (.ref fPRingsOf) = true)
    (aPOrdersLeft : PySem.W.nsIn K mainGlobals "orders_left" = some (some (.ref fPOrdersLeft))) (lPOrdersLeft : K.lookup fPOrdersLeft = some ⟨ocPOrdersLeft, odPOrdersLeft, .func (PySem.W.fnOf "orders_left" "orders_left" (defArgs sPOrdersLeft) (defBody sPOrdersLeft) (defScope sPOrdersLeft) .none kVPOrdersLeft dcPOrdersLeft pmPOrdersLeft anPOrdersLeft cdPOrdersLeft ctPOrdersLeft), slPOrdersLeft⟩) (cPOrdersLeft : PySem.W.codeIn K cdPOrdersLeft "orders_left" = true) (kPOrdersLeft : PySem.W.keepIn K (.ref fPOrdersLeft) = true)
    (aPRounds : PySem.W.nsIn K mainGlobals "rounds" = some (some (.ref fPRounds))) (lPRounds : K.lookup fPRounds = some ⟨ocPRounds, odPRounds, .func (PySem.W.fnOf "rounds" "rounds" (defArgs sPRounds) (defBody sPRounds) (defScope sPRounds) .none kVPRounds dcPRounds pmPRounds anPRounds cdPRounds ctPRounds), slPRounds⟩) (cPRounds : PySem.W.codeIn K cdPRounds "rounds" = true) (kPRounds : PySem.W.keepIn K (.ref fPRounds) = true)
    (aPRather : PySem.W.nsIn K mainGlobals "rather" = some (some (.ref fPRather))) (lPRather : K.lookup fPRather = some ⟨ocPRather, odPRather, .func (PySem.W.fnOf "rather" "rather" (defArgs sPRather) (defBody sPRather) (defScope sPRather) .none kVPRather dcPRather pmPRather anPRather cdPRather ctPRather), slPRather⟩) (cPRather : PySem.W.codeIn K cdPRather "rather" = true) (kPRather : PySem.W.keepIn K (.ref fPRather) = true)
    (aPDealt : PySem.W.nsIn K mainGlobals "dealt" = some (some (.ref fPDealt))) (lPDealt : K.lookup fPDealt = some ⟨ocPDealt, odPDealt, .func (PySem.W.fnOf "dealt" "dealt" (defArgs sPDealt) (defBody sPDealt) (defScope sPDealt) .none kVPDealt dcPDealt pmPDealt anPDealt cdPDealt ctPDealt), slPDealt⟩) (cPDealt : PySem.W.codeIn K cdPDealt "dealt" = true) (kPDealt : PySem.W.keepIn K (.ref fPDealt) = true)
    (aPGladder : PySem.W.nsIn K mainGlobals "gladder" = some (some (.ref fPGladder))) (lPGladder : K.lookup fPGladder = some ⟨ocPGladder, odPGladder, .func (PySem.W.fnOf "gladder" "gladder" (defArgs sPGladder) (defBody sPGladder) (defScope sPGladder) .none kVPGladder dcPGladder pmPGladder anPGladder cdPGladder ctPGladder), slPGladder⟩) (cPGladder : PySem.W.codeIn K cdPGladder "gladder" = true) (kPGladder : PySem.W.keepIn K (.ref fPGladder) = true)
    (aPUndoneBy : PySem.W.nsIn K mainGlobals "undone_by" = some (some (.ref fPUndoneBy))) (lPUndoneBy : K.lookup fPUndoneBy = some ⟨ocPUndoneBy, odPUndoneBy, .func (PySem.W.fnOf "undone_by" "undone_by" (defArgs sPUndoneBy) (defBody sPUndoneBy) (defScope sPUndoneBy) .none kVPUndoneBy dcPUndoneBy pmPUndoneBy anPUndoneBy cdPUndoneBy ctPUndoneBy), slPUndoneBy⟩) (cPUndoneBy : PySem.W.codeIn K cdPUndoneBy "undone_by" = true) (kPUndoneBy : PySem.W.keepIn K (.ref fPUndoneBy) = true)
    (aWhole : PySem.W.nsIn K mainGlobals "_law_whole" = some (some (.ref fWhole))) (lWhole : K.lookup fWhole = some ⟨ocWhole, odWhole, .func (PySem.W.fnOf "_law_whole" "_law_whole" (defArgs sWhole) (defBody sWhole) (defScope sWhole) .none kVWhole dcWhole pmWhole anWhole cdWhole ctWhole), slWhole⟩) (cWhole : PySem.W.codeIn K cdWhole "_law_whole" = true) (kWhole : PySem.W.keepIn K (.ref fWhole) = true)
    (aAt : PySem.W.nsIn K mainGlobals "_law_at" = some (some (.ref fAt))) (lAt : K.lookup fAt = some ⟨ocAt, odAt, .func (PySem.W.fnOf "_law_at" "_law_at" (defArgs sAt) (defBody sAt) (defScope sAt) .none kVAt dcAt pmAt anAt cdAt ctAt), slAt⟩) (cAt : PySem.W.codeIn K cdAt "_law_at" = true) (kAt : PySem.W.keepIn K (.ref fAt) = true)
    (aRoom : PySem.W.nsIn K mainGlobals "_law_room" = some (some (.ref fRoom))) (lRoom : K.lookup fRoom = some ⟨ocRoom, odRoom, .func (PySem.W.fnOf "_law_room" "_law_room" (defArgs sRoom) (defBody sRoom) (defScope sRoom) .none kVRoom dcRoom pmRoom anRoom cdRoom ctRoom), slRoom⟩) (cRoom : PySem.W.codeIn K cdRoom "_law_room" = true) (kRoom : PySem.W.keepIn K (.ref fRoom) = true)
    (aWished : PySem.W.nsIn K mainGlobals "_law_wished" = some (some (.ref fWished))) (lWished : K.lookup fWished = some ⟨ocWished, odWished, .func (PySem.W.fnOf "_law_wished" "_law_wished" (defArgs sWished) (defBody sWished) (defScope sWished) .none kVWished dcWished pmWished anWished cdWished ctWished), slWished⟩) (cWished : PySem.W.codeIn K cdWished "_law_wished" = true) (kWished : PySem.W.keepIn K (.ref fWished) = true)
    (aCopies : PySem.W.nsIn K mainGlobals "_law_copies" = some (some (.ref fCopies))) (lCopies : K.lookup fCopies = some ⟨ocCopies, odCopies, .func (PySem.W.fnOf "_law_copies" "_law_copies" (defArgs sCopies) (defBody sCopies) (defScope sCopies) .none kVCopies dcCopies pmCopies anCopies cdCopies ctCopies), slCopies⟩) (cCopies : PySem.W.codeIn K cdCopies "_law_copies" = true) (kCopies : PySem.W.keepIn K (.ref fCopies) = true)
    (aKept : PySem.W.nsIn K mainGlobals "_law_kept" = some (some (.ref fKept))) (lKept : K.lookup fKept = some ⟨ocKept, odKept, .func (PySem.W.fnOf "_law_kept" "_law_kept" (defArgs sKept) (defBody sKept) (defScope sKept) .none kVKept dcKept pmKept anKept cdKept ctKept), slKept⟩) (cKept : PySem.W.codeIn K cdKept "_law_kept" = true) (kKept : PySem.W.keepIn K (.ref fKept) = true)
    (aSpot : PySem.W.nsIn K mainGlobals "_law_spot" = some (some (.ref fSpot))) (lSpot : K.lookup fSpot = some ⟨ocSpot, odSpot, .func (PySem.W.fnOf "_law_spot" "_law_spot" (defArgs sSpot) (defBody sSpot) (defScope sSpot) .none kVSpot dcSpot pmSpot anSpot cdSpot ctSpot), slSpot⟩) (cSpot : PySem.W.codeIn K cdSpot "_law_spot" = true) (kSpot : PySem.W.keepIn K (.ref fSpot) = true)
    (aLookedTo : PySem.W.nsIn K mainGlobals "_law_looked_to" = some (some (.ref fLookedTo))) (lLookedTo : K.lookup fLookedTo = some ⟨ocLookedTo, odLookedTo, .func (PySem.W.fnOf "_law_looked_to" "_law_looked_to" (defArgs sLookedTo) (defBody sLookedTo) (defScope sLookedTo) .none kVLookedTo dcLookedTo pmLookedTo anLookedTo cdLookedTo ctLookedTo), slLookedTo⟩) (cLookedTo : PySem.W.codeIn K cdLookedTo "_law_looked_to" = true) (kLookedTo : PySem.W.keepIn K (.ref fLookedTo) = true)
    (aIsDealing : PySem.W.nsIn K mainGlobals "_law_is_dealing" = some (some (.ref fIsDealing))) (lIsDealing : K.lookup fIsDealing = some ⟨ocIsDealing, odIsDealing, .func (PySem.W.fnOf "_law_is_dealing" "_law_is_dealing" (defArgs sIsDealing) (defBody sIsDealing) (defScope sIsDealing) .none kVIsDealing dcIsDealing pmIsDealing anIsDealing cdIsDealing ctIsDealing), slIsDealing⟩) (cIsDealing : PySem.W.codeIn K cdIsDealing "_law_is_dealing" = true) (kIsDealing : PySem.W.keepIn K (.ref fIsDealing) = true)
    (aDealingBy : PySem.W.nsIn K mainGlobals "_law_dealing_by" = some (some (.ref fDealingBy))) (lDealingBy : K.lookup fDealingBy = some ⟨ocDealingBy, odDealingBy, .func (PySem.W.fnOf "_law_dealing_by" "_law_dealing_by" (defArgs sDealingBy) (defBody sDealingBy) (defScope sDealingBy) .none kVDealingBy dcDealingBy pmDealingBy anDealingBy cdDealingBy ctDealingBy), slDealingBy⟩) (cDealingBy : PySem.W.codeIn K cdDealingBy "_law_dealing_by" = true) (kDealingBy : PySem.W.keepIn K (.ref fDealingBy) = true)
    (aAny : PySem.W.nsIn K mainGlobals "_law_any" = some (some (.ref fAny))) (lAny : K.lookup fAny = some ⟨ocAny, odAny, .func (PySem.W.fnOf "_law_any" "_law_any" (defArgs sAny) (defBody sAny) (defScope sAny) .none kVAny dcAny pmAny anAny cdAny ctAny), slAny⟩) (cAny : PySem.W.codeIn K cdAny "_law_any" = true) (kAny : PySem.W.keepIn K (.ref fAny) = true)
    (aBaseTells : PySem.W.nsIn K mainGlobals "_law_base_tells" = some (some (.ref fBaseTells))) (lBaseTells : K.lookup fBaseTells = some ⟨ocBaseTells, odBaseTells, .func (PySem.W.fnOf "_law_base_tells" "_law_base_tells" (defArgs sBaseTells) (defBody sBaseTells) (defScope sBaseTells) .none kVBaseTells dcBaseTells pmBaseTells anBaseTells cdBaseTells ctBaseTells), slBaseTells⟩) (cBaseTells : PySem.W.codeIn K cdBaseTells "_law_base_tells" = true) (kBaseTells : PySem.W.keepIn K (.ref fBaseTells) = true)
    (aSaid : PySem.W.nsIn K mainGlobals "_law_said" = some (some (.ref fSaid))) (lSaid : K.lookup fSaid = some ⟨ocSaid, odSaid, .func (PySem.W.fnOf "_law_said" "_law_said" (defArgs sSaid) (defBody sSaid) (defScope sSaid) .none kVSaid dcSaid pmSaid anSaid cdSaid ctSaid), slSaid⟩) (cSaid : PySem.W.codeIn K cdSaid "_law_said" = true) (kSaid : PySem.W.keepIn K (.ref fSaid) = true)
    (aLaw : PySem.W.nsIn K mainGlobals "law" = some (some (.ref fLaw))) (lLaw : K.lookup fLaw = some ⟨ocLaw, odLaw, .func (PySem.W.fnOf "law" "law" (defArgs sLaw) (defBody sLaw) (defScope sLaw) .none kVLaw dcLaw pmLaw anLaw cdLaw ctLaw), slLaw⟩) (cLaw : PySem.W.codeIn K cdLaw "law" = true) (kLaw : PySem.W.keepIn K (.ref fLaw) = true)
    (z_len : PySem.W.nsIn K mainGlobals "len" = some none)
    (z_range : PySem.W.nsIn K mainGlobals "range" = some none)
    (z_list : PySem.W.nsIn K mainGlobals "list" = some none)
    (z_isinstance : PySem.W.nsIn K mainGlobals "isinstance" = some none)
    (z_int : PySem.W.nsIn K mainGlobals "int" = some none)
    (z_bool : PySem.W.nsIn K mainGlobals "bool" = some none)
    (z_min : PySem.W.nsIn K mainGlobals "min" = some none)
    (z_reversed : PySem.W.nsIn K mainGlobals "reversed" = some none)
    (z_abs : PySem.W.nsIn K mainGlobals "abs" = some none)
    (z_enumerate : PySem.W.nsIn K mainGlobals "enumerate" = some none)
    (z_zip : PySem.W.nsIn K mainGlobals "zip" = some none)
    (z_set : PySem.W.nsIn K mainGlobals "set" = some none)
    (z_sorted : PySem.W.nsIn K mainGlobals "sorted" = some none)
    (y_i_int : PySem.W.kitOne K (.type "int") (.type "int") = some true)
    (y_i_bool : PySem.W.kitOne K (.type "int") (.type "bool") = some false)
    (y_b_bool : PySem.W.kitOne K (.type "bool") (.type "bool") = some true)
    (y_l_list : PySem.W.kitOne K (.type "list") (.type "list") = some true)
    (x_g0 : PySem.W.nsIn K mainGlobals "SwapError" = some (some (.ref C0)))
    (x_g1 : PySem.W.nsIn K mainGlobals "NoHouse" = some (some (.ref C1)))
    (x_g2 : PySem.W.nsIn K mainGlobals "Twice" = some (some (.ref C2)))
    (x_v1 : L2.OwnVE K C1)
    (x_v2 : L2.OwnVE K C2)
    (x_ga1 : PySem.W.findIn K (.ref C1) "__getattribute__" = some (some (.builtin "BaseException.__getattribute__")))
    (x_gt1 : PySem.W.findIn K (.ref C1) "__getattr__" = some none)
    (x_cl1 : PySem.W.findIn K (.ref C1) "__class__" = some (some (.builtin "object.__class__")))
    (x_be1 : PySem.W.mroIn K C1 (.type "BaseException") = some true)
    (x_ob1 : PySem.W.mroIn K C1 (.type "object") = some true)
    (x_ga2 : PySem.W.findIn K (.ref C2) "__getattribute__" = some (some (.builtin "BaseException.__getattribute__")))
    (x_gt2 : PySem.W.findIn K (.ref C2) "__getattr__" = some none)
    (x_cl2 : PySem.W.findIn K (.ref C2) "__class__" = some (some (.builtin "object.__class__")))
    (x_be2 : PySem.W.mroIn K C2 (.type "BaseException") = some true)
    (x_ob2 : PySem.W.mroIn K C2 (.type "object") = some true)
    (x_e10 : PySem.W.exmOne K (.ref C1) (.ref C0) = some true)
    (x_e20 : PySem.W.exmOne K (.ref C2) (.ref C0) = some true)
    (x_e11 : PySem.W.exmOne K (.ref C1) (.ref C1) = some true)
    (x_e21 : PySem.W.exmOne K (.ref C2) (.ref C1) = some false)
    (x_e22 : PySem.W.exmOne K (.ref C2) (.ref C2) = some true)
    (x_k11 : PySem.W.kitOne K (.ref C1) (.ref C1) = some true)
    (x_k12 : PySem.W.kitOne K (.ref C1) (.ref C2) = some false)
    (x_k21 : PySem.W.kitOne K (.ref C2) (.ref C1) = some false)
    (x_k22 : PySem.W.kitOne K (.ref C2) (.ref C2) = some true)
    (x_kv1 : PySem.W.kitOne K (.ref C1) (.type "ValueError") = some true)
    (x_kv2 : PySem.W.kitOne K (.ref C2) (.type "ValueError") = some true)
    (x_ve : PySem.W.nsIn K mainGlobals "ValueError" = some none)
    : ∃ fd : FuncData, (∀ (s : Shared) (v : Value), BindsTo s fd ⟨[v], []⟩ [("_law_script", v)]) ∧ ∀ base : Heap, K.In base → base.Ns mainGlobals mg → FnOk l.prog w K mg base CX0 6 fa fd ["_law_script"] (spLaw K) := by
  have e := hfa.symm.trans (PySem.W.mg_of X G aLaw)
  cases e
  have T : Own K mg := ⟨PySem.W.mg_none_of X G z_len, PySem.W.mg_none_of X G z_range, PySem.W.mg_none_of X G z_list, PySem.W.mg_none_of X G z_isinstance, PySem.W.mg_none_of X G z_int, PySem.W.mg_none_of X G z_bool, PySem.W.mg_none_of X G z_min, PySem.W.mg_none_of X G z_reversed, PySem.W.mg_none_of X G z_abs, PySem.W.mg_none_of X G z_enumerate, PySem.W.mg_none_of X G z_zip, PySem.W.mg_none_of X G z_set, PySem.W.mg_none_of X G z_sorted, y_i_int, y_i_bool, y_b_bool, y_l_list⟩
  have FPRefuseWrong := fun_mk (st := sPRefuseWrong) lPRefuseWrong cPRefuseWrong kPRefuseWrong
  have bPRefuseWrong := FPRefuseWrong.binds (ps := ["wishes"]) fun _ _ _ _ _ _ us hl => match us, hl with | [_], _ => rfl
  have FPHousesFor := fun_mk (st := sPHousesFor) lPHousesFor cPHousesFor kPHousesFor
  have bPHousesFor := FPHousesFor.binds (ps := ["wishes", "holder"]) fun _ _ _ _ _ _ us hl => match us, hl with | [_, _], _ => rfl
  have FPFromLeast := fun_mk (st := sPFromLeast) lPFromLeast cPFromLeast kPFromLeast
  have bPFromLeast := FPFromLeast.binds (ps := ["ring"]) fun _ _ _ _ _ _ us hl => match us, hl with | [_], _ => rfl
  have FPRingsOf := fun_mk (st := sPRingsOf) lPRingsOf cPRingsOf kPRingsOf
  have bPRingsOf := FPRingsOf.binds (ps := ["orders"]) fun _ _ _ _ _ _ us hl => match us, hl with | [_], _ => rfl
  have FPOrdersLeft := fun_mk (st := sPOrdersLeft) lPOrdersLeft cPOrdersLeft kPOrdersLeft
  have bPOrdersLeft := FPOrdersLeft.binds (ps := ["orders", "rings"]) fun _ _ _ _ _ _ us hl => match us, hl with | [_, _], _ => rfl
  have FPRounds := fun_mk (st := sPRounds) lPRounds cPRounds kPRounds
  have bPRounds := FPRounds.binds (ps := ["wishes"]) fun _ _ _ _ _ _ us hl => match us, hl with | [_], _ => rfl
  have FPRather := fun_mk (st := sPRather) lPRather cPRather kPRather
  have bPRather := FPRather.binds (ps := ["wishes", "holder", "one", "other"]) fun _ _ _ _ _ _ us hl => match us, hl with | [_, _, _, _], _ => rfl
  have FPDealt := fun_mk (st := sPDealt) lPDealt cPDealt kPDealt
  have bPDealt := FPDealt.binds (ps := ["wishes"]) fun _ _ _ _ _ _ us hl => match us, hl with | [_], _ => rfl
  have FPGladder := fun_mk (st := sPGladder) lPGladder cPGladder kPGladder
  have bPGladder := FPGladder.binds (ps := ["wishes", "houses", "others"]) fun _ _ _ _ _ _ us hl => match us, hl with | [_, _, _], _ => rfl
  have FPUndoneBy := fun_mk (st := sPUndoneBy) lPUndoneBy cPUndoneBy kPUndoneBy
  have bPUndoneBy := FPUndoneBy.binds (ps := ["wishes", "houses", "group", "among"]) fun _ _ _ _ _ _ us hl => match us, hl with | [_, _, _, _], _ => rfl
  have FWhole := fun_mk (st := sWhole) lWhole cWhole kWhole
  have bWhole := FWhole.binds (ps := ["_law_found"]) fun _ _ _ _ _ _ us hl => match us, hl with | [_], _ => rfl
  have FAt := fun_mk (st := sAt) lAt cAt kAt
  have bAt := FAt.binds (ps := ["_law_script", "_law_k"]) fun _ _ _ _ _ _ us hl => match us, hl with | [_, _], _ => rfl
  have FRoom := fun_mk (st := sRoom) lRoom cRoom kRoom
  have bRoom := FRoom.binds (ps := ["_law_script", "_law_most", "_law_bound"]) fun _ _ _ _ _ _ us hl => match us, hl with | [_, _, _], _ => rfl
  have FWished := fun_mk (st := sWished) lWished cWished kWished
  have bWished := FWished.binds (ps := ["_law_cells", "_law_count"]) fun _ _ _ _ _ _ us hl => match us, hl with | [_, _], _ => rfl
  have FCopies := fun_mk (st := sCopies) lCopies cCopies kCopies
  have bCopies := FCopies.binds (ps := ["_law_lists"]) fun _ _ _ _ _ _ us hl => match us, hl with | [_], _ => rfl
  have FKept := fun_mk (st := sKept) lKept cKept kKept
  have bKept := FKept.binds (ps := ["_law_found", "_law_due"]) fun _ _ _ _ _ _ us hl => match us, hl with | [_, _], _ => rfl
  have FSpot := fun_mk (st := sSpot) lSpot cSpot kSpot
  have bSpot := FSpot.binds (ps := ["_law_lists", "_law_holder", "_law_house"]) fun _ _ _ _ _ _ us hl => match us, hl with | [_, _, _], _ => rfl
  have FLookedTo := fun_mk (st := sLookedTo) lLookedTo cLookedTo kLookedTo
  have bLookedTo := FLookedTo.binds (ps := ["_law_lists", "_law_there", "_law_holder"]) fun _ _ _ _ _ _ us hl => match us, hl with | [_, _, _], _ => rfl
  have FIsDealing := fun_mk (st := sIsDealing) lIsDealing cIsDealing kIsDealing
  have bIsDealing := FIsDealing.binds (ps := ["_law_found", "_law_count"]) fun _ _ _ _ _ _ us hl => match us, hl with | [_, _], _ => rfl
  have FDealingBy := fun_mk (st := sDealingBy) lDealingBy cDealingBy kDealingBy
  have bDealingBy := FDealingBy.binds (ps := ["_law_lists"]) fun _ _ _ _ _ _ us hl => match us, hl with | [_], _ => rfl
  have FAny := fun_mk (st := sAny) lAny cAny kAny
  have bAny := FAny.binds (ps := ["_law_cell"]) fun _ _ _ _ _ _ us hl => match us, hl with | [_], _ => rfl
  have FBaseTells := fun_mk (st := sBaseTells) lBaseTells cBaseTells kBaseTells
  have bBaseTells := FBaseTells.binds (ps := ["_law_lists", "_law_way"]) fun _ _ _ _ _ _ us hl => match us, hl with | [_, _], _ => rfl
  have FSaid := fun_mk (st := sSaid) lSaid cSaid kSaid
  have bSaid := FSaid.binds (ps := ["_law_way", "_law_lists"]) fun _ _ _ _ _ _ us hl => match us, hl with | [_, _], _ => rfl
  have FLaw := fun_mk (st := sLaw) lLaw cLaw kLaw
  have bLaw := FLaw.binds (ps := ["_law_script"]) fun _ _ _ _ _ _ us hl => match us, hl with | [_], _ => rfl
  refine ⟨PySem.W.fnOf "law" "law" (defArgs sLaw) (defBody sLaw) (defScope sLaw) .none kVLaw dcLaw pmLaw anLaw cdLaw ctLaw, fun s v => .of_eq rfl, fun base _ _ => ?_⟩
  have APRefuseWrong : Fn l.prog w K mg base "refuse_wrong" ["wishes"] 1 spRefuse := ⟨fPRefuseWrong, _, ok_prefusewrong FPRefuseWrong T, PySem.W.mg_of X G aPRefuseWrong, kPRefuseWrong, bPRefuseWrong⟩
  have APHousesFor : Fn l.prog w K mg base "houses_for" ["wishes", "holder"] 1 spHouses := ⟨fPHousesFor, _, ok_phousesfor FPHousesFor T, PySem.W.mg_of X G aPHousesFor, kPHousesFor, bPHousesFor⟩
  have APFromLeast : Fn l.prog w K mg base "from_least" ["ring"] 1 (spLeast K) := ⟨fPFromLeast, _, ok_pfromleast FPFromLeast T, PySem.W.mg_of X G aPFromLeast, kPFromLeast, bPFromLeast⟩
  have APRingsOf : Fn l.prog w K mg base "rings_of" ["orders"] 2 spRingsOf := ⟨fPRingsOf, _, ok_pringsof FPRingsOf T APFromLeast, PySem.W.mg_of X G aPRingsOf, kPRingsOf, bPRingsOf⟩
  have APOrdersLeft : Fn l.prog w K mg base "orders_left" ["orders", "rings"] 1 spLeft := ⟨fPOrdersLeft, _, ok_pordersleft FPOrdersLeft T, PySem.W.mg_of X G aPOrdersLeft, kPOrdersLeft, bPOrdersLeft⟩
  have APRounds : Fn l.prog w K mg base "rounds" ["wishes"] 3 spRounds := ⟨fPRounds, _, ok_prounds FPRounds T APRefuseWrong APHousesFor APRingsOf APOrdersLeft, PySem.W.mg_of X G aPRounds, kPRounds, bPRounds⟩
  have APRather : Fn l.prog w K mg base "rather" ["wishes", "holder", "one", "other"] 2 spRather := ⟨fPRather, _, ok_prather FPRather T APHousesFor, PySem.W.mg_of X G aPRather, kPRather, bPRather⟩
  have APDealt : Fn l.prog w K mg base "dealt" ["wishes"] 4 spDealt := ⟨fPDealt, _, ok_pdealt FPDealt T APRounds, PySem.W.mg_of X G aPDealt, kPDealt, bPDealt⟩
  have APGladder : Fn l.prog w K mg base "gladder" ["wishes", "houses", "others"] 3 (spGladder K) := ⟨fPGladder, _, ok_pgladder FPGladder T APRefuseWrong APRather, PySem.W.mg_of X G aPGladder, kPGladder, bPGladder⟩
  have APUndoneBy : Fn l.prog w K mg base "undone_by" ["wishes", "houses", "group", "among"] 3 (spUndone K) := ⟨fPUndoneBy, _, ok_pundoneby FPUndoneBy T APRefuseWrong APRather, PySem.W.mg_of X G aPUndoneBy, kPUndoneBy, bPUndoneBy⟩
  have AWhole : Fn l.prog w K mg base "_law_whole" ["_law_found"] 1 spWhole := ⟨fWhole, _, ok_whole FWhole T, PySem.W.mg_of X G aWhole, kWhole, bWhole⟩
  have AAt : Fn l.prog w K mg base "_law_at" ["_law_script", "_law_k"] 1 (spAt K) := ⟨fAt, _, ok_at FAt T, PySem.W.mg_of X G aAt, kAt, bAt⟩
  have ARoom : Fn l.prog w K mg base "_law_room" ["_law_script", "_law_most", "_law_bound"] 1 (spRoom K) := ⟨fRoom, _, ok_room FRoom T, PySem.W.mg_of X G aRoom, kRoom, bRoom⟩
  have AWished : Fn l.prog w K mg base "_law_wished" ["_law_cells", "_law_count"] 1 (spWished K) := ⟨fWished, _, ok_wished FWished T, PySem.W.mg_of X G aWished, kWished, bWished⟩
  have ACopies : Fn l.prog w K mg base "_law_copies" ["_law_lists"] 1 spCopies := ⟨fCopies, _, ok_copies FCopies T, PySem.W.mg_of X G aCopies, kCopies, bCopies⟩
  have AKept : Fn l.prog w K mg base "_law_kept" ["_law_found", "_law_due"] 2 spKept := ⟨fKept, _, ok_kept FKept T AWhole, PySem.W.mg_of X G aKept, kKept, bKept⟩
  have ASpot : Fn l.prog w K mg base "_law_spot" ["_law_lists", "_law_holder", "_law_house"] 1 spSpot := ⟨fSpot, _, ok_spot FSpot T, PySem.W.mg_of X G aSpot, kSpot, bSpot⟩
  have ALookedTo : Fn l.prog w K mg base "_law_looked_to" ["_law_lists", "_law_there", "_law_holder"] 2 (spLookedTo K) := ⟨fLookedTo, _, ok_lookedto FLookedTo T ASpot, PySem.W.mg_of X G aLookedTo, kLookedTo, bLookedTo⟩
  have AIsDealing : Fn l.prog w K mg base "_law_is_dealing" ["_law_found", "_law_count"] 2 spIsDealing := ⟨fIsDealing, _, ok_isdealing FIsDealing T AWhole, PySem.W.mg_of X G aIsDealing, kIsDealing, bIsDealing⟩
  have ADealingBy : Fn l.prog w K mg base "_law_dealing_by" ["_law_lists"] 3 spDealt := ⟨fDealingBy, _, ok_dealingby FDealingBy T ALookedTo, PySem.W.mg_of X G aDealingBy, kDealingBy, bDealingBy⟩
  have AAny : Fn l.prog w K mg base "_law_any" ["_law_cell"] 1 spAny := ⟨fAny, _, ok_any FAny T, PySem.W.mg_of X G aAny, kAny, bAny⟩
  have Z : Refs K mg C0 C1 C2 := ⟨PySem.W.mg_of X G x_g0, PySem.W.mg_of X G x_g1, PySem.W.mg_of X G x_g2, x_v1, x_v2, ⟨x_ga1, x_gt1, x_cl1, x_be1, x_ob1⟩, ⟨x_ga2, x_gt2, x_cl2, x_be2, x_ob2⟩, x_e10, x_e20, x_e11, x_e21, x_e22, x_k11, x_k12, x_k21, x_k22, x_kv1, x_kv2, PySem.W.mg_none_of X G x_ve⟩
  have X1 : FnX l.prog w K mg base "refuse_wrong" ["wishes"] 1 (spWrong C1 C2 0) := ⟨fPRefuseWrong, _, ox_prefusewrong FPRefuseWrong T Z, PySem.W.mg_of X G aPRefuseWrong, kPRefuseWrong, bPRefuseWrong⟩
  have X2 : FnX l.prog w K mg base "rounds" ["wishes"] 2 (spWrong C1 C2 0) := ⟨fPRounds, _, ox_prounds FPRounds T X1, PySem.W.mg_of X G aPRounds, kPRounds, bPRounds⟩
  have Y1 : FnX l.prog w K mg base "rounds" ["wishes"] 3 (orSp spRounds (spWrong C1 C2 0)) := ⟨fPRounds, _, ((ok_prounds FPRounds T APRefuseWrong APHousesFor APRingsOf APOrdersLeft).cx1).or ((ox_prounds FPRounds T X1).mono (by decide)), PySem.W.mg_of X G aPRounds, kPRounds, bPRounds⟩
  have Y2 : FnX l.prog w K mg base "dealt" ["wishes"] 4 (orSp spDealt (spWrong C1 C2 0)) := ⟨fPDealt, _, ((ok_pdealt FPDealt T APRounds).cx1).or ((ox_pdealt FPDealt T X2).mono (by decide)), PySem.W.mg_of X G aPDealt, kPDealt, bPDealt⟩
  have Y3 : FnX l.prog w K mg base "gladder" ["wishes", "houses", "others"] 3 (orSp (spGladder K) (spWrong C1 C2 2)) := ⟨fPGladder, _, ((ok_pgladder FPGladder T APRefuseWrong APRather).cx1).or ((ox_pgladder FPGladder T X1).mono (by decide)), PySem.W.mg_of X G aPGladder, kPGladder, bPGladder⟩
  have Y4 : FnX l.prog w K mg base "undone_by" ["wishes", "houses", "group", "among"] 3 (orSp (spUndone K) (spWrong C1 C2 3)) := ⟨fPUndoneBy, _, ((ok_pundoneby FPUndoneBy T APRefuseWrong APRather).cx1).or ((ox_pundoneby FPUndoneBy T X1).mono (by decide)), PySem.W.mg_of X G aPUndoneBy, kPUndoneBy, bPUndoneBy⟩
  have ABaseTells : Fn l.prog w K mg base "_law_base_tells" ["_law_lists", "_law_way"] 4 spBaseTells := ⟨fBaseTells, _, ok_basetells FBaseTells T Z Y1 Y3, PySem.W.mg_of X G aBaseTells, kBaseTells, bBaseTells⟩
  have ASaid : Fn l.prog w K mg base "_law_said" ["_law_way", "_law_lists"] 5 spSaid := ⟨fSaid, _, ok_said FSaid T Z Y1 Y2 Y3 Y4, PySem.W.mg_of X G aSaid, kSaid, bSaid⟩
  exact ok_law FLaw T Z AAt ARoom AWished AAny ACopies ABaseTells ASaid AKept APDealt AIsDealing ADealingBy
theorem walk {l : PySem.W.OpenLaw} {q : Program} {loose : List Str} {XP : (Str → Option Value) → Heap → Prop} {YP : World → Heap → Prop} {d : DefRec} {K : Params → PySem.W.Frag} (hn : l.most = some 63) (hdf : d.params.defaults = [])
    (hY : ∀ (w : World) (h : Heap), YP w h → (K w.params).In h)
    (F : ∀ (w : World) (mg : Str → Option Value) (fa : Addr) (h : Heap), (K w.params).In h → h.Ns mainGlobals mg → mg d.name = some (.ref fa) →
      ∃ fd : FuncData, (∀ (s : Shared) (u : Value), BindsTo s fd ⟨[u], []⟩ [("_law_script", u)]) ∧ ∀ base : Heap, (K w.params).In base → base.Ns mainGlobals mg → FnOk l.prog w (K w.params) mg base CX0 6 fa fd ["_law_script"] (spLaw (K w.params))) :
    PySem.W.WalkO q loose XP YP l.row.toRowW d [] (fun f vs => PySem.call f vs) :=
  L2.walk_of (n := 63) (k := 6) (x := "_law_script") (CX := fun _ => CX0) (sp := fun w => spLaw (K w.params)) hn (by decide) hdf ⟨rfl, by decide, by decide⟩ hY F (fun _ _ a ns hl _ hS => ⟨a, ns, rfl, hS, hl, fun _ => rfl⟩) fun _ _ _ _ _ z => z
end K02
open PySem PySem.W PyProof.Rows
set_option maxRecDepth 100000 in
set_option maxHeartbeats 0 in
theorem PySem.Challenge.cw_keyswap_k02_refused_holds : PySem.Challenge.rw_keyswap_k02_refused.Holds := by
  w_on; o_law; k_head; (case hw => w_witness2)
  k_fill
  refine K02.walk (l := PySem.Challenge.rw_keyswap_k02_refused) rfl rfl (fun w h Y => PySem.W.kIn_of Y) ?F
  case F =>
    intro w mg fa h KX G hmg
    refine' K02.all_mk KX G hmg ?aPRefuseWrong ?lPRefuseWrong ?cPRefuseWrong ?kPRefuseWrong ?aPHousesFor ?lPHousesFor ?cPHousesFor ?kPHousesFor ?aPFromLeast ?lPFromLeast ?cPFromLeast ?kPFromLeast ?aPRingsOf ?lPRingsOf ?cPRingsOf ?kPRingsOf ?aPOrdersLeft ?lPOrdersLeft ?cPOrdersLeft ?kPOrdersLeft ?aPRounds ?lPRounds ?cPRounds ?kPRounds ?aPRather ?lPRather ?cPRather ?kPRather ?aPDealt ?lPDealt ?cPDealt ?kPDealt ?aPGladder ?lPGladder ?cPGladder ?kPGladder ?aPUndoneBy ?lPUndoneBy ?cPUndoneBy ?kPUndoneBy ?aWhole ?lWhole ?cWhole ?kWhole ?aAt ?lAt ?cAt ?kAt ?aRoom ?lRoom ?cRoom ?kRoom ?aWished ?lWished ?cWished ?kWished ?aCopies ?lCopies ?cCopies ?kCopies ?aKept ?lKept ?cKept ?kKept ?aSpot ?lSpot ?cSpot ?kSpot ?aLookedTo ?lLookedTo ?cLookedTo ?kLookedTo ?aIsDealing ?lIsDealing ?cIsDealing ?kIsDealing ?aDealingBy ?lDealingBy ?cDealingBy ?kDealingBy ?aAny ?lAny ?cAny ?kAny ?aBaseTells ?lBaseTells ?cBaseTells ?kBaseTells ?aSaid ?lSaid ?cSaid ?kSaid ?aLaw ?lLaw ?cLaw ?kLaw ?z_len ?z_range ?z_list ?z_isinstance ?z_int ?z_bool ?z_min ?z_reversed ?z_abs ?z_enumerate ?z_zip ?z_set ?z_sorted ?y_i_int ?y_i_bool ?y_b_bool ?y_l_list ?x_g0 ?x_g1 ?x_g2 ?x_v1 ?x_v2 ?x_ga1 ?x_gt1 ?x_cl1 ?x_be1 ?x_ob1 ?x_ga2 ?x_gt2 ?x_cl2 ?x_be2 ?x_ob2 ?x_e10 ?x_e20 ?x_e11 ?x_e21 ?x_e22 ?x_k11 ?x_k12 ?x_k21 ?x_k22 ?x_kv1 ?x_kv2 ?x_ve
    (case aPRefuseWrong => k_is)
    (case lPRefuseWrong => k_is)
    (case cPRefuseWrong => k_is)
    (case kPRefuseWrong => k_is)
    (case aPHousesFor => k_is)
    (case lPHousesFor => k_is)
    (case cPHousesFor => k_is)
    (case kPHousesFor => k_is)
    (case aPFromLeast => k_is)
    (case lPFromLeast => k_is)
    (case cPFromLeast => k_is)
    (case kPFromLeast => k_is)
    (case aPRingsOf => k_is)
    (case lPRingsOf => k_is)
    (case cPRingsOf => k_is)
    (case kPRingsOf => k_is)
    (case aPOrdersLeft => k_is)
    (case lPOrdersLeft => k_is)
    (case cPOrdersLeft => k_is)
    (case kPOrdersLeft => k_is)
    (case aPRounds => k_is)
    (case lPRounds => k_is)
    (case cPRounds => k_is)
    (case kPRounds => k_is)
    (case aPRather => k_is)
    (case lPRather => k_is)
    (case cPRather => k_is)
    (case kPRather => k_is)
    (case aPDealt => k_is)
    (case lPDealt => k_is)
    (case cPDealt => k_is)
    (case kPDealt => k_is)
    (case aPGladder => k_is)
    (case lPGladder => k_is)
    (case cPGladder => k_is)
    (case kPGladder => k_is)
    (case aPUndoneBy => k_is)
    (case lPUndoneBy => k_is)
    (case cPUndoneBy => k_is)
    (case kPUndoneBy => k_is)
    (case aWhole => k_is)
    (case lWhole => k_is)
    (case cWhole => k_is)
    (case kWhole => k_is)
    (case aAt => k_is)
    (case lAt => k_is)
    (case cAt => k_is)
    (case kAt => k_is)
    (case aRoom => k_is)
    (case lRoom => k_is)
    (case cRoom => k_is)
    (case kRoom => k_is)
    (case aWished => k_is)
    (case lWished => k_is)
    (case cWished => k_is)
    (case kWished => k_is)
    (case aCopies => k_is)
    (case lCopies => k_is)
    (case cCopies => k_is)
    (case kCopies => k_is)
    (case aKept => k_is)
    (case lKept => k_is)
    (case cKept => k_is)
    (case kKept => k_is)
    (case aSpot => k_is)
    (case lSpot => k_is)
    (case cSpot => k_is)
    (case kSpot => k_is)
    (case aLookedTo => k_is)
    (case lLookedTo => k_is)
    (case cLookedTo => k_is)
    (case kLookedTo => k_is)
    (case aIsDealing => k_is)
    (case lIsDealing => k_is)
    (case cIsDealing => k_is)
    (case kIsDealing => k_is)
    (case aDealingBy => k_is)
    (case lDealingBy => k_is)
    (case cDealingBy => k_is)
    (case kDealingBy => k_is)
    (case aAny => k_is)
    (case lAny => k_is)
    (case cAny => k_is)
    (case kAny => k_is)
    (case aBaseTells => k_is)
    (case lBaseTells => k_is)
    (case cBaseTells => k_is)
    (case kBaseTells => k_is)
    (case aSaid => k_is)
    (case lSaid => k_is)
    (case cSaid => k_is)
    (case kSaid => k_is)
    (case aLaw => k_is)
    (case lLaw => k_is)
    (case cLaw => k_is)
    (case kLaw => k_is)
    (case z_len => k_is)
    (case z_range => k_is)
    (case z_list => k_is)
    (case z_isinstance => k_is)
    (case z_int => k_is)
    (case z_bool => k_is)
    (case z_min => k_is)
    (case z_reversed => k_is)
    (case z_abs => k_is)
    (case z_enumerate => k_is)
    (case z_zip => k_is)
    (case z_set => k_is)
    (case z_sorted => k_is)
    (case y_i_int => first | rfl | k_is)
    (case y_i_bool => first | rfl | k_is)
    (case y_b_bool => first | rfl | k_is)
    (case y_l_list => first | rfl | k_is)
    (case x_g0 => first | k_is | rfl)
    (case x_g1 => first | k_is | rfl)
    (case x_g2 => first | k_is | rfl)
    (case x_v1 => (show PySem.W.excIn _ _ _ _ = _); k_exc)
    (case x_v2 => (show PySem.W.excIn _ _ _ _ = _); k_exc)
    (case x_ga1 => first | k_is | rfl)
    (case x_gt1 => first | k_is | rfl)
    (case x_cl1 => first | k_is | rfl)
    (case x_be1 => first | k_is | rfl)
    (case x_ob1 => first | k_is | rfl)
    (case x_ga2 => first | k_is | rfl)
    (case x_gt2 => first | k_is | rfl)
    (case x_cl2 => first | k_is | rfl)
    (case x_be2 => first | k_is | rfl)
    (case x_ob2 => first | k_is | rfl)
    (case x_e10 => first | k_is | rfl)
    (case x_e20 => first | k_is | rfl)
    (case x_e11 => first | k_is | rfl)
    (case x_e21 => first | k_is | rfl)
    (case x_e22 => first | k_is | rfl)
    (case x_k11 => first | k_is | rfl)
    (case x_k12 => first | k_is | rfl)
    (case x_k21 => first | k_is | rfl)
    (case x_k22 => first | k_is | rfl)
    (case x_kv1 => first | k_is | rfl)
    (case x_kv2 => first | k_is | rfl)
    (case x_ve => first | k_is | rfl)

